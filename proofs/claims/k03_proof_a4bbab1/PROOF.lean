import PyProof.Rows.All
import Wide.All
import OpenK.AllK
import Wide.FinOn
import Lean
import PyProof.EqAt
import PyProof.EqKinds
import PyProof.TupleCall
import PyProof.NeKinds
import PyProof.FactsAll.tuple_2
import KE.KSortTup
import PySem.Challenge.RW_downrings_k03_skies_looked_at
set_option Elab.async false
set_option linter.all false
set_option maxRecDepth 100000
set_option maxHeartbeats 4000000
theorem gEG {α:Type _} {l:List α} {i:Nat} (h:i < l.length):l[i]?=some l[i]:=List.getElem?_eq_getElem h
theorem bAE (a b:Bool):((a && b)=true)=(a=true/\b=true):=Bool.and_eq_true a b
namespace L2
open PySem PySem.Spec PyProof.Rows
noncomputable abbrev Key:=Sum Int Str
noncomputable def iW:Key->Value->Bool
 | .inl k,v=>Value.isInt k v
 | .inr x,v=>Value.isStrOf x v
noncomputable def KJ (w:World):Key->Int
 | .inl k=>hashInt k
 | .inr x=>hashStr w x
theorem aU:∀ {k:Key} {v:Value},iW k v=true->(∃ i t,k=Sum.inl i/\v=Value.int i t)\/(∃ x t,k=Sum.inr x/\v=Value.str x t)
 | .inl i,v,h=>by
  obtain ⟨t,e⟩:=Value.isInt_shape (k:=i) (v:=v) h
  exact .inl ⟨i,t,rfl,e⟩
 | .inr x,v,h=>by
  obtain ⟨t,e⟩:=Value.isStrOf_shape (x:=x) (v:=v) h
  exact .inr ⟨x,t,rfl,e⟩
theorem tz (i:Int) (t:Tok):iW (.inl i) (.int i t)=true:=by simp [iW,Value.isInt]
theorem tB (x:Str) (t:Tok):iW (.inr x) (.str x t)=true:=by simp [iW,Value.isStrOf]
theorem Ds (a b:Int):decide ((Sum.inl a:Key)=Sum.inl b)=(a == b):=by
 by_cases e:a=b
 ·subst e;simp
 ·have h:¬ (Sum.inl a:Key)=Sum.inl b:=fun q=>e (Sum.inl.inj q)
  rw [decide_eq_false h]
  exact (beq_eq_false_iff_ne.mpr e).symm
theorem Dt (a b:Str):decide ((Sum.inr a:Key)=Sum.inr b)=decide (a=b):=by
 by_cases e:a=b
 ·subst e;simp
 ·have h:¬ (Sum.inr a:Key)=Sum.inr b:=fun q=>e (Sum.inr.inj q)
  rw [decide_eq_false h,decide_eq_false e]
theorem Du (a:Int) (b:Str):decide ((Sum.inl a:Key)=Sum.inr b)=false:=decide_eq_false (fun q=>nomatch q)
theorem Dv (a:Str) (b:Int):decide ((Sum.inr a:Key)=Sum.inl b)=false:=decide_eq_false (fun q=>nomatch q)
noncomputable def bD (prog:Program) (w:World):PySem.KeyKind prog w Key where
 is:=iW
 hash:=KJ w
 inj:=fun v a b ha hb=>by
  rcases aU ha with ⟨i,t,rfl,rfl⟩ | ⟨x,t,rfl,rfl⟩
  ·rcases aU hb with ⟨j,u,rfl,e⟩ | ⟨y,u,rfl,e⟩
   ·injection e with e1 _;rw [e1]
   ·exact nomatch e
  ·rcases aU hb with ⟨j,u,rfl,e⟩ | ⟨y,u,rfl,e⟩
   ·exact nomatch e
   ·injection e with e1 _;rw [e1]
 byValue:=fun k v h=>by
  rcases aU h with ⟨i,t,rfl,rfl⟩ | ⟨x,t,rfl,rfl⟩ <;> rfl
 pyHash:=fun hv h=>by
  rcases aU hv with ⟨i,t,rfl,rfl⟩ | ⟨x,t,rfl,rfl⟩
  ·exact wpAny_pyHash_int h
  ·exact wpAny_pyHash_str h
 eqBool:=fun hu hv h=>by
  rcases aU hu with ⟨i,t,rfl,rfl⟩ | ⟨x,t,rfl,rfl⟩
  ·rcases aU hv with ⟨j,u,rfl,rfl⟩ | ⟨y,u,rfl,rfl⟩
   ·rw [Ds] at h;exact wpAny_eqBool_int h
   ·rw [Du] at h;exact SeqAt.EqAt.int_str i t y u _ _ _ _ h
  ·rcases aU hv with ⟨j,u,rfl,rfl⟩ | ⟨y,u,rfl,rfl⟩
   ·rw [Dv] at h;exact SeqAt.EqAt.str_int x t j u _ _ _ _ h
   ·rw [Dt] at h;exact wpAny_eqBool_str h
 «strs»:=fun k x t v h=>by
  rcases aU h with ⟨i,u,rfl,e⟩ | ⟨y,u,rfl,e⟩
  ·exact nomatch e
  ·injection e with e1 _
   subst e1
   cases v <;> rfl
theorem nT (prog:Program) (w:World) (i:Int) (t:Tok):(bD prog w).is (.inl i) (.int i t)=true:=tz i t
theorem nU (prog:Program) (w:World) (x:Str) (t:Tok):(bD prog w).is (.inr x) (.str x t)=true:=tB x t
end L2
namespace L2
open PySem PySem.Spec PyProof.Rows
inductive V where
 | non | bl (b:Bool) | int (i:Int) | str (x:Str) | byt (b:Array UInt8) | flt (b:UInt64) | ref (a:Addr) | ty (n:String)
 deriving DecidableEq
noncomputable def aJ:V->Value->Prop
 | .non,u=>u=Value.none
 | .bl b,u=>u=Value.bool b
 | .int i,u=>∃ t,u=Value.int i t
 | .str x,u=>∃ t,u=Value.str x t
 | .byt b,u=>∃ t,u=Value.bytes b t
 | .flt b,u=>∃ t,u=Value.float b t
 | .ref a,u=>u=Value.ref a
 | .ty n,u=>u=Value.type n
noncomputable abbrev aK:List V->List Value->Prop:=Paired aJ
theorem aK.length {xs:List V} {us:List Value} (r:aK xs us):xs.length=us.length:=Paired.length r
theorem aK.get:∀ {xs:List V} {us:List Value} {i:Nat} {x:V},aK xs us->xs[i]?=some x->∃ u,us[i]?=some u/\aJ x u
 | _,_,_,_,.nil,e=>by simp at e
 | _,_,0,_,.cons r _,e=>by simp at e;subst e;exact ⟨_,rfl,r⟩
 | _,_,i+1,x,.cons _ t,e=>by
  obtain ⟨u,h1,h2⟩:=aK.get (i:=i) (x:=x) t (by simpa using e)
  exact ⟨u,by simpa using h1,h2⟩
theorem aK.set {x:V} {u:Value} (r:aJ x u):∀ {xs:List V} {us:List Value} (i:Nat),aK xs us->aK (xs.set i x) (us.set i u)
 | _,_,_,.nil=>.nil
 | _,_,0,.cons _ t=>.cons r t
 | _,_,i+1,.cons q t=>.cons q (aK.set r i t)
theorem aK.append:∀ {xs ys:List V} {us ws:List Value},aK xs us->aK ys ws->aK (xs++ys) (us++ws)
 | _,_,_,_,.nil,s=>s
 | _,_,_,_,.cons r t,s=>.cons r (aK.append t s)
theorem aK.take:∀ {xs:List V} {us:List Value} (n:Nat),aK xs us->aK (xs.take n) (us.take n)
 | _,_,0,_=>.nil
 | _,_,_+1,.nil=>.nil
 | _,_,n+1,.cons r t=>.cons r (aK.take n t)
theorem aK.drop:∀ {xs:List V} {us:List Value} (n:Nat),aK xs us->aK (xs.drop n) (us.drop n)
 | _,_,0,r=>r
 | _,_,_+1,.nil=>.nil
 | _,_,n+1,.cons _ t=>aK.drop n t
noncomputable def Dx:Option V->Option Value->Prop
 | some v,some u=>aJ v u
 | none,none=>True
 | _,_=>False
noncomputable def KV {κ:Type}:List (κ × V)->List (κ × Value)->Prop:=Paired fun (p:κ × V) (q:κ × Value)=>p.1=q.1/\aJ p.2 q.2
noncomputable def kV:Key->V
 | .inl i=>.int i
 | .inr x=>.str x
noncomputable def l9 (h:Heap) (a:Addr) (items:Array Value):Prop:=∃ o,h.get? a=some o/\o.cls = .type "tuple"/\∃ n,o.data = .seq items n/\o.dict=none
theorem l9.isTup {h:Heap} {a:Addr} {items:Array Value} (x:l9 h a items):IsTup h a items:=let ⟨o,e,c,n,d,_⟩:=x;⟨o,e,c,n,d⟩
theorem l9.lt {h:Heap} {a:Addr} {items:Array Value} (x:l9 h a items):a < h.objs.size:=x.isTup.lt
theorem l9.new (h:Heap) (items:Array Value):l9 (h.push { cls:=.type "tuple", data:=.seq items }) h.objs.size items:=⟨_,Heap.get?_push_size _ rfl,rfl,_,rfl,rfl⟩
inductive HO where
  | lst (xs:List V)
  | tup (xs:List V)
  | dK (kvs:List (Key × V)) | dT (kvs:List (List Key × V))
  | set (S:Int->Bool) (n:Nat)
  | ins (C dx:Addr) (fs:List (Str × V))
  | own (x:Addr)
  | xd (fs:List (Str × V))
  | met (f x:Addr)
  | rng (lo hi:Int)
  | frz (o:Obj) (u:HO)
  | tbl (ps:Array Value)
  | ext (φ:Heap->Prop)
noncomputable abbrev Hp:=Addr->Option HO
noncomputable def upd (H:Hp) (a:Addr) (o:HO):Hp:=fun b=>if b=a then some o else H b
theorem bj {H:Hp} {a:Addr} {o:HO}:upd H a o a=some o:=by unfold upd;rw [if_pos rfl]
theorem ax {H:Hp} {a b:Addr} {o:HO} (h:b ≠ a):upd H a o b=H b:=by unfold upd;rw [if_neg h]
theorem rq {H:Hp} {a:Addr} {o u:HO}:upd (upd H a o) a u=upd H a u:=by
 funext b;unfold upd;split <;> rfl
theorem aQ {H:Hp} {a b:Addr} {o:HO} (h:H a=some o) (h':H b=none):a ≠ b:=by
 intro e;subst e;rw [h] at h';cases h'
section
variable (P:Program) (w:World)
noncomputable def bA (H:Hp) (h:Heap) (a:Addr):HO->Prop
 | .lst xs=>xs.length<=sizeLine/\∃ (its:List Value) (n:Nat),aK xs its/\h.get? a=some { cls:=.type "list", data:=.seq its.toArray n }
 | .tup xs=>xs.length<=sizeLine/\∃ its:List Value,aK xs its/\l9 h a its.toArray
 | .dK kvs=>kvs.length<=sizeLine/\(a == sysModules)=false/\∃ vs,KV kvs vs/\h.DictOf (bD P w) a vs
 | .dT kvs=>kvs.length<=sizeLine/\(a == sysModules)=false/\∃ xs:List (List Key × Addr × Value),
   Paired (fun (p:List Key × V) (q:List Key × Addr × Value)=>p.1=q.1/\H q.2.1=some (.tup (p.1.map kV))/\aJ p.2 q.2.2) kvs xs ∧
   ∃ o es ep,h.get? a=some o/\o.ExactDict/\o.data = .dict es ep/\es.toList=xs.map (entryOfKey (tupleKind (bD P w)))/\(xs.map (·.1)).Nodup
 | .set S n=>h.SetOf (intKind P w) a S n
 | .ins C dx fs=>H dx=some (.own a)/\fs.length<=1000/\dx ≠ a/\h.get? a=some (PySem.W.instObj C dx) ∧
   ∃ mA,h.Ns1 dx mA/\(∀ f,Dx (fs.lookup f) (mA f))/\PySem.Within mA (fs.map (·.1))
 | .own _=>∃ o,h.get? a=some o
 | .xd fs=>∃ mA,h.Ns1 a mA/\∀ f,Dx (fs.lookup f) (mA f)
 | .rng lo hi=>∃ t u v,h.get? a=some { cls:=.type "range", data:=.fields #[.int lo t,.int hi u,.int 1 v] }
 | .frz o u=>h.get? a=some o/\bA H h a u
 | .tbl ps=>h.get? a=some { cls:=.none,data:=.fields ps }
 | .met f x=>h.get? a=some (PySem.W.methodObj (.ref f) (.ref x))
 | .ext φ=>φ h/\(∃ o,h.get? a=some o)/\∀ h1 h2:Heap,φ h1->(∀ o,h1.get? a=some o->h2.get? a=some o)->φ h2
noncomputable def HOk (H:Hp) (h:Heap):Prop:=∀ a o,H a=some o->bA P w H h a o
end
section
variable {P:Program} {w:World} {H H':Hp} {h h':Heap} {a:Addr} {o:HO}
theorem bA.lt (x:bA P w H h a o):a < h.objs.size:=by
 cases o with
 | lst xs=>obtain ⟨_,_,_,_,e⟩:=x;exact Heap.lt_size e
 | tup xs=>obtain ⟨_,_,_,p⟩:=x;exact p.lt
 | dK kvs=>obtain ⟨_,_,_,_,o,_,_,e,_⟩:=x;exact Heap.lt_size e
 | dT kvs=>obtain ⟨_,_,_,_,o,_,_,e,_⟩:=x;exact Heap.lt_size e
 | set S n=>obtain ⟨o,_,_,_,e,_⟩:=x;exact Heap.lt_size e
 | ins C dx fs=>obtain ⟨_,_,_,e,_⟩:=x;exact Heap.lt_size e
 | own y=>obtain ⟨_,e⟩:=x;exact Heap.lt_size e
 | xd fs=>obtain ⟨_,⟨_,_,_,e,_⟩,_⟩:=x;exact Heap.lt_size e
 | rng lo hi=>obtain ⟨_,_,_,e⟩:=x;exact Heap.lt_size e
 | frz ob u=>obtain ⟨e,_⟩:=x;exact Heap.lt_size e
 | tbl ps=>exact Heap.lt_size (show h.get? a=some _ from x)
 | met f y=>exact Heap.lt_size (show h.get? a=some _ from x)
 | ext φ=>obtain ⟨_,⟨_,e⟩,_⟩:=x;exact Heap.lt_size e
theorem Paired.mapP {α β:Type} {F G:α->β->Prop}:∀ {l₁:List α} {l₂:List β},Paired F l₁ l₂->(∀ a b,F a b->G a b)->Paired G l₁ l₂
 | _,_,.nil,_=>.nil
 | _,_,.cons r t,f=>.cons (f _ _ r) (Paired.mapP t f)
theorem bA.stay (x:bA P w H h a o) (k:∀ b u,(b=a\/H b=some (.own a))->h.get? b=some u->h'.get? b=some u)
  (ho:∀ b,H b=some (.own a)->H' b=some (.own a)) (ht:∀ b xs,H b=some (.tup xs)->H' b=some (.tup xs)):bA P w H' h' a o:=by
 induction o with
 | lst xs=>obtain ⟨z,its,n,r,e⟩:=x;exact ⟨z,its,n,r,k _ _ (.inl rfl) e⟩
 | tup xs=>obtain ⟨z,its,r,ob,e,c⟩:=x;exact ⟨z,its,r,ob,k _ _ (.inl rfl) e,c⟩
 | dK kvs=>obtain ⟨z,y,vs,r,ob,es,ep,e,c⟩:=x;exact ⟨z,y,vs,r,ob,es,ep,k _ _ (.inl rfl) e,c⟩
 | dT kvs=>
  obtain ⟨z,y,xs,r,ob,es,ep,e,c⟩:=x
  exact ⟨z,y,xs,Paired.mapP r fun p q z=>⟨z.1,ht _ _ z.2.1,z.2.2⟩,ob,es,ep,k _ _ (.inl rfl) e,c⟩
 | set S n=>obtain ⟨ob,es,ep,t,e,c⟩:=x;exact ⟨ob,es,ep,t,k _ _ (.inl rfl) e,c⟩
 | ins C dx fs=>
  obtain ⟨d,z,ne,e,mA,⟨od,es,ep,e2,c⟩,r⟩:=x
  exact ⟨ho _ d,z,ne,k _ _ (.inl rfl) e,mA,⟨od,es,ep,k _ _ (.inr d) e2,c⟩,r⟩
 | own y=>obtain ⟨ob,e⟩:=x;exact ⟨ob,k _ _ (.inl rfl) e⟩
 | xd fs=>obtain ⟨mA,⟨od,es,ep,e,c⟩,r⟩:=x;exact ⟨mA,⟨od,es,ep,k _ _ (.inl rfl) e,c⟩,r⟩
 | rng lo hi=>obtain ⟨t,u,v,e⟩:=x;exact ⟨t,u,v,k _ _ (.inl rfl) e⟩
 | frz ob u ih=>obtain ⟨e,q⟩:=x;exact ⟨k _ _ (.inl rfl) e,ih q⟩
 | tbl ps=>
  have e:h.get? a=some { cls:=.none,data:=.fields ps }:=x
  show h'.get? a=some { cls:=.none,data:=.fields ps }
  exact k a _ (.inl rfl) e
 | met f y=>
  have e:h.get? a=some (PySem.W.methodObj (.ref f) (.ref y)):=x
  show h'.get? a=some (PySem.W.methodObj (.ref f) (.ref y))
  exact k a _ (.inl rfl) e
 | ext φ=>obtain ⟨p,⟨o,e⟩,st⟩:=x;exact ⟨st _ _ p fun o q=>k _ _ (.inl rfl) q,⟨o,k _ _ (.inl rfl) e⟩,st⟩
theorem HOk.lt (x:HOk P w H h) (e:H a=some o):a < h.objs.size:=(x a o e).lt
theorem HOk.fresh (x:HOk P w H h) (e:h.objs.size<=a):H a=none:=by
 cases q:H a with
 | none=>rfl
 | some u=>exact absurd (Nat.lt_of_lt_of_le (x.lt q) e) (Nat.lt_irrefl _)
theorem HOk.kept (x:HOk P w H h) (k:∀ b u,h.get? b=some u->h'.get? b=some u):HOk P w H h':=fun a o e=>
 (x a o e).stay (fun b u _ q=>k b u q) (fun _ q=>q) fun _ _ q=>q
theorem HOk.laid (x:HOk P w H h) (k:∀ b u,h.get? b=some u->h'.get? b=some u) (hp:h.objs.size<=a) (new:bA P w (upd H a o) h' a o):HOk P w (upd H a o) h':=fun b u e=>by
 have hn:=x.fresh hp
 by_cases hb:b=a
 ·subst hb;rw [bj] at e;cases e;exact new
 ·rw [ax hb] at e
  exact (x b u e).stay (fun c v _ q=>k c v q) (fun c q=>by rw [ax (aQ q hn)];exact q) fun c xs q=>by rw [ax (aQ q hn)];exact q
end
noncomputable def Rd (H:Hp) (a:Addr) (u:HO):Prop:=H a=some u\/∃ o,H a=some (.frz o u)
theorem Rd.ok {P:Program} {w:World} {H:Hp} {h:Heap} {a:Addr} {u:HO} (r:Rd H a u) (x:HOk P w H h):bA P w H h a u:=by
 rcases r with r | ⟨o,r⟩
 ·exact x a u r
 ·obtain ⟨_,q⟩:=x a _ r
  exact q
noncomputable def Mut:Option HO->Prop
 | some (.lst _)=>True
 | some (.dK _)=>True
 | some (.dT _)=>True
 | some (.set _ _)=>True
 | some (.ins _ _ _)=>True
 | some (.ext _)=>True
 | _=>False
section
variable {P:Program} {w:World} {H:Hp} {h h':Heap} {x e:Addr} {o':HO}
theorem HOk.write (ok:HOk P w H h) (mu:Mut (H x)) (he:e=x\/H e=some (.own x)) (k:∀ b u,b ≠ e->h.get? b=some u->h'.get? b=some u) (heo:∃ u,h'.get? e=some u)
  (new:bA P w (upd H x o') h' x o'):HOk P w (upd H x o') h':=fun b u q=>by
 have nown:∀ c y,H c=some (.own y)->c ≠ x:=fun c y r z=>by subst z;rw [r] at mu;exact mu
 have ntup:∀ c xs,H c=some (.tup xs)->c ≠ x:=fun c xs r z=>by subst z;rw [r] at mu;exact mu
 by_cases hb:b=x
 ·subst hb;rw [bj] at q;cases q;exact new
 ·rw [ax hb] at q
  by_cases hbe:b=e
  ·have q':H b=some (.own x):=by
    rcases he with z | z
    ·exact absurd (hbe.trans z) hb
    ·rw [hbe];exact z
   rw [q] at q';cases q'
   obtain ⟨v,hv⟩:=heo
   exact ⟨v,by rw [hbe];exact hv⟩
  ·refine (ok b u q).stay (fun c v hc r=>k c v ?_ r) (fun c r=>by rw [ax (nown c b r)];exact r) fun c xs r=>by rw [ax (ntup c xs r)];exact r
   rcases hc with rfl | hc
   ·exact hbe
   ·rintro rfl
    rcases he with z | z
    ·exact nown c b hc z
    ·rw [hc] at z;cases z;exact hb rfl
end
structure Un (fs ex:List Addr) (H H':Hp) (h h':Heap):Prop where
 keep:∀ b o,h.get? b=some o->H b=none->b ∉ fs->b ∉ ex->h'.get? b=some o
 slot:∀ b o,h.get? b=some o->H b=none->b ∈ fs->b ∉ ex->∃ sl,h'.get? b=some { o with slots:=sl }
 free:∀ b o,h.get? b=some o->H b=none->b ∉ ex->H' b=none
 there:∀ b o,h.get? b=some o->b ∉ ex->∃ o',h'.get? b=some o'
 tups:∀ b xs,H b=some (.tup xs)->H' b=some (.tup xs)
 frzs:∀ b o u,H b=some (.frz o u)->H' b=some (.frz o u)
 tbls:∀ b ps,H b=some (.tbl ps)->∃ more,H' b=some (.tbl (ps++more))
section
variable {fs fs' ex ex':List Addr} {H H1 H2:Hp} {h h1 h2 h':Heap} {a x e:Addr} {o:HO}
theorem Un.any (u:Un fs ex H H1 h h1) {b:Addr} {ob:Obj} (q:h.get? b=some ob) (n:H b=none) (hx:b ∉ ex):∃ sl,h1.get? b=some { ob with slots:=sl }:=by
 by_cases hb:b ∈ fs
 ·exact u.slot b ob q n hb hx
 ·exact ⟨ob.slots,u.keep b ob q n hb hx⟩
theorem Un.kept (k:∀ b u,h.get? b=some u->h'.get? b=some u):Un fs ex H H h h':=
 ⟨fun b ob q _ _ _=>k b ob q,fun b ob q _ _ _=>⟨ob.slots,k b ob q⟩,fun _ _ _ n _=>n,fun b ob q _=>⟨ob,k b ob q⟩,fun _ _ q=>q,fun _ _ _ q=>q,fun _ ps q=>⟨#[],by rw [q];simp⟩⟩
theorem Un.refl:Un fs ex H H h h:=Un.kept fun _ _ q=>q
theorem Un.laid (k:∀ b u,h.get? b=some u->h'.get? b=some u) (hp:h.objs.size<=a) (hn:H a=none):Un fs ex H (upd H a o) h h' where
 keep:=fun b u q _ _ _=>k b u q
 slot:=fun b u q _ _ _=>⟨u.slots,k b u q⟩
 free:=fun b u q n _=>by rw [ax (Nat.ne_of_lt (Nat.lt_of_lt_of_le (Heap.lt_size q) hp))];exact n
 there:=fun b u q _=>⟨u,k b u q⟩
 tups:=fun b xs q=>by rw [ax (aQ q hn)];exact q
 frzs:=fun b u xs q=>by rw [ax (aQ q hn)];exact q
 tbls:=fun b ps q=>⟨#[],by rw [ax (aQ q hn),q];simp⟩
theorem Un.write (mu:Mut (H x)) (he:e=x\/H e=some (.own x)) (k:∀ b u,b ≠ e->h.get? b=some u->h'.get? b=some u) (heo:∃ u,h'.get? e=some u):Un fs ex H (upd H x o) h h':=by
 have hx:∀ b,H b=none->b ≠ x:=fun b n z=>by subst z;rw [n] at mu;exact mu
 have hb:∀ b,H b=none->b ≠ e:=fun b n z=>by
  subst z
  rcases he with r | r
  ·exact hx b n r
  ·rw [n] at r;cases r
 have hm:∀ b u,H b=some u->¬ Mut (some u)->b ≠ x:=fun b u q nm z=>by subst z;rw [q] at mu;exact nm mu
 refine ⟨fun b u q n _ _=>k b u (hb b n) q,fun b u q n _ _=>⟨u.slots,k b u (hb b n) q⟩,fun b u q n _=>by rw [ax (hx b n)];exact n,fun b u q _=>?_,
  fun b xs q=>by rw [ax (hm b _ q fun z=>z)];exact q,fun b u xs q=>by rw [ax (hm b _ q fun z=>z)];exact q,fun b ps q=>⟨#[],by rw [ax (hm b _ q fun z=>z),q];simp⟩⟩
 by_cases hbe:b=e
 ·subst hbe;exact heo
 ·exact ⟨u,k b u hbe q⟩
end
noncomputable def trk (h:Heap) (H:Hp):List Addr:=(List.range h.objs.size).filter fun a=>(H a).isSome
noncomputable def ma (h:Heap) (H:Hp):Heap:=PySem.W.hideAll h (trk h H)
theorem tD (h:Heap) (H:Hp):(ma h H).objs.size=h.objs.size:=PySem.W.hideAll_size _ _
theorem vg {h:Heap} {H:Hp} {b:Addr} {o:Obj} (e:h.get? b=some o) (n:H b=none):(ma h H).get? b=some o:=
 PySem.W.hideAll_get _ e fun hm=>by
  have q:(H b).isSome=true:=(List.mem_filter.mp hm).2
  rw [n] at q;simp at q
theorem yY {h:Heap} {H:Hp} {b:Addr} {o:Obj} (e:(ma h H).get? b=some o):h.get? b=some o/\H b=none:=by
 have e':h.get? b=some o:=PySem.W.of_hideAll (trk h H) e
 refine ⟨e',?_⟩
 cases q:H b with
 | none=>rfl
 | some x=>
  have hm:b ∈ trk h H:=List.mem_filter.mpr ⟨List.mem_range.mpr (Heap.lt_size e'),by simp [q]⟩
  have z:(ma h H).get? b=none:=PySem.W.hideAll_none (trk h H) hm
  rw [z] at e;cases e
end L2
namespace L2
open PySem PySem.Spec PyProof.Rows
structure Mod (K:PySem.W.Frag) (mg:Str->Option Value) (base:Heap):Prop where
 kin:K.In base
 glob:base.Ns mainGlobals mg
 blt:∃ mb,base.Ns builtinsNs mb/\∀ x:Str,x ≠ "__name__"->mb x=bootBuiltins x
 nolimit:base.NoLimit
structure Cx where
 prog:Program
 w:World
 K:PySem.W.Frag
 mg:Str->Option Value
 base:Heap
 A:Around
 N:List Str
 s₀:Shared
 H₀:Hp
 env:Env
 outer:List Env
 stack:List Env
 ex:List Addr
 fn:Str->Bool
 calm:Bool
 pn:List (Addr × Obj)
 xe:Value->Shared->Prop
noncomputable def frs (l:List Env):List Addr:=l.filterMap (·.frame)
noncomputable abbrev Cx.fs (X:Cx):List Addr:=frs X.outer
noncomputable def Vis (sc:Scope) (x:Str):Prop:=sc.names.lookup x=some .local\/sc.names.lookup x=some .cell\/sc.names.lookup x=some .free
noncomputable def Loc (sc:Scope) (x:Str):Prop:=sc.names.lookup x=some .local\/sc.names.lookup x=some .cell
noncomputable def KK (env:Env) (h:Heap) (m:Str->Option Value) (x:Str) (u:Value):Prop:=
 (env.kindOf x=some .local/\m x=some u)\/((env.kindOf x=some .cell\/env.kindOf x=some .free)/\∃ c,env.cells.lookup x=some c/\h.IsCell c (some u))
structure Cx.Ok (X:Cx):Prop where
 mod:Mod X.K X.mg X.base
 kind:X.env.scope.kind = .function
 glob:X.env.globals=mainGlobals
 blt:X.env.builtins=builtinsNs
 above:X.s₀.heap.objs.size<=X.env.locals
 inj:∀ x y c,X.env.cells.lookup x=some c->X.env.cells.lookup y=some c->x=y
 has:∀ x,(X.env.kindOf x=some .cell\/X.env.kindOf x=some .free)->∃ c,X.env.cells.lookup x=some c
 cab:∀ x c,X.fn x=true->X.env.cells.lookup x=some c->X.s₀.heap.objs.size<=c
 hd:X.calm=true->X.A.handled=none
 frames:X.A.frames=some X.stack
 stk:X.stack=X.outer\/(X.stack=X.env::X.outer/\X.env.frame=some X.env.locals)
 exf:∀ b ∈ X.ex,b ≠ X.env.locals/\∀ x c,X.env.cells.lookup x=some c->c ≠ b
 bs:∀ b o,X.base.get? b=some o->X.s₀.heap.get? b=some o/\X.H₀ b=none
 bsz:X.base.objs.size<=X.s₀.heap.objs.size
 noex:∀ b o,X.base.get? b=some o->b ∉ X.ex
 exfs:∀ b ∈ X.ex,b ∉ X.fs
 funs:X.s₀.heap.FunFrames X.base X.outer
 frf:∀ b ∈ X.fs,X.H₀ b=none
structure Inv (X:Cx) (pins:List (Addr × Obj)) (σ:List (Option V)) (H:Hp) (s:Shared):Prop where
 ok:X.Ok
 os:s.os=X.s₀.os
 bare:AllBare s.gens
 base:Un X.fs X.ex X.H₀ H X.s₀.heap s.heap
 loc:∃ m,s.heap.Ns X.env.locals m/\∀ (i:Nat) (x:Str) (v:V),X.N[i]?=some x->σ[i]?=some (some v)->Vis X.env.scope x->∃ u,aJ v u/\KK X.env s.heap m x u
 cell:∀ x c,X.env.cells.lookup x=some c->∃ v,s.heap.IsCell c v
 free:H X.env.locals=none
 freeC:∀ x c,X.env.cells.lookup x=some c->H c=none
 pin:∀ p ∈ X.pn++pins,s.heap.get? p.1=some p.2/\H p.1=none/\p.1 ≠ X.env.locals/\p.1 ∉ X.fs/\∀ v,p.2.data ≠ .cell v
 hok:HOk X.prog X.w H s.heap
 len:σ.length=X.N.length
section
variable {X:Cx} {pins:List (Addr × Obj)} {σ:List (Option V)} {H H':Hp} {s:Shared} {h':Heap}
theorem Cx.Ok.nofr (ok:X.Ok) {b:Addr} {o:Obj} (e:X.base.get? b=some o):b ∉ X.fs:=fun hb=>by
 have:=(ok.funs.mem hb).1
 rw [e] at this;cases this
theorem Inv.bs (I:Inv X pins σ H s):∀ b o,X.base.get? b=some o->s.heap.get? b=some o/\H b=none:=fun b o e=>
 ⟨I.base.keep b o (I.ok.bs b o e).1 (I.ok.bs b o e).2 (I.ok.nofr e) (I.ok.noex b o e),I.base.free b o (I.ok.bs b o e).1 (I.ok.bs b o e).2 (I.ok.noex b o e)⟩
theorem Inv.bk (I:Inv X pins σ H s):∀ b o,X.base.get? b=some o->s.heap.get? b=some o:=fun b o e=>(I.bs b o e).1
theorem Inv.mod (I:Inv X pins σ H s):Mod X.K X.mg X.base:=I.ok.mod
theorem Inv.kIn (I:Inv X pins σ H s):X.K.In s.heap:=I.ok.mod.kin.keeps I.bk
theorem Inv.lt (I:Inv X pins σ H s):X.env.locals < s.heap.objs.size:=let ⟨_,hn,_⟩:=I.loc;hn.lt
theorem Inv.sz (I:Inv X pins σ H s):X.s₀.heap.objs.size<=s.heap.objs.size:=Nat.le_trans I.ok.above (Nat.le_of_lt I.lt)
theorem Inv.nofs (I:Inv X pins σ H s) {a:Addr} (h:s.heap.objs.size<=a):a ∉ X.fs:=fun hb=>by
 obtain ⟨_,o,ho,_⟩:=I.ok.funs.mem hb
 exact absurd (Nat.lt_of_lt_of_le (Heap.lt_size ho) (Nat.le_trans I.sz h)) (Nat.lt_irrefl _)
theorem Inv.cne (I:Inv X pins σ H s):∀ x c,X.env.cells.lookup x=some c->c ≠ X.env.locals:=fun x c e z=>by
 obtain ⟨v,o,ho,hd⟩:=I.cell x c e
 obtain ⟨m,⟨o',es,ep,ho',hd',_⟩,_⟩:=I.loc
 rw [z,ho'] at ho;cases ho;rw [hd'] at hd;cases hd
theorem Inv.funs (I:Inv X pins σ H s):s.heap.FunFrames X.base X.outer:=by
 have all:∀ (l:List Env),(∀ b ∈ frs l,b ∈ X.fs)->X.s₀.heap.FunFrames X.base l->s.heap.FunFrames X.base l:=by
  intro l
  induction l with
  | nil=>intro _ _;trivial
  | cons env r ih=>
   intro hs hl
   obtain ⟨hk,⟨L,o,hf,hn,ho,hd⟩,hr⟩:=hl
   have hL:L ∈ X.fs:=hs L (by unfold frs;rw [List.filterMap_cons,hf];exact List.mem_cons_self)
   obtain ⟨sl,e⟩:=I.base.slot L o ho (I.ok.frf L hL) hL fun z=>I.ok.exfs L z hL
   exact ⟨hk,⟨L,_,hf,hn,e,hd⟩,ih (fun b hb=>hs b (by unfold frs;rw [List.filterMap_cons,hf];exact List.mem_cons_of_mem _ hb)) hr⟩
 exact all X.outer (fun _ hb=>hb) I.ok.funs
theorem Inv.stack (I:Inv X pins σ H s):s.heap.FunFrames X.base X.stack:=by
 rcases I.ok.stk with e | ⟨e,hf⟩
 ·rw [e];exact I.funs
 ·rw [e]
  obtain ⟨m,hn,_⟩:=I.loc
  refine .cons (by rw [I.ok.kind];decide) hf hn ?_ I.funs
  exact Heap.get?_none_of_le (Nat.le_trans I.ok.bsz I.ok.above)
theorem Inv.stkSub (I:Inv X pins σ H s):∀ b ∈ frs X.stack,b ∈ X.env.locals::X.fs:=fun b hb=>by
 rcases I.ok.stk with e | ⟨e,hf⟩
 ·rw [e] at hb;exact List.mem_cons_of_mem _ hb
 ·rw [e] at hb
  unfold frs at hb
  rw [List.filterMap_cons,hf] at hb
  exact hb
theorem Inv.stkFree (I:Inv X pins σ H s):∀ b ∈ frs X.stack,H b=none:=fun b hb=>by
 rcases List.mem_cons.mp (I.stkSub b hb) with e | hb
 ·rw [e];exact I.free
 ·obtain ⟨_,o,ho,_⟩:=I.ok.funs.mem hb
  exact I.base.free b o ho (I.ok.frf b hb) fun z=>I.ok.exfs b z hb
theorem Inv.step {g':Array GenState} {t':Nat} {d':Drawn} {ch:List Addr} (I:Inv X pins σ H s)
  (hch:∀ b ∈ ch,(b ∈ X.ex\/X.s₀.heap.objs.size<=b)/\b ≠ X.env.locals/\(∀ x c,X.env.cells.lookup x=some c->c ≠ b)/\∀ p ∈ X.pn++pins,p.1 ≠ b)
  (keep:∀ b o,b ≠ X.env.locals->b ∉ X.fs->b ∉ ch->s.heap.get? b=some o->H b=none->h'.get? b=some o)
  (slot:∀ b o,b ≠ X.env.locals->b ∈ X.fs->b ∉ ch->s.heap.get? b=some o->H b=none->∃ sl,h'.get? b=some { o with slots:=sl }) (free:∀ b o,b ∉ ch->s.heap.get? b=some o->H b=none->H' b=none)
  (there:∀ b o,b ∉ ch->s.heap.get? b=some o->∃ o',h'.get? b=some o')
  (tups:∀ b xs,H b=some (.tup xs)->H' b=some (.tup xs)) (frzs:∀ b o u,H b=some (.frz o u)->H' b=some (.frz o u)) (tbls:∀ b ps,H b=some (.tbl ps)->∃ more,H' b=some (.tbl (ps++more)))
  (ns:∀ m,s.heap.Ns X.env.locals m->h'.Ns X.env.locals m) (hok:HOk X.prog X.w H' h') (hg:AllBare g') :
  Inv X pins σ H' { s with heap:=h',gens:=g',drawn:=d',toks:=t' }:=by
 have neL:∀ b o,X.s₀.heap.get? b=some o->b ≠ X.env.locals:=fun b o e=>Nat.ne_of_lt (Nat.lt_of_lt_of_le (Heap.lt_size e) I.ok.above)
 have neC:∀ b o,X.s₀.heap.get? b=some o->b ∉ X.ex->b ∉ ch:=fun b o e hx hb=>by
  rcases (hch b hb).1 with z | z
  ·exact hx z
  ·exact absurd (Nat.lt_of_lt_of_le (Heap.lt_size e) z) (Nat.lt_irrefl _)
 have cellK:∀ x c,X.env.cells.lookup x=some c->∀ v,s.heap.IsCell c v->h'.IsCell c v:=fun x c e v ⟨o,ho,hd⟩=>by
  have nch:c ∉ ch:=fun z=>(hch c z).2.2.1 x c e rfl
  by_cases hc:c ∈ X.fs
  ·obtain ⟨sl,q⟩:=slot c o (I.cne x c e) hc nch ho (I.freeC x c e)
   exact ⟨_,q,hd⟩
  ·exact ⟨o,keep c o (I.cne x c e) hc nch ho (I.freeC x c e),hd⟩
 refine ⟨I.ok,I.os,hg,⟨fun b o e n hb hx=>?_,fun b o e n hb hx=>?_,fun b o e n hx=>?_,fun b o e hx=>?_,fun b xs e=>tups b xs (I.base.tups b xs e),fun b o xs e=>frzs b o xs (I.base.frzs b o xs e),fun b ps e=>?_⟩,?_,fun x c e=>?_,?_,fun x c e=>?_,fun p hp=>?_,hok,I.len⟩
 ·exact keep b o (neL b o e) hb (neC b o e hx) (I.base.keep b o e n hb hx) (I.base.free b o e n hx)
 ·obtain ⟨sl,e1⟩:=I.base.slot b o e n hb hx
  obtain ⟨sl',e2⟩:=slot b _ (neL b o e) hb (neC b o e hx) e1 (I.base.free b o e n hx)
  exact ⟨sl',e2⟩
 ·obtain ⟨o',e1⟩:=I.base.there b o e hx
  exact free b o' (neC b o e hx) e1 (I.base.free b o e n hx)
 ·obtain ⟨o',e1⟩:=I.base.there b o e hx
  exact there b o' (neC b o e hx) e1
 ·obtain ⟨m1,e1⟩:=I.base.tbls b ps e
  obtain ⟨m2,e2⟩:=tbls b _ e1
  exact ⟨m1++m2,by rw [e2,Array.append_assoc]⟩
 ·obtain ⟨m,hn,hl⟩:=I.loc
  refine ⟨m,ns m hn,fun i x v e1 e2 e3=>?_⟩
  obtain ⟨u,r,l⟩:=hl i x v e1 e2 e3
  refine ⟨u,r,?_⟩
  rcases l with l | ⟨k,c,e,z⟩
  ·exact .inl l
  ·exact .inr ⟨k,c,e,cellK x c e _ z⟩
 ·obtain ⟨v,z⟩:=I.cell x c e
  exact ⟨v,cellK x c e v z⟩
 ·obtain ⟨m,⟨o,_,_,ho,_⟩,_⟩:=I.loc
  exact free _ o (fun z=>(hch _ z).2.1 rfl) ho I.free
 ·obtain ⟨v,o,ho,hd⟩:=I.cell x c e
  exact free c o (fun z=>(hch c z).2.2.1 x c e rfl) ho (I.freeC x c e)
 ·obtain ⟨e,n,ne,nf,d⟩:=I.pin p hp
  have nch:p.1 ∉ ch:=fun z=>(hch p.1 z).2.2.2 p hp rfl
  exact ⟨keep p.1 p.2 ne nf nch e n,free p.1 p.2 nch e n,ne,nf,d⟩
theorem Inv.un {t':Nat} (I:Inv X pins σ H s) (u:Un X.fs [] H H' s.heap h') (hok:HOk X.prog X.w H' h'):Inv X pins σ H' { s with heap:=h',toks:=t' }:=by
 obtain ⟨m,⟨o,es,ep,ho,r⟩,_⟩:=id I.loc
 obtain ⟨sl,hL⟩:=u.any ho I.free (by simp)
 exact I.step (g':=s.gens) (d':=s.drawn) (ch:=[]) (fun _ z=>nomatch z) (fun b o _ hb _ e n=>u.keep b o e n hb (by simp)) (fun b o _ hb _ e n=>u.slot b o e n hb (by simp)) (fun b o _ e n=>u.free b o e n (by simp)) (fun b o _ e=>u.there b o e (by simp)) u.tups u.frzs u.tbls (fun m' hm=>by
  obtain ⟨o',es',ep',ho',r'⟩:=hm
  rw [ho] at ho';cases ho'
  exact ⟨_,es',ep',hL,r'⟩) hok I.bare
theorem Inv.call {g':Array GenState} {t':Nat} {d':Drawn} {ch:List Addr} (I:Inv X pins σ H s) (u:Un (frs X.stack) ch H H' s.heap h') (hok:HOk X.prog X.w H' h') (hg:AllBare g')
  (hch:∀ b ∈ ch,(b ∈ X.ex\/X.s₀.heap.objs.size<=b)/\b ≠ X.env.locals/\(∀ x c,X.env.cells.lookup x=some c->c ≠ b)/\∀ p ∈ X.pn++pins,p.1 ≠ b) :
  Inv X pins σ H' { s with heap:=h',gens:=g',drawn:=d',toks:=t' }:=by
 obtain ⟨m,⟨o,es,ep,ho,r⟩,_⟩:=id I.loc
 obtain ⟨sl,hL⟩:=u.any ho I.free fun z=>(hch _ z).2.1 rfl
 exact I.step (ch:=ch) hch (fun b o hL hb hc e n=>u.keep b o e n (fun z=>(List.mem_cons.mp (I.stkSub b z)).elim hL hb) hc) (fun b o _ _ hc e n=>u.any e n hc) (fun b o hc e n=>u.free b o e n hc) (fun b o hc e=>u.there b o e hc) u.tups u.frzs u.tbls (fun m' hm=>by
  obtain ⟨o',es',ep',ho',r'⟩:=hm
  rw [ho] at ho';cases ho'
  exact ⟨_,es',ep',hL,r'⟩) hok hg
theorem Inv.turned {t':Nat} {it:Addr} (I:Inv X pins σ H s) (k:∀ b o,b ≠ it->s.heap.get? b=some o->h'.get? b=some o) (hn:H it=none) (hL:it ≠ X.env.locals)
  (h1:it ∈ X.ex\/X.s₀.heap.objs.size<=it) (h2:∀ x c,X.env.cells.lookup x=some c->c ≠ it) (h3:∀ p ∈ X.pn++pins,p.1 ≠ it):Inv X pins σ H { s with heap:=h',toks:=t' }:=by
 have nit:∀ b u,H b=some u->b ≠ it:=fun b u e z=>by rw [z,hn] at e;cases e
 refine I.step (g':=s.gens) (d':=s.drawn) (ch:=[it]) (fun b hb=>?_) (fun b o _ _ hc e _=>k b o (fun z=>hc (by simp [z])) e) (fun b o _ _ hc e _=>⟨o.slots,k b o (fun z=>hc (by simp [z])) e⟩) (fun _ _ _ _ n=>n)
  (fun b o hc e=>⟨o,k b o (fun z=>hc (by simp [z])) e⟩) (fun _ _ e=>e) (fun _ _ _ e=>e) (fun b ps e=>⟨#[],by rw [e];simp⟩) (fun m hm=>?_) (fun b u e=>?_) I.bare
 ·have e:b=it:=by simpa using hb
  subst e
  exact ⟨h1,hL,h2,h3⟩
 ·obtain ⟨o,es,ep,ho,r⟩:=hm
  exact ⟨o,es,ep,k _ o (Ne.symm hL) ho,r⟩
 ·refine (I.hok b u e).stay (fun c v hc q=>k c v ?_ q) (fun _ q=>q) fun _ _ q=>q
  rcases hc with z | z
  ·rw [z];exact nit b u e
  ·exact nit c _ z
theorem Inv.tok (I:Inv X pins σ H s) (t:Nat):Inv X pins σ H { s with toks:=t }:=I.un (h':=s.heap) (t':=t) Un.refl I.hok
theorem Inv.kept {t':Nat} (I:Inv X pins σ H s) (k:∀ b u,s.heap.get? b=some u->h'.get? b=some u):Inv X pins σ H { s with heap:=h',toks:=t' }:=I.un (Un.kept k) (I.hok.kept k)
theorem Inv.laid {a:Addr} {o:HO} {t':Nat} (I:Inv X pins σ H s) (k:∀ b u,s.heap.get? b=some u->h'.get? b=some u) (hp:s.heap.objs.size<=a) (new:bA X.prog X.w (upd H a o) h' a o) :
  Inv X pins σ (upd H a o) { s with heap:=h',toks:=t' }:=I.un (Un.laid k hp (I.hok.fresh hp)) (I.hok.laid k hp new)
theorem Inv.write {x e:Addr} {o:HO} {t':Nat} (I:Inv X pins σ H s) (mu:Mut (H x)) (he:e=x\/H e=some (.own x)) (k:∀ b u,b ≠ e->s.heap.get? b=some u->h'.get? b=some u) (heo:∃ u,h'.get? e=some u)
  (new:bA X.prog X.w (upd H x o) h' x o):Inv X pins σ (upd H x o) { s with heap:=h',toks:=t' }:=I.un (Un.write mu he k heo) (I.hok.write mu he k heo new)
theorem Inv.pins_of {pins':List (Addr × Obj)} (I:Inv X pins σ H s) (h:∀ p ∈ pins',s.heap.get? p.1=some p.2/\H p.1=none/\p.1 ≠ X.env.locals/\p.1 ∉ X.fs/\∀ v,p.2.data ≠ .cell v):Inv X pins' σ H s:=
 ⟨I.ok,I.os,I.bare,I.base,I.loc,I.cell,I.free,I.freeC,fun p hp=>(List.mem_append.mp hp).elim (fun z=>I.pin p (List.mem_append_left _ z)) (h p),I.hok,I.len⟩
theorem nV {N:List Str} (hN:N.Nodup) {i j:Nat} {x:Str} (a:N[i]?=some x) (b:N[j]?=some x):i=j:=by
 obtain ⟨h1,e1⟩:=List.getElem?_eq_some_iff.mp a
 obtain ⟨h2,e2⟩:=List.getElem?_eq_some_iff.mp b
 exact (List.getElem_inj hN).mp (e1.trans e2.symm)
theorem ld {M:Model} {A:Around} {E:Value->Shared->Prop} {i:Nat} {x:Str} {v:V} {u:Value} {Q:Unit->Shared->Prop} (I:Inv X pins σ H s) (hN:X.N.Nodup) (hi:X.N[i]?=some x) (hx:Loc X.env.scope x) (r:aJ v u)
  (h:∀ s',Inv X pins (σ.set i (some v)) H s'->(∃ a,Heap.SameBut a s.heap s'.heap/\(a=X.env.locals\/X.env.cells.lookup x=some a))->Q () s') (hf:X.fn x=true\/X.env.scope.names.lookup x=some .local:=by first | exact .inl rfl | exact .inr rfl | assumption):wpAny M A (storeName X.env x u) Q E s:=by
 obtain ⟨m,hn,hl⟩:=id I.loc
 have hcls:(X.env.scope.kind == .class || (X.env.scope.kind == .module && X.env.locals != X.env.globals))=false:=by rw [I.ok.kind];rfl
 have hiσ:i < σ.length:=by rw [I.len];exact (List.getElem?_eq_some_iff.mp hi).1
 have cne:=I.cne
 have tracked:∀ {a:Addr} {h':Heap},(∃ o,s.heap.get? a=some o/\H a=none)->Heap.SameBut a s.heap h'->HOk X.prog X.w H h':=fun {a h'} ha hs b ob e=>by
  obtain ⟨_,_,hfree⟩:=ha
  refine (I.hok b ob e).stay (fun c w' hc q=>(hs.2 c ?_).trans q) (fun _ q=>q) fun _ _ q=>q
  rintro rfl
  rcases hc with rfl | hc
  ·rw [hfree] at e;cases e
  ·rw [hfree] at hc;cases hc
 rcases hx with hk | hk
 ·refine wpAny_storeName_local hk hn (fun h' hn' hs=>?_) hcls
  obtain ⟨oL,_,_,hoL,_⟩:=id hn
  refine h _ ⟨I.ok,I.os,I.bare,⟨fun b o e n hb hx=>?_,fun b o e n hb hx=>?_,I.base.free,fun b o e hx=>?_,I.base.tups,I.base.frzs,I.base.tbls⟩,⟨_,hn',fun j y v' e1 e2 e3=>?_⟩,fun y c e=>?_,I.free,I.freeC,fun p hp=>?_,tracked ⟨oL,hoL,I.free⟩ hs,by simpa using I.len⟩ ⟨_,hs,.inl rfl⟩
  ·exact (hs.2 b (Nat.ne_of_lt (Nat.lt_of_lt_of_le (Heap.lt_size e) I.ok.above))).trans (I.base.keep b o e n hb hx)
  ·obtain ⟨sl,e1⟩:=I.base.slot b o e n hb hx
   exact ⟨sl,(hs.2 b (Nat.ne_of_lt (Nat.lt_of_lt_of_le (Heap.lt_size e) I.ok.above))).trans e1⟩
  ·obtain ⟨o',e1⟩:=I.base.there b o e hx
   exact ⟨o',(hs.2 b (Nat.ne_of_lt (Nat.lt_of_lt_of_le (Heap.lt_size e) I.ok.above))).trans e1⟩
  ·by_cases hj:j=i
   ·subst hj
    rw [hi] at e1;cases e1
    rw [List.getElem?_set_self hiσ] at e2
    cases e2
    exact ⟨u,r,.inl ⟨hk,by simp⟩⟩
   ·rw [List.getElem?_set_ne (Ne.symm hj)] at e2
    obtain ⟨u',r',q⟩:=hl j y v' e1 e2 e3
    refine ⟨u',r',?_⟩
    rcases q with ⟨k,e⟩ | ⟨k,c,e,z⟩
    ·refine .inl ⟨k,?_⟩
     have:y ≠ x:=fun e=>hj (nV hN e1 (e ▸ hi))
     simp [this,e]
    ·exact .inr ⟨k,c,e,z.sameBut hs (cne y c e)⟩
  ·obtain ⟨w',z⟩:=I.cell y c e
   exact ⟨w',z.sameBut hs (cne y c e)⟩
  ·obtain ⟨e,n,ne,nf,d⟩:=I.pin p hp
   exact ⟨(hs.2 p.1 ne).trans e,n,ne,nf,d⟩
 ·have hfn:X.fn x=true:=by
   rcases hf with z | z
   ·exact z
   ·rw [z] at hk;cases hk
  obtain ⟨c,hc⟩:=I.ok.has x (.inl hk)
  obtain ⟨w',z⟩:=I.cell x c hc
  refine wpAny_storeName_cell I.ok.kind hk hc z (fun h' hc' hs=>?_)
  obtain ⟨oc,hoc,hocd⟩:=id z
  refine h { s with heap:=h' } ⟨I.ok,I.os,I.bare,⟨fun b o e n hb hx=>?_,fun b o e n hb hx=>?_,I.base.free,fun b o e hx=>?_,I.base.tups,I.base.frzs,I.base.tbls⟩,⟨m,hn.sameBut hs (Ne.symm (cne x c hc)),fun j y v' e1 e2 e3=>?_⟩,fun y c' e=>?_,I.free,I.freeC,fun p hp=>?_,tracked ⟨oc,hoc,I.freeC x c hc⟩ hs,by simpa using I.len⟩ ⟨c,hs,.inr hc⟩
  ·exact (hs.2 b (Nat.ne_of_lt (Nat.lt_of_lt_of_le (Heap.lt_size e) (I.ok.cab x c hfn hc)))).trans (I.base.keep b o e n hb hx)
  ·obtain ⟨sl,e1⟩:=I.base.slot b o e n hb hx
   exact ⟨sl,(hs.2 b (Nat.ne_of_lt (Nat.lt_of_lt_of_le (Heap.lt_size e) (I.ok.cab x c hfn hc)))).trans e1⟩
  ·obtain ⟨o',e1⟩:=I.base.there b o e hx
   exact ⟨o',(hs.2 b (Nat.ne_of_lt (Nat.lt_of_lt_of_le (Heap.lt_size e) (I.ok.cab x c hfn hc)))).trans e1⟩
  ·by_cases hj:j=i
   ·subst hj
    rw [hi] at e1;cases e1
    rw [List.getElem?_set_self hiσ] at e2
    cases e2
    exact ⟨u,r,.inr ⟨.inl hk,c,hc,hc'⟩⟩
   ·rw [List.getElem?_set_ne (Ne.symm hj)] at e2
    obtain ⟨u',r',q⟩:=hl j y v' e1 e2 e3
    refine ⟨u',r',?_⟩
    rcases q with q | ⟨k,c',e,z'⟩
    ·exact .inl q
    ·refine .inr ⟨k,c',e,z'.sameBut hs ?_⟩
     rintro rfl
     exact hj (nV hN e1 (I.ok.inj _ _ _ e hc ▸ hi))
  ·by_cases hcc:c'=c
   ·subst hcc;exact ⟨_,hc'⟩
   ·obtain ⟨w2,z2⟩:=I.cell y c' e
    exact ⟨w2,z2.sameBut hs hcc⟩
  ·obtain ⟨e,n,ne,nf,d⟩:=I.pin p hp
   refine ⟨(hs.2 p.1 ?_).trans e,n,ne,nf,d⟩
   intro q
   rw [q,hoc] at e
   have q':oc=p.2:=Option.some.inj e
   exact d w' (by rw [<-q'];exact hocd)
theorem cF {M:Model} {A:Around} {E:Value->Shared->Prop} {i:Nat} {x:Str} {v:V} {u:Value} {Q:Unit->Shared->Prop} (I:Inv X pins σ H s) (hN:X.N.Nodup) (hi:X.N[i]?=some x) (hx:Loc X.env.scope x) (r:aJ v u)
  (h:∀ s',Inv X pins (σ.set i (some v)) H s'->Q () s') (hf:X.fn x=true\/X.env.scope.names.lookup x=some .local:=by first | exact .inl rfl | exact .inr rfl | assumption):wpAny M A (storeName X.env x u) Q E s:=
 ld I hN hi hx r (fun s' I' _=>h s' I') hf
theorem Inv.call' {s':Shared} {ch:List Addr} (I:Inv X pins σ H s) (ho:s'.os=s.os) (u:Un (frs X.stack) ch H H' s.heap s'.heap) (hok:HOk X.prog X.w H' s'.heap) (hg:AllBare s'.gens)
  (hch:∀ b ∈ ch,(b ∈ X.ex\/X.s₀.heap.objs.size<=b)/\b ≠ X.env.locals/\(∀ x c,X.env.cells.lookup x=some c->c ≠ b)/\∀ p ∈ X.pn++pins,p.1 ≠ b):Inv X pins σ H' s':=by
 obtain ⟨h',g',d',t',o'⟩:=s'
 have e:o'=s.os:=ho
 subst e
 exact I.call (g':=g') (t':=t') (d':=d') u hok hg hch
end
noncomputable abbrev XK:=Value->Option Addr->Hp->Prop
noncomputable abbrev St:=List (Option V)
noncomputable abbrev VK:=V->Hp->Prop
noncomputable abbrev TE:=St->Hp->VK->Prop
noncomputable abbrev TT:=St->Hp->(Bool->Hp->Prop)->Prop
noncomputable abbrev TA:=St->Hp->(List V->Hp->Prop)->Prop
structure Ends where
 nx:St->Hp->Prop
 rt:VK
 bk:St->Hp->Prop:=fun _ _=>False
 ct:St->Hp->Prop:=fun _ _=>False
noncomputable abbrev TS:=Ends->St->Hp->Prop
noncomputable def EP (X:Cx) (pins:List (Addr × Obj)) (σ:St) (Q:VK) (u:Value) (s':Shared):Prop:=∃ v H',Inv X pins σ H' s'/\aJ v u/\Q v H'
noncomputable def TP (X:Cx) (pins:List (Addr × Obj)) (σ:St) (Q:Bool->Hp->Prop) (b:Bool) (s':Shared):Prop:=∃ H',Inv X pins σ H' s'/\Q b H'
noncomputable def AP (X:Cx) (pins:List (Addr × Obj)) (σ:St) (Q:List V->Hp->Prop) (us:List Value) (s':Shared):Prop:=∃ vs H',Inv X pins σ H' s'/\aK vs us/\Q vs H'
noncomputable def SP (X:Cx) (pins:List (Addr × Obj)) (D:Ends) (f:Flow) (s':Shared):Prop:=
 match f with
 | .next=>∃ σ' H',Inv X pins σ' H' s'/\D.nx σ' H'
 | .brk=>∃ σ' H',Inv X pins σ' H' s'/\D.bk σ' H'
 | .cont=>∃ σ' H',Inv X pins σ' H' s'/\D.ct σ' H'
 | .ret u=>∃ v σ' H',Inv X pins σ' H' s'/\aJ v u/\D.rt v H'
noncomputable def PE (X:Cx) (e:Expr) (t:TE):Prop:=
 ∀ (pins:List (Addr × Obj)) (s:Shared) (σ:St) (H:Hp) (Q:VK),Inv X pins σ H s->t σ H Q->wpAny (model X.prog X.w) X.A (eval e X.env) (EP X pins σ Q) X.xe s
noncomputable def PT (X:Cx) (e:Expr) (t:TT):Prop:=
 ∀ (pins:List (Addr × Obj)) (s:Shared) (σ:St) (H:Hp) (Q:Bool->Hp->Prop),Inv X pins σ H s->t σ H Q->wpAny (model X.prog X.w) X.A (isTrue e X.env (eval e X.env)) (TP X pins σ Q) X.xe s
noncomputable def PW (X:Cx) (e:Expr) (t:TT):Prop:=
 ∀ (whole:Sem Value) (pins:List (Addr × Obj)) (s:Shared) (σ:St) (H:Hp) (Q:Bool->Hp->Prop),Inv X pins σ H s->t σ H Q->wpAny (model X.prog X.w) X.A (isTrue e X.env whole) (TP X pins σ Q) X.xe s
theorem PW.pt {X:Cx} {e:Expr} {t:TT} (h:PW X e t):PT X e t:=h _
noncomputable def PA (X:Cx) (es:List Expr) (t:TA):Prop:=
 ∀ (pos:Pos) (pins:List (Addr × Obj)) (s:Shared) (σ:St) (H:Hp) (Q:List V->Hp->Prop),Inv X pins σ H s->t σ H Q->wpAny (model X.prog X.w) X.A (spliced (backTo pos (starEach es X.env))) (AP X pins σ Q) X.xe s
noncomputable def PS (X:Cx) (st:Stmt) (t:TS):Prop:=
 ∀ (pins:List (Addr × Obj)) (s:Shared) (σ:St) (H:Hp) (D:Ends),Inv X pins σ H s->t D σ H->wpAny (model X.prog X.w) X.A (exec st X.env) (SP X pins D) X.xe s
noncomputable def PSs (X:Cx) (st:List Stmt) (t:TS):Prop:=
 ∀ (pins:List (Addr × Obj)) (s:Shared) (σ:St) (H:Hp) (D:Ends),Inv X pins σ H s->t D σ H->wpAny (model X.prog X.w) X.A (execs st X.env) (SP X pins D) X.xe s
theorem thn {α:Type} {t:Sem α} {Q Q':α->Shared->Prop} {M:Model} {A:Around} {E:Value->Shared->Prop} {s:Shared} (h:wpAny M A t Q E s) (hQ:∀ a s,Q a s->Q' a s):wpAny M A t Q' E s:=wpAny_mono h hQ fun _ _ x=>x
end L2
namespace L2
open PySem PySem.Spec PyProof.Rows
section
variable {X:Cx}
theorem bin {a b:Expr} {ta tb:TE} (ha:PE X a ta) (hb:PE X b tb) {pins:List (Addr × Obj)} {s:Shared} {σ:St} {H:Hp} {R:V->V->Hp->Prop} (I:Inv X pins σ H s) (h:ta σ H fun x H1=>tb σ H1 fun y H2=>R x y H2)
  {α:Type} {Q:α->Shared->Prop} {f:Value->Value->Sem α}
  (hf:∀ v u s2 x y H2,Inv X pins σ H2 s2->aJ x v->aJ y u->R x y H2->wpAny (model X.prog X.w) X.A (f v u) Q X.xe s2) :
  wpAny (model X.prog X.w) X.A (eval a X.env) (fun v s₁=>wpAny (model X.prog X.w) X.A (eval b X.env) (fun u s₂=>wpAny (model X.prog X.w) X.A (f v u) Q X.xe s₂) X.xe s₁) X.xe s:=by
 refine thn (ha pins s σ H _ I h) fun v s1 ⟨x,H1,I1,r1,q1⟩=>?_
 refine thn (hb pins s1 σ H1 _ I1 q1) fun u s2 ⟨y,H2,I2,r2,q2⟩=>?_
 exact hf v u s2 x y H2 I2 r1 r2 q2
noncomputable def Ib (i:Nat):TE:=fun σ H Q=>∃ v,σ[i]?=some (some v)/\Q v H
noncomputable def tC (v:V):TE:=fun _ H Q=>Q v H
theorem Dy {i:Nat} {x:Str} {pos:Pos} (hN:X.N[i]?=some x) (hv:Vis X.env.scope x) (hd:(x == ("__debug__" : Str))=false:=by decide) (hcd:(x == ("__classdict__" : Str))=false:=by decide):PE X (.Name x pos) (Ib i):=by
 intro pins s σ H Q I h
 obtain ⟨v,e,h⟩:=h
 obtain ⟨m,hn,hl⟩:=I.loc
 obtain ⟨u,r,l⟩:=hl i x v hN e hv
 have fin:EP X pins σ Q u s:=⟨v,H,I,r,h⟩
 rcases l with ⟨hk,hm⟩ | ⟨hk,c,hc,hcell⟩
 ·exact wpAny_Name (wpAny_loadName_local I.ok.kind hk hn hm fin) hd
 ·rcases hk with hk | hk
  ·exact wpAny_Name (wpAny_loadName_cell I.ok.kind hk hc hcell fin) hd
  ·exact wpAny_Name (wpAny_loadName_free I.ok.kind hk hc hcell fin hcd) hd
theorem pQ {i j pos}:PE X (.Constant (.int i) j pos) (tC (.int i)):=fun _ _ _ H _ I h=>wpAny_Constant_int ⟨.int i,H,I.tok _,⟨_,rfl⟩,h⟩
theorem Ic {b j pos}:PE X (.Constant (.bool b) j pos) (tC (.bl b)):=fun _ _ _ H _ I h=>Constant_bool ⟨.bl b,H,I,rfl,h⟩
theorem Dz {j pos}:PE X (.Constant .none j pos) (tC .non):=fun _ _ _ H _ I h=>Constant_none ⟨.non,H,I,rfl,h⟩
theorem DA {x j pos}:PE X (.Constant (.str x) j pos) (tC (.str x)):=fun _ _ _ H _ I h=>Calls.Constant_str ⟨.str x,H,I.tok _,⟨_,rfl⟩,h⟩
noncomputable def Gl (X:Cx) (x:Str):Prop:=X.env.kindOf x=some .globalImplicit
theorem rA {E:Value->Shared->Prop} {pins:List (Addr × Obj)} {s:Shared} {σ:St} {H:Hp} {x:Str} {u:Value} {pos:Pos} {Q:Value->Shared->Prop} (I:Inv X pins σ H s) (hg:Gl X x) (hm:X.mg x=some u) (h:Q u s)
  (hd:(x == ("__debug__" : Str))=false:=by decide):wpAny (model X.prog X.w) X.A (eval (.Name x pos) X.env) Q E s:=
 Calls.Name_function_global I.ok.kind hg (Calls.loadGlobal_global (by rw [I.ok.glob];exact I.mod.glob.keeps I.bk) hm h) hd
theorem ga {E:Value->Shared->Prop} {pins:List (Addr × Obj)} {s:Shared} {σ:St} {H:Hp} {x:Str} {u:Value} {pos:Pos} {Q:Value->Shared->Prop} (I:Inv X pins σ H s) (hg:Gl X x) (hm:X.mg x=none) (hv:bootBuiltins x=some u) (h:Q u s)
  (hn:x ≠ "__name__" := by decide) (hd:(x == ("__debug__" : Str))=false:=by decide):wpAny (model X.prog X.w) X.A (eval (.Name x pos) X.env) Q E s:=by
 obtain ⟨mb,h1,h2⟩:=I.mod.blt
 exact Calls.Name_function_global I.ok.kind hg (Calls.loadGlobal_builtin (by rw [I.ok.glob];exact I.mod.glob.keeps I.bk) hm (by rw [I.ok.blt];exact h1.keeps I.bk) ((h2 x hn).trans hv) h) hd
theorem yZ {x:Str} {v:V} {u:Value} {pos:Pos} (hg:Gl X x) (hm:X.mg x=some u) (r:aJ v u) (hd:(x == ("__debug__" : Str))=false:=by decide):PE X (.Name x pos) (tC v):=
 fun _ _ _ H _ I h=>rA I hg hm ⟨v,H,I,r,h⟩ hd
theorem gD {x:Str} {v:V} {u:Value} {pos:Pos} (hg:Gl X x) (hm:X.mg x=none) (hv:bootBuiltins x=some u) (r:aJ v u) (hn:x ≠ "__name__" := by decide) (hd:(x == ("__debug__" : Str))=false:=by decide):PE X (.Name x pos) (tC v):=
 fun _ _ _ H _ I h=>ga I hg hm hv ⟨v,H,I,r,h⟩ hn hd
variable {a b:Expr} {ta tb:TE} {pos:Pos}
variable {tA tB':TT} {rest:List Expr}
noncomputable def Ie (t u:TT):TT:=fun σ H Q=>t σ H fun c H1=>if c=true then u σ H1 Q else Q false H1
noncomputable def tOr (t u:TT):TT:=fun σ H Q=>t σ H fun c H1=>if c=true then Q true H1 else u σ H1 Q
noncomputable def Ig (t:TT):TT:=fun σ H Q=>t σ H fun c H1=>Q (!c) H1
theorem y0 (ha:PT X a tA):PW X (.BoolOp .And [a] pos) tA:=by
 intro wh pins s σ H Q I h
 refine isTrue_and (thn (ha pins s σ H Q I h) fun c s1 e=>?_)
 cases c with
 | true=>exact isTrue_and_nil e
 | false=>exact e
theorem DB (ha:PT X a tA):PW X (.BoolOp .Or [a] pos) tA:=by
 intro wh pins s σ H Q I h
 refine isTrue_or (thn (ha pins s σ H Q I h) fun c s1 e=>?_)
 cases c with
 | false=>exact isTrue_or_nil e
 | true=>exact e
theorem vh (ha:PT X a tA) (hb:PW X (.BoolOp .And (b::rest) pos) tB'):PW X (.BoolOp .And (a::b::rest) pos) (Ie tA tB'):=by
 intro wh pins s σ H Q I h
 refine isTrue_and (thn (ha pins s σ H _ I h) fun c s1 ⟨H1,I1,q1⟩=>?_)
 cases c with
 | true=>exact hb wh pins s1 σ H1 Q I1 q1
 | false=>exact ⟨H1,I1,q1⟩
theorem CF (ha:PT X a tA) (hb:PW X (.BoolOp .Or (b::rest) pos) tB'):PW X (.BoolOp .Or (a::b::rest) pos) (tOr tA tB'):=by
 intro wh pins s σ H Q I h
 refine isTrue_or (thn (ha pins s σ H _ I h) fun c s1 ⟨H1,I1,q1⟩=>?_)
 cases c with
 | true=>exact ⟨H1,I1,q1⟩
 | false=>exact hb wh pins s1 σ H1 Q I1 q1
theorem DC (ha:PT X a tA):PT X (.UnaryOp .Not a pos) (Ig tA):=by
 intro pins s σ H Q I h
 exact isTrue_not (ha pins s σ H (fun c H1=>Q (!c) H1) I h)
noncomputable def CG (ta tb:TE):TE:=fun σ H Q=>ta σ H fun x H1=>∃ c,x = .bl c/\if c=true then tb σ H1 Q else Q (.bl false) H1
noncomputable def Ih (ta tb:TE):TE:=fun σ H Q=>ta σ H fun x H1=>∃ c,x = .bl c/\if c=true then Q (.bl true) H1 else tb σ H1 Q
noncomputable def CH (ta:TE):TE:=fun σ H Q=>ta σ H fun x H1=>∃ c,x = .bl c/\Q (.bl (!c)) H1
theorem vj {op} {t:TE} (h:PE X a t):PE X (.BoolOp op [a] pos) t:=fun pins s σ H Q I hw=>BoolOp_one (h pins s σ H Q I hw)
theorem vk (ha:PE X a ta) (hb:PE X (.BoolOp .And (b::rest) pos) tb):PE X (.BoolOp .And (a::b::rest) pos) (CG ta tb):=by
 intro pins s σ H Q I h
 refine BoolOp_and (thn (ha pins s σ H _ I h) fun v s1 ⟨x,H1,I1,r1,q1⟩=>?_)
 obtain ⟨c,rfl,q1⟩:=q1
 cases r1
 refine wpAny_truthy_bool ?_
 cases c with
 | true=>exact hb pins s1 σ H1 Q I1 q1
 | false=>exact ⟨.bl false,H1,I1,rfl,q1⟩
theorem CJ (ha:PE X a ta) (hb:PE X (.BoolOp .Or (b::rest) pos) tb):PE X (.BoolOp .Or (a::b::rest) pos) (Ih ta tb):=by
 intro pins s σ H Q I h
 refine BoolOp_or (thn (ha pins s σ H _ I h) fun v s1 ⟨x,H1,I1,r1,q1⟩=>?_)
 obtain ⟨c,rfl,q1⟩:=q1
 cases r1
 refine wpAny_truthy_bool ?_
 cases c with
 | false=>exact hb pins s1 σ H1 Q I1 q1
 | true=>exact ⟨.bl true,H1,I1,rfl,q1⟩
theorem DD (ha:PE X a ta):PE X (.UnaryOp .Not a pos) (CH ta):=by
 intro pins s σ H Q I h
 refine UnaryOp_ (thn (ha pins s σ H _ I h) fun v s1 ⟨x,H1,I1,r1,q1⟩=>?_)
 obtain ⟨c,rfl,q1⟩:=q1
 cases r1
 exact not_of (wpAny_truthy_bool ⟨.bl (!c),H1,I1,rfl,q1⟩)
noncomputable def tIf (t:TT) (ta tb:TE):TE:=fun σ H Q=>t σ H fun c H1=>if c=true then ta σ H1 Q else tb σ H1 Q
theorem vm {c:Expr} (hc:PT X c tA) (ha:PE X a ta) (hb:PE X b tb):PE X (.IfExp c a b pos) (tIf tA ta tb):=by
 intro pins s σ H Q I h
 refine wpAny_IfExp (thn (hc pins s σ H _ I h) fun d s1 ⟨H1,I1,q1⟩=>?_)
 cases d with
 | true=>exact ha pins s1 σ H1 Q I1 q1
 | false=>exact hb pins s1 σ H1 Q I1 q1
end
end L2
namespace L2
open PySem PySem.Spec PyProof.Rows
noncomputable def SqL (K:PySem.W.Frag) (H:Hp) (a:Addr) (xs:List V):Prop:=
 Rd H a (.lst xs) ∨
  ∃ (o:Obj) (its:Array Value) (n:Nat),K.lookup a=some o/\o.cls = .type "list"/\o.dict=none/\o.data = .seq its n/\its.size<=sizeLine/\aK xs its.toList
noncomputable def SqT (K:PySem.W.Frag) (H:Hp) (a:Addr) (xs:List V):Prop:=
 Rd H a (.tup xs) ∨
  ∃ (o:Obj) (its:Array Value) (n:Nat),K.lookup a=some o/\o.cls = .type "tuple"/\o.data = .seq its n/\its.size<=sizeLine/\aK xs its.toList
noncomputable def KL:Value->Option V
 | .none=>some .non
 | .bool b=>some (.bl b)
 | .int i _=>some (.int i)
 | .str x _=>some (.str x)
 | .bytes b _=>some (.byt b)
 | .float b _=>some (.flt b)
 | .ref a=>some (.ref a)
 | .type n=>some (.ty n)
 | _=>none
theorem aJ.abs {x:V} {u:Value} (r:aJ x u):KL u=some x:=by
 cases x with
 | non=>cases r;rfl
 | bl _=>cases r;rfl
 | int _=>obtain ⟨t,rfl⟩:=r;rfl
 | str _=>obtain ⟨t,rfl⟩:=r;rfl
 | byt _=>obtain ⟨t,rfl⟩:=r;rfl
 | flt _=>obtain ⟨t,rfl⟩:=r;rfl
 | ref _=>cases r;rfl
 | ty _=>cases r;rfl
theorem aJ.inj {x y:V} {u:Value} (r:aJ x u) (q:aJ y u):x=y:=Option.some.inj (r.abs.symm.trans q.abs)
theorem aK.inj:∀ {xs ys:List V} {us:List Value},aK xs us->aK ys us->xs=ys
 | _,_,_,.nil,.nil=>rfl
 | _,_,_,.cons r t,.cons r' t'=>by rw [r.inj r',aK.inj t t']
section
variable {X:Cx} {pins:List (Addr × Obj)} {σ:St} {H:Hp} {s:Shared} {a:Addr} {xs ys:List V}
theorem SqL.of {K:PySem.W.Frag} (h:H a=some (.lst xs)):SqL K H a xs:=.inl (.inl h)
theorem SqT.of {K:PySem.W.Frag} (h:H a=some (.tup xs)):SqT K H a xs:=.inl (.inl h)
theorem Inv.list (I:Inv X pins σ H s) (h:SqL X.K H a xs):∃ its:List Value,aK xs its/\PlainL s.heap a its.toArray/\xs.length<=sizeLine:=by
 rcases h with h | ⟨o,its,n,hk,hc,hd,hs,hz,r⟩
 ·obtain ⟨z,its,n,r,e⟩:=h.ok I.hok
  exact ⟨its,r,⟨_,n,e,rfl,rfl,rfl⟩,z⟩
 ·refine ⟨its.toList,r,⟨o,n,I.kIn a o hk,hc,hd,by simpa using hs⟩,?_⟩
  have e:=r.length
  simp only [Array.length_toList] at e
  omega
theorem Inv.tuple (I:Inv X pins σ H s) (h:SqT X.K H a xs):∃ its:List Value,aK xs its/\IsTup s.heap a its.toArray/\xs.length<=sizeLine:=by
 rcases h with h | ⟨o,its,n,hk,hc,hs,hz,r⟩
 ·obtain ⟨z,its,r,p⟩:=h.ok I.hok
  exact ⟨its,r,p.isTup,z⟩
 ·refine ⟨its.toList,r,⟨o,I.kIn a o hk,hc,n,by simpa using hs⟩,?_⟩
  have e:=r.length
  simp only [Array.length_toList] at e
  omega
theorem Inv.list_inj (I:Inv X pins σ H s) (h:SqL X.K H a xs) (h':SqL X.K H a ys):xs=ys:=by
 obtain ⟨its,r,⟨o,n,e,_,_,d⟩,_⟩:=I.list h
 obtain ⟨its',r',⟨o',n',e',_,_,d'⟩,_⟩:=I.list h'
 rw [e] at e';cases e'
 rw [d] at d'
 injection d' with d1 _
 have:its=its':=by simpa using congrArg Array.toList d1
 subst this
 exact r.inj r'
theorem Inv.tuple_inj (I:Inv X pins σ H s) (h:SqT X.K H a xs) (h':SqT X.K H a ys):xs=ys:=by
 obtain ⟨its,r,⟨o,e,_,n,d⟩,_⟩:=I.tuple h
 obtain ⟨its',r',⟨o',e',_,n',d'⟩,_⟩:=I.tuple h'
 rw [e] at e';cases e'
 rw [d] at d'
 injection d' with d1 _
 have:its=its':=by simpa using congrArg Array.toList d1
 subst this
 exact r.inj r'
end
noncomputable abbrev Cx.wish (X:Cx) (E:Value->Shared->Prop):Cx:={ X with xe:=E }
noncomputable abbrev Cx.nox (X:Cx):Cx:=X.wish fun _ _=>False
theorem Cx.Ok.wish {X:Cx} (ok:X.Ok) (E:Value->Shared->Prop):(X.wish E).Ok:=
 ⟨ok.mod,ok.kind,ok.glob,ok.blt,ok.above,ok.inj,ok.has,ok.cab,ok.hd,ok.frames,ok.stk,ok.exf,ok.bs,ok.bsz,ok.noex,ok.exfs,ok.funs,ok.frf⟩
theorem Cx.Ok.unwish {X:Cx} {E:Value->Shared->Prop} (ok:(X.wish E).Ok):X.Ok:=
 ⟨ok.mod,ok.kind,ok.glob,ok.blt,ok.above,ok.inj,ok.has,ok.cab,ok.hd,ok.frames,ok.stk,ok.exf,ok.bs,ok.bsz,ok.noex,ok.exfs,ok.funs,ok.frf⟩
section
variable {X:Cx} {pins:List (Addr × Obj)} {σ:St} {H:Hp} {s:Shared} {E:Value->Shared->Prop}
theorem Inv.wish (I:Inv X pins σ H s) (E:Value->Shared->Prop):Inv (X.wish E) pins σ H s:=⟨I.ok.wish E,I.os,I.bare,I.base,I.loc,I.cell,I.free,I.freeC,I.pin,I.hok,I.len⟩
theorem Inv.unwish (I:Inv (X.wish E) pins σ H s):Inv X pins σ H s:=⟨I.ok.unwish,I.os,I.bare,I.base,I.loc,I.cell,I.free,I.freeC,I.pin,I.hok,I.len⟩
theorem SP.unwish {D:Ends} {f:Flow} {s':Shared} (h:SP (X.wish E) pins D f s'):SP X pins D f s':=by
 cases f with
 | next=>obtain ⟨σ',H',I,q⟩:=h;exact ⟨σ',H',I.unwish,q⟩
 | brk=>obtain ⟨σ',H',I,q⟩:=h;exact ⟨σ',H',I.unwish,q⟩
 | cont=>obtain ⟨σ',H',I,q⟩:=h;exact ⟨σ',H',I.unwish,q⟩
 | ret u=>obtain ⟨v,σ',H',I,r,q⟩:=h;exact ⟨v,σ',H',I.unwish,r,q⟩
theorem PSs.nox {st:List Stmt} {t:TS} (h:PSs X.nox st t):PSs X st t:=fun pins s σ H D I hw=>
 wpAny_mono (h pins s σ H D (I.wish _) hw) (fun _ _ q=>q.unwish) fun _ _ z=>False.elim z
end
section
variable {X:Cx} {st:Stmt} {rest:List Stmt} {t u:TS} {e:Expr} {te:TE} {pos:Pos}
noncomputable def vn:TS:=fun D σ H=>D.nx σ H
noncomputable def Ii (t u:TS):TS:=fun D σ H=>t { D with nx:=u D } σ H
theorem y6:PSs X [] vn:=fun _ _ σ H _ I h=>wpAny_execs_nil ⟨σ,H,I,h⟩
theorem vo (h1:PS X st t) (h2:PSs X rest u):PSs X (st::rest) (Ii t u):=by
 intro pins s σ H D I h
 refine wpAny_execs_cons (thn (h1 pins s σ H { D with nx:=u D } I h) fun f s1 q=>?_)
 cases f with
 | next=>
  obtain ⟨σ',H',I',q⟩:=q
  exact h2 pins s1 σ' H' D I' q
 | ret v=>exact q
 | brk=>exact q
 | cont=>exact q
noncomputable def vp:TS:=fun D σ H=>D.bk σ H
noncomputable def CK:TS:=fun D σ H=>D.ct σ H
theorem y7:PS X (.Pass pos) vn:=fun _ _ σ H _ I h=>wpAny_Pass ⟨σ,H,I,h⟩
theorem vq:PS X (.Break pos) vp:=fun _ _ σ H _ I h=>wpAny_Break ⟨σ,H,I,h⟩
theorem nW:PS X (.Continue pos) CK:=fun _ _ σ H _ I h=>wpAny_Continue ⟨σ,H,I,h⟩
theorem Inv.quiet {pins:List (Addr × Obj)} {σ:St} {H:Hp} {s:Shared} (I:Inv X pins σ H s):interactive X.env=false:=by simp [interactive,I.ok.kind]
noncomputable def CL (te:TE):TS:=fun D σ H=>te σ H fun _ H1=>D.nx σ H1
theorem y8 (he:PE X e te) (hs:swapsWith e none pos.line X.env=pure false:=by rfl):PS X (.Expr e pos) (CL te):=by
 intro pins s σ H D I h
 exact wpAny_Expr_any (thn (he pins s σ H _ I h) fun v s1 ⟨x,H1,I1,r1,q1⟩=>⟨σ,H1,I1,q1⟩) I.quiet hs
noncomputable def Ij (te:TE):TS:=fun D σ H=>te σ H D.rt
theorem DE (he:PE X e te):PS X (.Return (some e) pos) (Ij te):=by
 intro pins s σ H D I h
 exact wpAny_Return_some (thn (he pins s σ H _ I h) fun v s1 ⟨x,H1,I1,r1,q1⟩=>⟨x,σ,H1,I1,r1,q1⟩)
noncomputable def CM:TS:=fun D _ H=>D.rt .non H
theorem y9:PS X (.Return none pos) CM:=fun _ _ σ H _ I h=>wpAny_Return_none ⟨.non,σ,H,I,rfl,h⟩
noncomputable def Ik (c:TT) (t u:TS):TS:=fun D σ H=>c σ H fun b H1=>if b=true then t D σ H1 else u D σ H1
theorem Il {c:Expr} {a b:List Stmt} {tc:TT} (hc:PT X c tc) (ha:PSs X a t) (hb:PSs X b u):PS X (.If c a b pos) (Ik tc t u):=by
 intro pins s σ H D I h
 refine wpAny_If (thn (hc pins s σ H _ I h) fun d s1 ⟨H1,I1,q1⟩=>?_)
 cases d with
 | true=>exact ha pins s1 σ H1 D I1 q1
 | false=>exact hb pins s1 σ H1 D I1 q1
noncomputable def DF:TS:=fun _ _ _=>False
theorem vt:PS X st DF:=fun _ _ _ _ _ _ h=>h.elim
end
noncomputable abbrev TG:=V->St->Hp->(St->Hp->Prop)->Prop
noncomputable abbrev TGs:=List V->St->Hp->(St->Hp->Prop)->Prop
noncomputable def PG (X:Cx) (target:Expr) (t:TG):Prop:=
 ∀ (pins:List (Addr × Obj)) (s:Shared) (σ:St) (H:Hp) (v:V) (u:Value) (Q:St->Hp->Prop),Inv X pins σ H s->aJ v u->t v σ H Q ->
  wpAny (model X.prog X.w) X.A (assign target X.env u) (fun _ s'=>∃ σ' H',Inv X pins σ' H' s'/\Q σ' H') X.xe s
noncomputable def PGs (X:Cx) (ts:List Expr) (t:TGs):Prop:=
 ∀ (pins:List (Addr × Obj)) (s:Shared) (σ:St) (H:Hp) (vs:List V) (us:List Value) (Q:St->Hp->Prop),Inv X pins σ H s->aK vs us->t vs σ H Q ->
  wpAny (model X.prog X.w) X.A (assignInOrder ((assignEach ts X.env).map (·.2)) us) (fun _ s'=>∃ σ' H',Inv X pins σ' H' s'/\Q σ' H') X.xe s
noncomputable abbrev zc:=V->V->V->Hp->(Hp->Prop)->Prop
noncomputable def DG (X:Cx) (t:zc):Prop:=
 ∀ (pins:List (Addr × Obj)) (s:Shared) (σ:St) (H:Hp) (o i v:V) (ov iv u:Value) (Q:Hp->Prop),Inv X pins σ H s->aJ o ov->aJ i iv->aJ v u->t o i v H Q ->
  wpAny (model X.prog X.w) X.A (setItem ov iv u) (fun _ s'=>∃ H',Inv X pins σ H' s'/\Q H') X.xe s
section
variable {X:Cx} {pos:Pos}
noncomputable def nX (i:Nat):TG:=fun v σ H Q=>Q (σ.set i (some v)) H
theorem zd {i:Nat} {x:Str} (hN:X.N.Nodup) (hi:X.N[i]?=some x) (hx:Loc X.env.scope x) (hf:X.fn x=true\/X.env.scope.names.lookup x=some .local:=by first | exact .inl rfl | exact .inr rfl | assumption):PG X (.Name x pos) (nX i):=by
 intro pins s σ H v u Q I r h
 exact wpAny_assign_Name (cF I hN hi hx r (fun s' I'=>⟨_,H,I',h⟩) hf)
noncomputable def Im:TGs:=fun vs σ H Q=>vs=[]/\Q σ H
noncomputable def CN (t:TG) (u:TGs):TGs:=fun vs σ H Q=>∃ v r,vs=v::r/\t v σ H fun σ' H'=>u r σ' H' Q
theorem ze:PGs X [] Im:=by
 intro pins s σ H vs us Q I r h
 obtain ⟨e,h⟩:=h
 subst e
 cases r
 exact assignInOrder_nil ⟨σ,H,I,h⟩
theorem vA {e:Expr} {es:List Expr} {t:TG} {u:TGs} (h1:PG X e t) (h2:PGs X es u)
  (hs:(assignEach (e::es) X.env).map (·.2)=assign e X.env::(assignEach es X.env).map (·.2):=by rfl):PGs X (e::es) (CN t u):=by
 intro pins s σ H vs us Q I r h
 obtain ⟨v,vr,e1,h⟩:=h
 subst e1
 cases r with
 | cons r rr=>
  rw [hs]
  refine assignInOrder_cons (thn (h1 pins s σ H _ _ _ I r h) fun _ s1 ⟨σ1,H1,I1,q1⟩=>?_)
  exact h2 pins s1 σ1 H1 _ _ Q I1 rr q1
noncomputable def Io (K:PySem.W.Frag) (n:Nat) (t:TGs):TG:=fun v σ H Q=>∃ a xs,v = .ref a/\SqT K H a xs/\xs.length=n/\t xs σ H Q
theorem DH {es:List Expr} {k:Nat} {t:TGs} {n:Nat} (hc:X.calm=true) (h:PGs X es t)
  (hn:(assignEach es X.env).length=n:=by rfl) (hst:(assignEach es X.env).findIdx? (·.1)=none:=by rfl):PG X (.Tuple es k pos) (Io X.K n t):=by
 intro pins s σ H v u Q I r hw
 obtain ⟨a,xs,e1,hq,hl,hw⟩:=hw
 subst e1
 cases r
 obtain ⟨its,rv,ht,hz⟩:=I.tuple hq
 refine assign_Tuple_tuple (I.ok.hd hc) ht (by simp [hn,<-hl,rv.length]) hst fun h' hx=>?_
 have I1:Inv X pins σ H { s with heap:=h' }:=I.kept (t':=s.toks) fun b o e=>hx b o (Nat.ne_of_lt (Heap.lt_size e)) e
 exact h pins _ σ H xs _ Q I1 (by simpa using rv) hw
noncomputable def Ip (to ti:TE) (t:zc):TG:=fun v σ H Q=>to σ H fun o H1=>ti σ H1 fun i H2=>t o i v H2 fun H3=>Q σ H3
theorem DI {o i:Expr} {to ti:TE} {t:zc} (ho:PE X o to) (hi:PE X i ti) (hs:DG X t)
  (ha:∀ v,assign (.Subscript o i pos) X.env v=(do
   let ov <-holding [v] (eval o X.env)
   let iv <-holding [v,ov] (eval i X.env)
   standAt pos
   holding [v,ov,iv] (setItem ov iv v)
   release [v,ov,iv] []):=by intro _;rfl):PG X (.Subscript o i pos) (Ip to ti t):=by
 intro pins s σ H v u Q I r h
 rw [ha]
 refine wpAny_bind (wpAny_holding (thn (ho pins s σ H _ I h) fun ov s1 ⟨x,H1,I1,r1,q1⟩=>?_))
 refine wpAny_bind (wpAny_holding (thn (hi pins s1 σ H1 _ I1 q1) fun iv s2 ⟨y,H2,I2,r2,q2⟩=>?_))
 refine wpAny_bind (wpAny_standAt (wpAny_bind (wpAny_holding (thn (hs pins s2 σ H2 x y v ov iv u _ I2 r1 r2 r q2) fun _ s3 ⟨H3,I3,q3⟩=>?_))))
 exact wpAny_release ⟨σ,H3,I3,q3⟩
noncomputable def vB (te:TE) (g:TG):TS:=fun D σ H=>te σ H fun x H1=>g x σ H1 D.nx
theorem vC {tg e:Expr} {te:TE} {g:TG} (he:PE X e te) (hg:PG X tg g) (hs:swapsWithSole [tg] e pos.line X.env=pure false:=by rfl) (hw:swappedStores [tg] e X.env=pure none:=by rfl)
  (h1:(assignEach [tg] X.env).map (·.2)=[assign tg X.env]:=by rfl):PS X (.Assign [tg] e pos) (vB te g):=by
 intro pins s σ H D I h
 refine wpAny_Assign_stores (thn (he pins s σ H _ I h) fun v s1 ⟨x,H1,I1,r1,q1⟩=>?_) hs hw
 rw [h1]
 exact thn (hg pins s1 σ H1 x v _ I1 r1 q1) fun _ s2 q=>q
theorem DJ {i:Nat} {x:Str} {e:Expr} {te:TE} {pos':Pos} (hN:X.N.Nodup) (hi:X.N[i]?=some x) (hx:Loc X.env.scope x) (he:PE X e te) (hs:swapsWith e (some (.Name x pos')) pos.line X.env=pure false:=by rfl) (hf:X.fn x=true\/X.env.scope.names.lookup x=some .local:=by first | exact .inl rfl | exact .inr rfl | assumption) :
  PS X (.Assign [.Name x pos'] e pos) (vB te (nX i)):=by
 intro pins s σ H D I h
 refine wpAny_Assign_Name (thn (he pins s σ H _ I h) fun v s1 ⟨y,H1,I1,r1,q1⟩=>?_) hs
 exact cF I1 hN hi hx r1 (fun s2 I2=>⟨_,H1,I2,q1⟩) hf
noncomputable def Iq (i j:Nat) (ta:TA):TS:=fun D σ H=>ta σ H fun vs H1=>∃ v w,vs=[v,w]/\D.nx ((σ.set i (some v)).set j (some w)) H1
theorem DK {i j:Nat} {x y:Str} {a b:Expr} {ta:TA} {px py pt:Pos} {kt k2 pt2} (hc:X.calm=true) (hN:X.N.Nodup) (hi:X.N[i]?=some x) (hj:X.N[j]?=some y) (hij:i ≠ j)
  (hx:X.env.scope.names.lookup x=some .local) (hy:X.env.scope.names.lookup y=some .local) (ha:PA X [a,b] ta)
  (hw:swappedStores [.Tuple [.Name x px,.Name y py] kt pt] (.Tuple [a,b] k2 pt2) X.env=pure (some [x,y]))
  (hs:swapsWithSole [.Tuple [.Name x px,.Name y py] kt pt] (.Tuple [a,b] k2 pt2) pos.line X.env=pure false:=by rfl) :
  PS X (.Assign [.Tuple [.Name x px,.Name y py] kt pt] (.Tuple [a,b] k2 pt2) pos) (Iq i j ta):=by
 intro pins s σ H D I h
 rw [exec_Assign_arm]
 refine wpAny_bind (wpAny_standAt ?_)
 rw [hs]
 refine wpAny_bind (wpAny_pure ?_)
 rw [if_neg (by decide)]
 refine wpAny_bind (Tuple_ (thn (ha _ pins s σ H _ I h) fun us s1 ⟨vs,H1,I1,r1,q1⟩=>?_))
 obtain ⟨v,w,e1,q1⟩:=q1
 subst e1
 obtain ⟨u1,u2,rfl,rv,rw'⟩:∃ u1 u2,us=[u1,u2]/\aJ v u1/\aJ w u2:=by
  cases r1 with
  | cons p q=>
   cases q with
   | cons p' q'=>
    cases q'
    exact ⟨_,_,rfl,p,p'⟩
 refine wpAny_newObj_type ?_ (by show 2<=sizeLine;decide)
 have I2:Inv X pins σ H1 { s1 with heap:=s1.heap.push { cls:=.type "tuple", data:=.seq [u1,u2].toArray } }:=I1.kept (t':=s1.toks) fun b o e=>Heap.get?_push_of_some _ e
 rw [hw]
 refine wpAny_bind (wpAny_pure ?_)
 show wpAny (model X.prog X.w) X.A (do rule "assign.swapped-stores"; let items <-unpackItems (.ref s1.heap.objs.size) 2 none;assignInOrder [fun v=>bindName X.env y v,fun v=>bindName X.env x v] items.reverse;pure Flow.next) _ _ _
 refine wpAny_bind (wpAny_rule (wpAny_bind (unpackItems_tuple (items:=#[u1,u2]) (I.ok.hd hc) (IsTup.new s1.heap _) fun h' hx'=>?_)))
 have I3:=I2.kept (h':=h') (t':=s1.toks) fun b o e=>hx' b o (Nat.ne_of_lt (Heap.lt_size e)) e
 show wpAny _ _ (assignInOrder [fun v=>bindName X.env y v,fun v=>bindName X.env x v] [u2,u1] >>= fun _=>pure Flow.next) _ _ _
 refine wpAny_bind (assignInOrder_cons (wpAny_bindName (cF I3 hN hj (.inl hy) rw' (fun s2 I4=>?_) (.inr hy))))
 refine assignInOrder_cons (wpAny_bindName (cF I4 hN hi (.inl hx) rv (fun s3 I5=>assignInOrder_nil (wpAny_pure ?_)) (.inr hx)))
 rw [List.set_comm _ _ (Ne.symm hij)] at I5
 exact ⟨_,H1,I5,q1⟩
end
section
variable {X:Cx} {pos:Pos}
noncomputable def vD (c:TT) (tb:TS):TS:=fun D σ H=>∃ W:Nat->St->Hp->Prop,(∃ m,W m σ H)/\∀ m σ H,W m σ H ->
 c σ H fun b H1=>if b=true then ∃ N:St->Hp->Prop,(∀ σ' H',N σ' H'->∃ m',m' < m/\W m' σ' H')/\tb { D with nx:=N,ct:=N,bk:=D.nx } σ H1 else D.nx σ H1
theorem vE {c:Expr} {body:List Stmt} {tc:TT} {tb:TS} (hp:PassesOwn (model X.prog X.w) X.A X.env X.xe) (hc:PT X c tc) (hb:PSs X body tb):PS X (.While c body [] pos) (vD tc tb):=by
 intro pins s σ H D I h
 obtain ⟨W,⟨m0,w0⟩,turn⟩:=h
 refine wpAny_While (codeAny_whileLoop (fun n s'=>∃ σ' H',Inv X pins σ' H' s'/\W n σ' H') ?_ m0 ⟨σ,H,I,w0⟩)
 rintro n s1 ⟨σ1,H1,I1,w1⟩
 refine wpAny_passesOwn hp (thn (hc pins s1 σ1 H1 _ I1 (turn n σ1 H1 w1)) fun b s2 ⟨H2,I2,q2⟩=>?_)
 cases b with
 | true=>
  obtain ⟨N,hN,q2⟩:=q2
  rw [if_pos rfl]
  refine wpAny_passesOwn hp (thn (hb pins s2 σ1 H2 _ I2 q2) fun f s3 q3=>?_)
  cases f with
  | next=>
   obtain ⟨σ3,H3,I3,n3⟩:=q3
   obtain ⟨m',hm,w3⟩:=hN σ3 H3 n3
   exact ⟨m',hm,σ3,H3,I3,w3⟩
  | cont=>
   obtain ⟨σ3,H3,I3,n3⟩:=q3
   obtain ⟨m',hm,w3⟩:=hN σ3 H3 n3
   exact ⟨m',hm,σ3,H3,I3,w3⟩
  | brk=>exact q3
  | ret v=>exact q3
 | false=>
  rw [if_neg Bool.false_ne_true]
  exact wpAny_execs_nil ⟨σ1,H2,I2,q2⟩
end
structure It where
 go:Nat->Hp->Prop
 yld:Nat->Hp->V->Hp->Prop
 stop:Nat->Hp->Prop
noncomputable def fS (X:Cx) (pins:List (Addr × Obj)) (H:Hp) (b:Addr):Prop:=
 H b=none/\b ≠ X.env.locals/\b ∉ X.fs/\(b ∈ X.ex\/X.s₀.heap.objs.size<=b)/\(∀ x c,X.env.cells.lookup x=some c->c ≠ b)/\∀ p ∈ X.pn++pins,p.1 ≠ b
theorem Inv.fpOk {X:Cx} {pins:List (Addr × Obj)} {σ:St} {H H':Hp} {s:Shared} {b:Addr} (I:Inv X pins σ H s) (hb:s.heap.objs.size<=b) (hn:H' b=none):fS X pins H' b:=by
 refine ⟨hn,Nat.ne_of_gt (Nat.lt_of_lt_of_le I.lt hb),I.nofs hb,.inr (Nat.le_trans I.sz hb),fun x c e z=>?_,fun p hp z=>?_⟩
 ·obtain ⟨v,q⟩:=I.cell x c e
  exact absurd (Nat.lt_of_lt_of_le q.lt (by rw [z];exact hb)) (Nat.lt_irrefl _)
 ·exact absurd (Nat.lt_of_lt_of_le (Heap.lt_size (I.pin p hp).1) (by rw [z];exact hb)) (Nat.lt_irrefl _)
structure Turn (P:Program) (w:World) (K:PySem.W.Frag) (tg:Expr) (J:It) (fp:List Addr) (it:Addr) (tn:Nat->Heap->Prop):Prop where
 mem:it ∈ fp
 obj:∀ i h,tn i h->∀ b ∈ fp,∃ o,h.get? b=some o/\∀ v,o.data ≠ .cell v
 keep:∀ i h h',tn i h->(∀ b ∈ fp,∀ o,h.get? b=some o->h'.get? b=some o)->tn i h'
 item:∀ (X:Cx),X.prog=P->X.w=w->X.K=K->X.calm=true->∀ (i:Nat) (pins:List (Addr × Obj)) (s:Shared) (σ:St) (H:Hp) (E:Value->Shared->Prop),Inv X pins σ H s->(∀ b ∈ fp,fS X pins H b)->tn i s.heap->J.go i H ->
  wpAny (model P w) X.A (pyNext (.ref it)) (fun r s1=>∃ u,r=some u ∧
   wpAny (model P w) X.A (letOwnedTupleGo tg (.ref it) u) (fun _ s2=>∃ x H',Inv X pins σ H' s2/\aJ x u/\J.yld i H x H'/\tn (i+1) s2.heap/\∀ b ∈ fp,H' b=none) E s1) E s
 done:∀ (X:Cx),X.prog=P->X.w=w->X.K=K->X.calm=true->∀ (i:Nat) (pins:List (Addr × Obj)) (s:Shared) (σ:St) (H:Hp) (E:Value->Shared->Prop),Inv X pins σ H s->(∀ b ∈ fp,fS X pins H b)->tn i s.heap->J.stop i H ->
  wpAny (model P w) X.A (pyNext (.ref it)) (fun r s1=>r=none/\Inv X pins σ H s1) E s
 self:∀ (A:Around) (i:Nat) (s:Shared) (Q:Value->Shared->Prop) (E:Value->Shared->Prop),tn i s.heap->Q (.ref it) s->wpAny (model P w) A (pyIter (.ref it)) Q E s
noncomputable abbrev TI:=St->Hp->(It->Hp->Prop)->Prop
noncomputable def PIE (X:Cx) (pins:List (Addr × Obj)) (σ:St) (tg:Expr) (R:It->Hp->Prop) (itv:Value) (s2:Shared):Prop:=
 ∃ (it:Addr) (fp:List Addr) (tn:Nat->Heap->Prop) (J:It) (H':Hp),itv = .ref it/\Inv X pins σ H' s2/\Turn X.prog X.w X.K tg J fp it tn/\tn 0 s2.heap/\(∀ b ∈ fp,fS X pins H' b)/\R J H'
noncomputable def PI (X:Cx) (tg iter:Expr) (wi:TI):Prop:=
 ∀ (pins:List (Addr × Obj)) (s:Shared) (σ:St) (H:Hp) (R:It->Hp->Prop),Inv X pins σ H s->wi σ H R ->
  wpAny (model X.prog X.w) X.A (eval iter X.env) (fun v s1=>wpAny (model X.prog X.w) X.A (pyIter v) (PIE X pins σ tg R) X.xe s1) X.xe s
theorem vF {M:Model} {A:Around} {E:Value->Shared->Prop} {s:Shared} {tg:Expr} {it:Addr} {u:Value} {o:Obj} {n:String} {vs:Array Value} {Q:Unit->Shared->Prop} (ho:s.heap.get? it=some o) (hc:o.cls = .type n) (hd:o.data = .fields vs)
  (hn:["enumerate", "zip", "dict_itemiterator", "dict_reverseitemiterator", "odict_iterator", "itertools.zip_longest", "itertools.pairwise"].contains n=false) (hQ:Q () s):wpAny M A (letOwnedTupleGo tg (.ref it) u) Q E s:=by
 unfold letOwnedTupleGo
 cases tg <;> first
  | exact wpAny_pure hQ
  | (cases u <;> first
    | exact wpAny_pure hQ
    | (refine wpAny_bind (wpAny_load ho ?_)
       rw [hc,hd]
       show wpAny M A (if (["enumerate", "zip", "dict_itemiterator", "dict_reverseitemiterator", "odict_iterator", "itertools.zip_longest", "itertools.pairwise"].contains n && vs[0]? == some (rawInt _))=true then _ else _) Q E s
       rw [if_neg (by intro h;rw [hn,Bool.false_and] at h;cases h)]
       exact wpAny_pure hQ))
noncomputable def Itl (K:PySem.W.Frag) (a:Addr):It:=
 ⟨fun i H=>∃ xs x,SqL K H a xs/\xs[i]?=some x,fun i H x H'=>H'=H/\∀ xs,SqL K H a xs->xs[i]?=some x,fun i H=>∃ xs,SqL K H a xs/\xs.length<=i⟩
noncomputable def Itt (K:PySem.W.Frag) (a:Addr):It:=
 ⟨fun i H=>∃ xs x,SqT K H a xs/\xs[i]?=some x,fun i H x H'=>H'=H/\∀ xs,SqT K H a xs->xs[i]?=some x,fun i H=>∃ xs,SqT K H a xs/\xs.length<=i⟩
noncomputable def Itr (lo:Int) (n:Nat):It:=⟨fun i _=>i < n,fun i H x H'=>H'=H/\x = .int (lo+i),fun i _=>n<=i⟩
theorem tF {P:Program} {w:World} {K:PySem.W.Frag} {tg:Expr} (a it:Addr):Turn P w K tg (Itl K a) [it] it (fun i h=>h.IsListIter it a i) where
 mem:=by simp
 obj:=fun i h st b hb=>by
  have e:b=it:=by simpa using hb
  subst e
  obtain ⟨o,e,c,d⟩:=st
  exact ⟨o,e,fun v z=>by rw [d] at z;cases z⟩
 keep:=fun i h h' st k=>st.at fun o e=>k it (by simp) o e
 item:=by
  intro X hP hw hK hc i pins s σ H E I hf st hg
  subst hP hw hK
  obtain ⟨xs,x,hq,hx⟩:=hg
  obtain ⟨its,rv,p,hz⟩:=I.list hq
  obtain ⟨u,hu,ru⟩:=rv.get hx
  obtain ⟨f0,f1,f2,f3,f4,f5⟩:=hf it (by simp)
  refine wpAny_pyNext_list_item st p.isList (x:=u) (by simpa using hu) fun h' st' sb=>?_
  have I1:Inv X pins σ H { s with heap:=h' }:=I.turned (t':=s.toks) (fun b o hb e=>(sb.2 b hb).trans e) f0 f1 f3 f4 f5
  obtain ⟨o,e,c,d⟩:=id st'
  exact ⟨u,rfl,vF (s:={ s with heap:=h' }) e c d (by decide) ⟨x,H,I1,ru,⟨rfl,fun ys hy=>by rw [I.list_inj hy hq];exact hx⟩,st',fun b hb=>(hf b hb).1⟩⟩
 done:=by
  intro X hP hw hK hc i pins s σ H E I hf st hg
  subst hP hw hK
  obtain ⟨xs,hq,hx⟩:=hg
  obtain ⟨its,rv,p,hz⟩:=I.list hq
  obtain ⟨f0,f1,f2,f3,f4,f5⟩:=hf it (by simp)
  have hl:=rv.length
  exact wpAny_pyNext_list_end (I.ok.hd hc) st p.isList (by simp;omega) fun h' eb=>⟨rfl,I.turned (t':=s.toks) (fun b o hb e=>eb b o hb e) f0 f1 f3 f4 f5⟩
 self:=fun _ _ _ _ _ st h=>wpAny_pyIter_listiter st h
theorem pR {P:Program} {w:World} {K:PySem.W.Frag} {tg:Expr} (a it:Addr):Turn P w K tg (Itt K a) [it] it (fun i h=>h.IsTupleIter it a i) where
 mem:=by simp
 obj:=fun i h st b hb=>by
  have e:b=it:=by simpa using hb
  subst e
  obtain ⟨o,e,c,d⟩:=st
  exact ⟨o,e,fun v z=>by rw [d] at z;cases z⟩
 keep:=fun i h h' st k=>st.at fun o e=>k it (by simp) o e
 item:=by
  intro X hP hw hK hc i pins s σ H E I hf st hg
  subst hP hw hK
  obtain ⟨xs,x,hq,hx⟩:=hg
  obtain ⟨its,rv,p,hz⟩:=I.tuple hq
  obtain ⟨u,hu,ru⟩:=rv.get hx
  obtain ⟨f0,f1,f2,f3,f4,f5⟩:=hf it (by simp)
  refine wpAny_pyNext_tuple_item st (show s.heap.IsTuple a its.toArray from p) (x:=u) (by simpa using hu) fun h' st' sb=>?_
  have I1:Inv X pins σ H { s with heap:=h' }:=I.turned (t':=s.toks) (fun b o hb e=>(sb.2 b hb).trans e) f0 f1 f3 f4 f5
  obtain ⟨o,e,c,d⟩:=id st'
  exact ⟨u,rfl,vF (s:={ s with heap:=h' }) e c d (by decide) ⟨x,H,I1,ru,⟨rfl,fun ys hy=>by rw [I.tuple_inj hy hq];exact hx⟩,st',fun b hb=>(hf b hb).1⟩⟩
 done:=by
  intro X hP hw hK hc i pins s σ H E I hf st hg
  subst hP hw hK
  obtain ⟨xs,hq,hx⟩:=hg
  obtain ⟨its,rv,p,hz⟩:=I.tuple hq
  obtain ⟨f0,f1,f2,f3,f4,f5⟩:=hf it (by simp)
  have hl:=rv.length
  exact wpAny_pyNext_tuple_end (I.ok.hd hc) st (show s.heap.IsTuple a its.toArray from p) (by simp;omega) fun h' eb=>⟨rfl,I.turned (t':=s.toks) (fun b o hb e=>eb b o hb e) f0 f1 f3 f4 f5⟩
 self:=fun _ _ _ _ _ st h=>wpAny_pyIter_tupleiter st h
theorem pS {P:Program} {w:World} {K:PySem.W.Frag} {tg:Expr} (it:Addr) (lo:Int) (n:Nat):Turn P w K tg (Itr lo n) [it] it (fun i h=>IsRangeIter h it (lo+(i:Nat) * 1) ((n:Int) - (i:Nat)) 1) where
 mem:=by simp
 obj:=fun i h st b hb=>by
  have e:b=it:=by simpa using hb
  subst e
  exact ⟨_,st,fun v z=>by
   have z':Data.fields _=Data.cell v:=z
   cases z'⟩
 keep:=fun i h h' st k=>k it (by simp) _ st
 item:=by
  intro X hP hw hK hc i pins s σ H E I hf st hg
  subst hP hw hK
  obtain ⟨f0,f1,f2,f3,f4,f5⟩:=hf it (by simp)
  have W:=Walks.range (prog:=X.prog) (w:=X.w) (I.ok.hd hc) it lo 1 n
  refine W.item i s _ _ hg st fun v h' tk hv st' kk=>?_
  obtain ⟨t,rfl⟩:=hv
  have I1:Inv X pins σ H { s with heap:=h',toks:=tk }:=I.turned (fun b o hb e=>kk b o (by simpa using hb) e) f0 f1 f3 f4 f5
  refine ⟨_,rfl,vF (s:={ s with heap:=h',toks:=tk }) (n := "range_iterator") st' rfl rfl (by decide) ⟨.int (lo+i),H,I1,⟨t,?_⟩,⟨rfl,rfl⟩,st',fun b hb=>(hf b hb).1⟩⟩
  rw [Int.mul_one]
 done:=by
  intro X hP hw hK hc i pins s σ H E I hf st hg
  subst hP hw hK
  obtain ⟨f0,f1,f2,f3,f4,f5⟩:=hf it (by simp)
  exact wpAny_pyNext_range_end (I.ok.hd hc) st (by have:n<=i:=hg;omega) fun h' eb=>⟨rfl,I.turned (t':=s.toks) (fun b o hb e=>eb b o hb e) f0 f1 f3 f4 f5⟩
 self:=fun _ _ _ _ _ st h=>wpAny_pyIter_rangeiter st h
end L2
namespace L2
open PySem PySem.Spec PyProof.Rows
section
variable {X:Cx} {tg:Expr}
noncomputable def vG (K:PySem.W.Frag) (tl:TE):TI:=fun σ H R=>tl σ H fun x H1=>∃ a,x = .ref a/\(∃ xs,SqL K H1 a xs)/\R (Itl K a) H1
noncomputable def Ir (K:PySem.W.Frag) (tl:TE):TI:=fun σ H R=>tl σ H fun x H1=>∃ a,x = .ref a/\(∃ xs,SqT K H1 a xs)/\R (Itt K a) H1
theorem rB {l:Expr} {tl:TE} (hl:PE X l tl):PI X tg l (vG X.K tl):=by
 intro pins s σ H R I h
 refine thn (hl pins s σ H _ I h) fun v s1 ⟨x,H1,I1,r1,q1⟩=>?_
 obtain ⟨a,e,⟨xs,hq⟩,q⟩:=q1
 subst e
 cases r1
 obtain ⟨its,rv,p,hz⟩:=I1.list hq
 refine wpAny_pyIter_list p.isList ?_
 refine ⟨s1.heap.objs.size,[s1.heap.objs.size],_,_,H1,rfl,I1.kept (t':=s1.toks) fun b o e=>Heap.get?_push_of_some _ e,tF a _,⟨_,Heap.get?_push_size _ rfl,rfl,rfl⟩,fun b hb=>?_,q⟩
 have e:b=s1.heap.objs.size:=by simpa using hb
 subst e
 exact I1.fpOk (Nat.le_refl _) (I1.hok.fresh (Nat.le_refl _))
theorem DL {l:Expr} {tl:TE} (hl:PE X l tl):PI X tg l (Ir X.K tl):=by
 intro pins s σ H R I h
 refine thn (hl pins s σ H _ I h) fun v s1 ⟨x,H1,I1,r1,q1⟩=>?_
 obtain ⟨a,e,⟨xs,hq⟩,q⟩:=q1
 subst e
 cases r1
 obtain ⟨its,rv,p,hz⟩:=I1.tuple hq
 refine wpAny_pyIter_tuple (show s1.heap.IsTuple a its.toArray from p) ?_
 refine ⟨s1.heap.objs.size,[s1.heap.objs.size],_,_,H1,rfl,I1.kept (t':=s1.toks) fun b o e=>Heap.get?_push_of_some _ e,pR a _,⟨_,Heap.get?_push_size _ rfl,rfl,rfl⟩,fun b hb=>?_,q⟩
 have e:b=s1.heap.objs.size:=by simpa using hb
 subst e
 exact I1.fpOk (Nat.le_refl _) (I1.hok.fresh (Nat.le_refl _))
theorem nY {pins:List (Addr × Obj)} {σ:St} {H:Hp} {s:Shared} {R:It->Hp->Prop} {E:Value->Shared->Prop} {lo hi:Int} {t u v:Tok} {tk:Nat} (I:Inv X pins σ H s) (h1:-(2 ^ 62)<=lo) (h2:lo < 2 ^ 62) (h3:-(2 ^ 62)<=hi) (h4:hi < 2 ^ 62)
  (q:R (Itr lo (hi - lo).toNat) H):wpAny (model X.prog X.w) X.A (pyIter (.ref s.heap.objs.size)) (PIE X pins σ tg R) E { s with heap:=s.heap.push { cls:=.type "range", data:=.fields #[.int lo t,.int hi u,.int 1 v] },toks:=tk }:=by
 refine wpAny_pyIter_range (IsRange.new ..) (small_one h1 h2 h3 h4) ?_
 have I1:Inv X pins σ H { s with heap:=s.heap.push { cls:=.type "range", data:=.fields #[.int lo t,.int hi u,.int 1 v] },toks:=tk }:=I.kept fun b o e=>Heap.get?_push_of_some _ e
 refine ⟨(s.heap.push { cls:=.type "range", data:=.fields #[.int lo t,.int hi u,.int 1 v] }).objs.size,[(s.heap.push { cls:=.type "range", data:=.fields #[.int lo t,.int hi u,.int 1 v] }).objs.size],_,_,H,rfl,
  I1.kept (t':=tk) fun b o e=>Heap.get?_push_of_some _ e,pS _ lo (hi - lo).toNat,?_,fun b hb=>?_,q⟩
 ·have e1:lo+((0:Nat):Int) * 1=lo:=by simp
  have e2:(((hi - lo).toNat:Nat):Int) - ((0:Nat):Int)=Builtin.Range.rangeSize lo hi 1:=by rw [rangeSize_one];split <;> omega
  show IsRangeIter _ _ (lo+((0:Nat):Int) * 1) ((((hi - lo).toNat:Nat):Int) - ((0:Nat):Int)) 1
  rw [e1,e2]
  exact Heap.get?_push_size _ rfl
 ·have e:b=(s.heap.push { cls:=.type "range", data:=.fields #[.int lo t,.int hi u,.int 1 v] }).objs.size:=by simpa using hb
  subst e
  exact I1.fpOk (Nat.le_refl _) (I1.hok.fresh (Nat.le_refl _))
noncomputable def CO (ta:TA):TI:=fun σ H R=>ta σ H fun vs H1=>∃ j:Int,vs=[.int j]/\-(2 ^ 62)<=j/\j < 2 ^ 62/\R (Itr 0 j.toNat) H1
noncomputable def CP (ta:TA):TI:=fun σ H R=>ta σ H fun vs H1=>∃ i j:Int,vs=[.int i,.int j]/\(-(2 ^ 62)<=i/\i < 2 ^ 62/\-(2 ^ 62)<=j/\j < 2 ^ 62)/\R (Itr i (j - i).toNat) H1
theorem tG {a:Expr} {ta:TA} {p pos:Pos} (hg:Gl X "range") (hm:X.mg "range" = none) (ha:PA X [a] ta) (hs:starEach [a] X.env=[(false,eval a X.env)]:=by rfl):PI X tg (.Call (.Name "range" p) [a] [] pos) (CO ta):=by
 intro pins s σ H R I h
 refine Call_ (ga I hg hm boot_range (PyProof.Rows.callWith_type1 (thn (ha pos pins s σ H _ I h) fun us s1 ⟨vs,H1,I1,r1,q1⟩=>?_) hs rfl))
 obtain ⟨j,e,q1,q2,q⟩:=q1
 subst e
 cases r1 with
 | cons r rr=>
  cases rr
  obtain ⟨t,rfl⟩:=r
  exact call_range_1 (nY I1 (by omega) (by omega) q1 q2 (by simpa using q))
theorem tH {a b:Expr} {ta:TA} {p pos:Pos} (hg:Gl X "range") (hm:X.mg "range" = none) (ha:PA X [a,b] ta) (hs:starEach [a,b] X.env=[(false,eval a X.env),(false,eval b X.env)]:=by rfl) (hs2:starEach [b] X.env=[(false,eval b X.env)]:=by rfl) :
  PI X tg (.Call (.Name "range" p) [a,b] [] pos) (CP ta):=by
 intro pins s σ H R I h
 refine Call_ (ga I hg hm boot_range (PyProof.Rows.callWith_type1 (thn (ha pos pins s σ H _ I h) fun us s1 ⟨vs,H1,I1,r1,q1⟩=>?_) (by rw [hs,hs2]) (by rw [hs2];rfl)))
 obtain ⟨i,j,e,⟨q1,q2,q3,q4⟩,q⟩:=q1
 subst e
 cases r1 with
 | cons r rr=>
  cases rr with
  | cons r' rr=>
   cases rr
   obtain ⟨t,rfl⟩:=r
   obtain ⟨t',rfl⟩:=r'
   exact call_range_2 (nY I1 q1 q2 q3 q4 q)
noncomputable def Iu (wi:TI) (g:TG) (tb:TS):TS:=fun D σ H=>wi σ H fun J H1=>∃ W:Nat->Nat->St->Hp->Prop,(∃ m,W 0 m σ H1)/\∀ i m σ H,W i m σ H ->
 (J.stop i H/\D.nx σ H)\/(J.go i H/\∃ N:St->Hp->Prop,(∀ σ' H',N σ' H'->∃ m',m' < m/\W (i+1) m' σ' H')/\∀ x H',J.yld i H x H'->g x σ H' fun σ2 H2=>tb { D with nx:=N,ct:=N,bk:=D.nx } σ2 H2)
noncomputable def jK (fp:List Addr) (h:Heap):List (Addr × Obj):=fp.filterMap fun b=>(h.get? b).map fun o=>(b,o)
theorem dH {fp:List Addr} {h:Heap} {b:Addr} {o:Obj} (hb:b ∈ fp) (e:h.get? b=some o):(b,o) ∈ jK fp h:=List.mem_filterMap.mpr ⟨b,hb,by rw [e];rfl⟩
theorem tI {fp:List Addr} {h:Heap} {p:Addr × Obj} (hp:p ∈ jK fp h):p.1 ∈ fp/\h.get? p.1=some p.2:=by
 obtain ⟨b,hb,e⟩:=List.mem_filterMap.mp hp
 cases q:h.get? b with
 | none=>rw [q] at e;cases e
 | some o=>
  rw [q] at e
  have e':(b,o)=p:=Option.some.inj e
  subst e'
  exact ⟨hb,q⟩
theorem Inv.pinned {pins:List (Addr × Obj)} {σ:St} {H:Hp} {s:Shared} {fp:List Addr} (I:Inv X pins σ H s) (hf:∀ b ∈ fp,fS X pins H b) (ho:∀ b ∈ fp,∃ o,s.heap.get? b=some o/\∀ v,o.data ≠ .cell v):Inv X (pins++jK fp s.heap) σ H s:=
 I.pins_of fun p hp=>(List.mem_append.mp hp).elim (fun z=>I.pin p (List.mem_append_right _ z)) fun z=>by
  obtain ⟨hb,e⟩:=tI z
  obtain ⟨f0,f1,f2,_⟩:=hf p.1 hb
  obtain ⟨o,e',d⟩:=ho p.1 hb
  rw [e] at e';cases e'
  exact ⟨e,f0,f1,f2,d⟩
theorem Inv.unpinned {pins pl:List (Addr × Obj)} {σ:St} {H:Hp} {s:Shared} (I:Inv X (pins++pl) σ H s):Inv X pins σ H s:=I.pins_of fun p hp=>I.pin p (List.mem_append_right _ (List.mem_append_left _ hp))
theorem DM {iter:Expr} {body:List Stmt} {wi:TI} {g:TG} {tb:TS} {pos:Pos} (hp:PassesOwn (model X.prog X.w) X.A X.env X.xe) (hc:X.calm=true) (hi:PI X tg iter wi) (hg:PG X tg g) (hb:PSs X body tb)
  (hs:∀ x,foldedSetIterable iter X.env x=pure x:=by intro _;rfl):PS X (.For tg iter body [] pos) (Iu wi g tb):=by
 intro pins s σ H D I h
 refine wpAny_For (thn (hi pins s σ H _ I h) fun v s1 h1=>thn h1 fun itv s2 h2=>?_) hs
 obtain ⟨it,fp,tn,J,H2,e,I2,T,st2,f2,W,⟨m0,w0⟩,turn⟩:=h2
 subst e
 have stat:∀ {H':Hp},(∀ b ∈ fp,H' b=none)->∀ b ∈ fp,fS X pins H' b:=fun hn b hb=>⟨hn b hb,(f2 b hb).2⟩
 refine codeAny_forLoop_any (fun n s'=>∃ i σ' H',Inv X pins σ' H' s'/\tn i s'.heap/\(∀ b ∈ fp,H' b=none)/\W i n σ' H') ?_ m0 ⟨0,σ,H2,I2,st2,fun b hb=>(f2 b hb).1,w0⟩
 rintro n s3 ⟨i,σ3,H3,I3,st3,fr3,w3⟩
 rcases turn i n σ3 H3 w3 with ⟨stop,qn⟩ | ⟨go,N,hN,step⟩
 ·refine wpAny_passesOwn hp (thn (T.done X rfl rfl rfl hc i pins s3 σ3 H3 X.xe I3 (stat fr3) st3 stop) fun r s4 ⟨hr,I4⟩=>?_)
  subst hr
  exact wpAny_execs_nil ⟨σ3,H3,I4,qn⟩
 ·refine wpAny_passesOwn hp (thn (T.item X rfl rfl rfl hc i pins s3 σ3 H3 X.xe I3 (stat fr3) st3 go) fun r s4 ⟨u,hr,h4⟩=>?_)
  subst hr
  refine wpAny_passesOwn hp (thn h4 fun _ s5 ⟨x,H5,I5,r5,y5,st5,fr5⟩=>?_)
  have I5':=I5.pinned (stat fr5) (T.obj _ _ st5)
  refine wpAny_passesOwn hp (thn (hg _ s5 σ3 H5 x u _ I5' r5 (step x H5 y5)) fun _ s6 ⟨σ6,H6,I6,q6⟩=>?_)
  refine wpAny_passesOwn hp (thn (hb _ s6 σ6 H6 _ I6 q6) fun f s7 q7=>?_)
  have again:∀ {σ7:St} {H7:Hp},Inv X (pins++jK fp s5.heap) σ7 H7 s7->N σ7 H7->∃ m,m < n/\∃ i σ' H',Inv X pins σ' H' s7/\tn i s7.heap/\(∀ b ∈ fp,H' b=none)/\W i m σ' H':=fun {σ7 H7} I7 n7=>by
   obtain ⟨m',hm,w7⟩:=hN σ7 H7 n7
   refine ⟨m',hm,i+1,σ7,H7,I7.unpinned,T.keep _ _ _ st5 fun b hb o e=>(I7.pin (b,o) (List.mem_append_right _ (List.mem_append_right _ (dH hb e)))).1,fun b hb=>?_,w7⟩
   obtain ⟨o,e,d⟩:=T.obj _ _ st5 b hb
   exact (I7.pin (b,o) (List.mem_append_right _ (List.mem_append_right _ (dH hb e)))).2.1
  cases f with
  | next=>obtain ⟨σ7,H7,I7,n7⟩:=q7;exact again I7 n7
  | cont=>obtain ⟨σ7,H7,I7,n7⟩:=q7;exact again I7 n7
  | brk=>obtain ⟨σ7,H7,I7,q7⟩:=q7;exact ⟨σ7,H7,I7.unpinned,q7⟩
  | ret v=>obtain ⟨x7,σ7,H7,I7,r7,q7⟩:=q7;exact ⟨x7,σ7,H7,I7.unpinned,r7,q7⟩
end
end L2
namespace L2
open PySem PySem.Spec PyProof.Rows
noncomputable abbrev R2:=V->V->Hp->VK->Prop
noncomputable def OpR (X:Cx) (f:Value->Value->Sem Value) (r:R2):Prop:=
 ∀ (pins:List (Addr × Obj)) (s:Shared) (σ:St) (H:Hp) (x y:V) (v u:Value) (Q:VK),Inv X pins σ H s->aJ x v->aJ y u->r x y H Q ->
  wpAny (model X.prog X.w) X.A (f v u) (EP X pins σ Q) X.xe s
noncomputable def UnR (X:Cx) (f:Value->Sem Value) (r:V->Hp->VK->Prop):Prop:=
 ∀ (pins:List (Addr × Obj)) (s:Shared) (σ:St) (H:Hp) (x:V) (v:Value) (Q:VK),Inv X pins σ H s->aJ x v->r x H Q ->
  wpAny (model X.prog X.w) X.A (f v) (EP X pins σ Q) X.xe s
noncomputable def aN (X:Cx) (f:Value) (r:List V->Hp->VK->Prop):Prop:=
 ∀ (pins:List (Addr × Obj)) (s:Shared) (σ:St) (H:Hp) (xs:List V) (us:List Value) (Q:VK),Inv X pins σ H s->aK xs us->r xs H Q ->
  wpAny (model X.prog X.w) X.A (call f us) (EP X pins σ Q) X.xe s
noncomputable def KM (X:Cx) (r:V->Hp->(Bool->Hp->Prop)->Prop):Prop:=
 ∀ (pins:List (Addr × Obj)) (s:Shared) (σ:St) (H:Hp) (x:V) (v:Value) (Q:Bool->Hp->Prop),Inv X pins σ H s->aJ x v->r x H Q ->
  wpAny (model X.prog X.w) X.A (truthy v) (TP X pins σ Q) X.xe s
noncomputable def tOp (r:R2) (ta tb:TE):TE:=fun σ H Q=>ta σ H fun x H1=>tb σ H1 fun y H2=>r x y H2 Q
noncomputable def tUn (r:V->Hp->VK->Prop) (ta:TE):TE:=fun σ H Q=>ta σ H fun x H1=>r x H1 Q
noncomputable def rI (C:Int->Int->Prop) (g:Int->Int->V):R2:=fun x y H Q=>∃ i j,x = .int i/\y = .int j/\C i j/\Q (g i j) H
noncomputable def rI0 (g:Int->Int->V):R2:=fun x y H Q=>∃ i j,x = .int i/\y = .int j/\Q (g i j) H
noncomputable def rU (g:Int->V):V->Hp->VK->Prop:=fun x H Q=>∃ i,x = .int i/\Q (g i) H
section
variable {X:Cx} {a b c:Expr} {ta tb tc:TE} {pos:Pos}
theorem DN (ha:PE X a ta) (hb:PE X b tb) {pins:List (Addr × Obj)} {s:Shared} {σ:St} {H:Hp} {R:V->V->Hp->Prop} (I:Inv X pins σ H s)
  (h:ta σ H fun x H1=>tb σ H1 fun y H2=>R x y H2) {Q:Value->Shared->Prop} {f:Value->Value->Sem Value}
  (hf:∀ v u s2 x y H2,Inv X pins σ H2 s2->aJ x v->aJ y u->R x y H2->wpAny (model X.prog X.w) X.A (f v u) Q X.xe s2) :
  wpAny (model X.prog X.w) X.A (eval a X.env) (fun v s₁=>wpAny (model X.prog X.w) X.A (eval b X.env) (fun u s₂=>wpAny (model X.prog X.w) X.A (f v u) Q X.xe s₂) X.xe s₁) X.xe s:=by
 refine thn (ha pins s σ H _ I h) fun v s1 ⟨x,H1,I1,r1,q1⟩=>?_
 refine thn (hb pins s1 σ H1 _ I1 q1) fun u s2 ⟨y,H2,I2,r2,q2⟩=>?_
 exact hf v u s2 x y H2 I2 r1 r2 q2
theorem Iv {op:Operator} {r:R2} (ho:OpR X (binaryOp op) r) (ha:PE X a ta) (hb:PE X b tb):PE X (.BinOp a op b pos) (tOp r ta tb):=by
 intro pins s σ H Q I h
 exact wpAny_BinOp (DN ha hb I h fun v u s2 x y H2 I2 rx ry q=>ho pins s2 σ H2 x y v u Q I2 rx ry q)
theorem Iw {op:UnaryOp} {r:V->Hp->VK->Prop} (ho:UnR X (unaryOp op) r) (ha:PE X a ta):PE X (.UnaryOp op a pos) (tUn r ta):=by
 intro pins s σ H Q I h
 exact UnaryOp_ (thn (ha pins s σ H _ I h) fun v s1 ⟨x,H1,I1,r1,q1⟩=>ho pins s1 σ H1 x v Q I1 r1 q1)
theorem opI {f:Value->Value->Sem Value} {C:Int->Int->Prop} {g:Int->Int->Int}
  (rule:∀ (i j:Int) (t u:Tok) (s:Shared) (Q:Value->Shared->Prop) (E:Value->Shared->Prop),C i j->Q (.int (g i j) s.toks) { s with toks:=s.toks+1 }->wpAny (model X.prog X.w) X.A (f (.int i t) (.int j u)) Q E s) :
  OpR X f (rI C fun i j=>.int (g i j)):=by
 intro pins s σ H x y v u Q I rx ry h
 obtain ⟨i,j,rfl,rfl,hc,q⟩:=h
 obtain ⟨t,rfl⟩:=rx
 obtain ⟨t',rfl⟩:=ry
 exact rule i j t t' s _ _ hc ⟨.int (g i j),H,I.tok _,⟨_,rfl⟩,q⟩
theorem Ix {f:Value->Value->Sem Value} {g:Int->Int->Int}
  (rule:∀ (i j:Int) (t u:Tok) (s:Shared) (Q:Value->Shared->Prop) (E:Value->Shared->Prop),Q (.int (g i j) s.toks) { s with toks:=s.toks+1 }->wpAny (model X.prog X.w) X.A (f (.int i t) (.int j u)) Q E s) :
  OpR X f (rI0 fun i j=>.int (g i j)):=by
 intro pins s σ H x y v u Q I rx ry h
 obtain ⟨i,j,rfl,rfl,q⟩:=h
 obtain ⟨t,rfl⟩:=rx
 obtain ⟨t',rfl⟩:=ry
 exact rule i j t t' s _ _ ⟨.int (g i j),H,I.tok _,⟨_,rfl⟩,q⟩
theorem zf {f:Value->Value->Sem Value} {g:Int->Int->Bool}
  (rule:∀ (i j:Int) (t u:Tok) (s:Shared) (Q:Value->Shared->Prop) (E:Value->Shared->Prop),Q (.bool (g i j)) s->wpAny (model X.prog X.w) X.A (f (.int i t) (.int j u)) Q E s) :
  OpR X f (rI0 fun i j=>.bl (g i j)):=by
 intro pins s σ H x y v u Q I rx ry h
 obtain ⟨i,j,rfl,rfl,q⟩:=h
 obtain ⟨t,rfl⟩:=rx
 obtain ⟨t',rfl⟩:=ry
 exact rule i j t t' s _ _ ⟨.bl (g i j),H,I,rfl,q⟩
noncomputable def KN (i j:Int):Prop:=0 < j/\j < 1073741824
noncomputable def KO (i j:Int):Prop:=0<=j/\j<=1000000/\i.natAbs < 2 ^ 64
noncomputable def Iy (i j:Int):Prop:=(-(2 ^ 64) < i/\i < 2 ^ 64)\/(-(2 ^ 64) < j/\j < 2 ^ 64)
theorem Iy.ok {i j:Int} (h:Iy i j):IntMulOk i j:=by
 rcases h with ⟨h1,h2⟩ | ⟨h1,h2⟩
 ·exact .of_left (intBits_le_64 h1 h2)
 ·exact .of_right (intBits_le_64 h1 h2)
theorem DP:OpR X (binaryOp .Add) (rI0 fun i j=>.int (i+j)):=Ix fun _ _ _ _ _ _ _ q=>add_int q
theorem DQ:OpR X (binaryOp .Sub) (rI0 fun i j=>.int (i - j)):=Ix fun _ _ _ _ _ _ _ q=>sub_int q
theorem DR:OpR X (binaryOp .Mult) (rI Iy fun i j=>.int (i * j)):=opI fun _ _ _ _ _ _ _ hc q=>mul_int q hc.ok
theorem zg:OpR X (binaryOp .FloorDiv) (rI KN fun i j=>.int (i / j)):=opI fun i j _ _ _ _ _ hc q=>by
 have h1:(0:Int) < j:=hc.1
 have h2:j < 1073741824:=hc.2
 exact floordiv_int (by omega) (by rw [Int.fdiv_eq_ediv_of_nonneg i (by omega)];exact q) (.inl (PyProof.noPylong_small (by omega)))
theorem DS:OpR X (binaryOp .Mod) (rI (fun _ j=>0 < j) fun i j=>.int (i % j)):=opI fun i j _ _ _ _ _ hc q=>by
 have h1:(0:Int) < j:=hc
 exact mod_int' (by omega) (by rw [Int.fmod_eq_emod_of_nonneg i (by omega)];exact q)
theorem DT:OpR X (binaryOp .Pow) (rI KO fun i j=>.int (i ^ j.toNat)):=opI fun _ _ _ _ _ _ _ hc q=>pow_int_small hc.1 hc.2.1 hc.2.2 q
theorem unI {f:Value->Sem Value} {g:Int->Int}
  (rule:∀ (i:Int) (t:Tok) (s:Shared) (Q:Value->Shared->Prop) (E:Value->Shared->Prop),Q (.int (g i) s.toks) { s with toks:=s.toks+1 }->wpAny (model X.prog X.w) X.A (f (.int i t)) Q E s) :
  UnR X f (rU fun i=>.int (g i)):=by
 intro pins s σ H x v Q I rx h
 obtain ⟨i,rfl,q⟩:=h
 obtain ⟨t,rfl⟩:=rx
 exact rule i t s _ _ ⟨.int (g i),H,I.tok _,⟨_,rfl⟩,q⟩
theorem DU:UnR X (unaryOp .USub) (rU fun i=>.int (-i)):=unI fun _ _ _ _ _ q=>neg_int q
end
section
variable {X:Cx} {a b c:Expr} {ta tb tc:TE} {pos:Pos}
theorem vH {pins:List (Addr × Obj)} {σ:St} {H:Hp} {s:Shared} {Q:VK} {k k':Bool} (I:Inv X pins σ H s) (q:Q (.bl k) H) (e:k=k'):EP X pins σ Q (.bool k') s:=by
 subst e
 exact ⟨.bl k,H,I,rfl,q⟩
theorem Iz:OpR X (compareOp .Lt) (rI0 fun i j=>.bl (decide (i < j))):=zf fun _ _ _ _ _ _ _ q=>lt_int q
theorem IA:OpR X (compareOp .LtE) (rI0 fun i j=>.bl (decide (i<=j))):=zf fun _ _ _ _ _ _ _ q=>le_int q
theorem IB:OpR X (compareOp .Gt) (rI0 fun i j=>.bl (decide (j < i))):=zf fun _ _ _ _ _ _ _ q=>gt_int q
theorem IC:OpR X (compareOp .GtE) (rI0 fun i j=>.bl (decide (j<=i))):=zf fun _ _ _ _ _ _ _ q=>ge_int q
theorem DV:OpR X (compareOp .Is) (fun x y H Q=>y = .non/\Q (.bl (decide (x = .non))) H):=by
 intro pins s σ H x y v u Q I rx ry h
 obtain ⟨rfl,q⟩:=h
 cases ry
 refine is_none_gen (vH I q ?_)
 cases x <;> first
  | (cases rx;rfl)
  | (obtain ⟨t,rfl⟩:=rx;rfl)
theorem zh:OpR X (compareOp .IsNot) (fun x y H Q=>y = .non/\Q (.bl (!decide (x = .non))) H):=by
 intro pins s σ H x y v u Q I rx ry h
 obtain ⟨rfl,q⟩:=h
 cases ry
 refine isnot_none_gen (vH I q ?_)
 cases x <;> first
  | (cases rx;rfl)
  | (obtain ⟨t,rfl⟩:=rx;rfl)
theorem zi {op:CmpOp} {r:R2} (ho:OpR X (compareOp op) r) (ha:PE X a ta) (hb:PE X b tb) (hm:behindInMarks op b=false):PE X (.Compare a [op] [b] pos) (tOp r ta tb):=by
 intro pins s σ H Q I h
 exact wpAny_Compare1 (DN ha hb I h fun v u s2 x y H2 I2 rx ry q=>ho pins s2 σ H2 x y v u Q I2 rx ry q) hm
noncomputable def CQ (t:TE):TT:=fun σ H Q=>t σ H fun x H'=>∃ k,x = .bl k/\Q k H'
theorem zj {op:CmpOp} {r:R2} (ho:OpR X (compareOp op) r) (ha:PE X a ta) (hb:PE X b tb) (hm:behindInMarks op b=false):PT X (.Compare a [op] [b] pos) (CQ (tOp r ta tb)):=by
 intro pins s σ H Q I h
 refine wpAny_isTrue_Compare1 (thn (ha pins s σ H _ I h) fun v s1 ⟨x,H1,I1,r1,q1⟩=>thn (hb pins s1 σ H1 _ I1 q1) fun u s2 ⟨y,H2,I2,r2,q2⟩=>
  thn (ho pins s2 σ H2 x y v u _ I2 r1 r2 q2) fun c s3 ⟨z,H3,I3,r3,k,e,q3⟩=>?_) hm
 subst e
 cases r3
 exact wpAny_truthy_bool ⟨H3,I3,q3⟩
noncomputable def pT (r r':R2) (ta tb tc:TE):TE:=fun σ H Q=>ta σ H fun x H1=>tb σ H1 fun y H2=>r x y H2 fun z H3=>∃ k,z = .bl k ∧
 (if k=true then tc σ H3 fun w' H4=>r' y w' H4 Q else Q (.bl false) H3)
theorem vI {op op':CmpOp} {r r':R2} (ho:OpR X (compareOp op) r) (ho':OpR X (compareOp op') r') (ha:PE X a ta) (hb:PE X b tb) (hc:PE X c tc)
  (hm:lastMarks [op,op'] [b,c]=false:=by with_unfolding_all rfl):PE X (.Compare a [op,op'] [b,c] pos) (pT r r' ta tb tc):=by
 intro pins s σ H Q I h
 refine Compare_chain (thn (ha pins s σ H _ I h) fun v s1 ⟨x,H1,I1,r1,q1⟩=>chain_link (thn (hb pins s1 σ H1 _ I1 q1) fun u s2 ⟨y,H2,I2,r2,q2⟩=>
  thn (ho pins s2 σ H2 x y v u _ I2 r1 r2 q2) fun d s3 ⟨z,H3,I3,r3,k,e,q3⟩=>?_)) hm
 subst e
 cases r3
 refine wpAny_truthy_bool ?_
 cases k with
 | false=>exact ite_ff ⟨.bl false,H3,I3,rfl,q3⟩
 | true=>exact ite_tt (chain_last (thn (hc pins s3 σ H3 _ I3 q3) fun w' s4 ⟨z',H4,I4,r4,q4⟩=>ho' pins s4 σ H4 y z' u w' Q I4 r2 r4 q4))
theorem vJ {op op':CmpOp} {r r':R2} (ho:OpR X (compareOp op) r) (ho':OpR X (compareOp op') r') (ha:PE X a ta) (hb:PE X b tb) (hc:PE X c tc)
  (hm:lastMarks [op,op'] [b,c]=false:=by with_unfolding_all rfl):PT X (.Compare a [op,op'] [b,c] pos) (CQ (pT r r' ta tb tc)):=by
 intro pins s σ H Q I h
 refine isTrue_chain (thn (ha pins s σ H _ I h) fun v s1 ⟨x,H1,I1,r1,q1⟩=>test_link (thn (hb pins s1 σ H1 _ I1 q1) fun u s2 ⟨y,H2,I2,r2,q2⟩=>
  thn (ho pins s2 σ H2 x y v u _ I2 r1 r2 q2) fun d s3 ⟨z,H3,I3,r3,k,e,q3⟩=>?_)) hm
 subst e
 cases r3
 refine wpAny_truthy_bool ?_
 cases k with
 | false=>
  obtain ⟨k',e',q'⟩:=q3
  cases e'
  exact ite_ff ⟨H3,I3,q'⟩
 | true=>
  refine ite_tt (test_last (thn (hc pins s3 σ H3 _ I3 q3) fun w' s4 ⟨z',H4,I4,r4,q4⟩=>thn (ho' pins s4 σ H4 y z' u w' _ I4 r2 r4 q4) fun d' s5 ⟨z2,H5,I5,r5,k2,e2,q5⟩=>?_))
  subst e2
  cases r5
  exact wpAny_truthy_bool ⟨H5,I5,q5⟩
noncomputable def zk (K:PySem.W.Frag) (x:V) (H:Hp) (k:Bool):Prop:=
 match x with
 | .non=>k=false
 | .bl b=>k=b
 | .int i=>k=(i != 0)
 | .str y=>y.length<=sizeLine/\k=((y.length:Int) != 0)
 | .byt y=>y.size<=sizeLine/\k=((y.size:Int) != 0)
 | .ref p=>(∃ xs,SqL K H p xs/\k = !xs.isEmpty)\/(∃ xs,SqT K H p xs/\k = !xs.isEmpty)\/∃ kvs,H p=some (.dK kvs)/\k = !kvs.isEmpty
 | _=>False
theorem pU {κ:Type} {kvs:List (κ × V)} {vs:List (κ × Value)} (r:KV kvs vs):(!vs.isEmpty) = !kvs.isEmpty:=by
 cases r <;> rfl
theorem jL {xs:List V} {its:List Value} (r:aK xs its):(!its.toArray.isEmpty) = !xs.isEmpty:=by
 cases r <;> simp
theorem iq:(sizeLine:Nat) < 2 ^ 63:=by rw [sizeLine_eq];decide
theorem DW:KM X (fun x H Q=>∃ k,zk X.K x H k/\Q k H):=by
 intro pins s σ H x v Q I rx h
 obtain ⟨k,e,q⟩:=h
 have hl:=iq
 have hs:sizeLine=16777216:=sizeLine_eq
 cases x with
 | non=>
  cases rx
  have e':k=false:=e
  subst e'
  exact truthy_none ⟨H,I,q⟩
 | bl b=>
  cases rx
  have e':k=b:=e
  subst e'
  exact wpAny_truthy_bool ⟨H,I,q⟩
 | int i=>
  obtain ⟨t,rfl⟩:=rx
  have e':k=(i != 0):=e
  subst e'
  exact PySem.P.truthy_int ⟨H,I,q⟩
 | str y=>
  obtain ⟨t,rfl⟩:=rx
  obtain ⟨hy,e'⟩:y.length<=sizeLine/\k=((y.length:Int) != 0):=e
  subst e'
  exact PySem.P.truthy_str (by omega) ⟨H,I.tok _,q⟩
 | byt y=>
  obtain ⟨t,rfl⟩:=rx
  obtain ⟨hy,e'⟩:y.size<=sizeLine/\k=((y.size:Int) != 0):=e
  subst e'
  exact PySem.W.truthy_bytes (by omega) ⟨H,I.tok _,q⟩
 | ref p=>
  cases rx
  have e':(∃ xs,SqL X.K H p xs/\k = !xs.isEmpty)\/(∃ xs,SqT X.K H p xs/\k = !xs.isEmpty)\/∃ kvs,H p=some (.dK kvs)/\k = !kvs.isEmpty:=e
  rcases e' with ⟨xs,hx,e'⟩ | ⟨xs,hx,e'⟩ | ⟨kvs,hx,e'⟩
  ·subst e'
   obtain ⟨its,r,pl,hz⟩:=I.list hx
   have hlen:=r.length
   exact wpAny_truthy_list pl.isList (by simp only [List.size_toArray];omega) ⟨H,I.tok _,by rw [jL r];exact q⟩
  ·subst e'
   obtain ⟨its,r,pl,hz⟩:=I.tuple hx
   have hlen:=r.length
   exact truthy_tuple pl (by simp only [List.size_toArray];omega) ⟨H,I.tok _,by rw [jL r];exact q⟩
  ·subst e'
   obtain ⟨hz,hS,vs,r,m⟩:kvs.length<=sizeLine/\(p == sysModules)=false/\∃ vs,KV kvs vs/\s.heap.DictOf (bD X.prog X.w) p vs:=I.hok p _ hx
   have hlen:kvs.length=vs.length:=Paired.length r
   exact wpAny_truthy_dict hS m (by omega) ⟨H,I.tok _,by rw [pU r];exact q⟩
 | _=>exact (show False from e).elim
theorem vK (ha:PE X a ta) (he:∀ whole,isTrue a X.env whole=(do let v <-whole;standAt a.pos;holding [v] (truthy v))) :
  PT X a (fun σ H Q=>ta σ H fun x H'=>∃ k,zk X.K x H' k/\Q k H'):=by
 intro pins s σ H Q I h
 exact isTrue_plain (thn (ha pins s σ H _ I h) fun v s1 ⟨x,H1,I1,r1,q1⟩=>DW pins s1 σ H1 x v Q I1 r1 q1) (he _)
theorem pV:OpR X (binaryOp .Add) (fun x y H Q=>∃ i j,x = .str i/\y = .str j/\i.length+j.length<=sizeLine/\Q (.str (i++j)) H):=by
 intro pins s σ H x y v u Q I rx ry h
 obtain ⟨i,j,rfl,rfl,hz,q⟩:=h
 obtain ⟨t,rfl⟩:=rx
 obtain ⟨t',rfl⟩:=ry
 exact add_str (fun t' tk=>⟨.str (i++j),H,I.tok _,⟨_,rfl⟩,q⟩) hz
theorem cr {x:V} {us:List Value} (r:aK [x] us):∃ u,us=[u]/\aJ x u:=by
 cases r with
 | cons r1 r2=>cases r2;exact ⟨_,rfl,r1⟩
theorem rC {x y:V} {us:List Value} (r:aK [x,y] us):∃ u w',us=[u,w']/\aJ x u/\aJ y w':=by
 cases r with
 | cons r1 r2=>
  cases r2 with
  | cons r3 r4=>cases r4;exact ⟨_,_,rfl,r1,r3⟩
theorem tJ (hc:X.calm=true):aN X (.builtin "max") (fun xs H Q=>∃ i j,xs=[.int i,.int j]/\Q (.int (if j > i then j else i)) H):=by
 intro pins s σ H xs us Q I r h
 obtain ⟨i,j,rfl,q⟩:=h
 obtain ⟨u,w',rfl,⟨t,rfl⟩,⟨t',rfl⟩⟩:=rC r
 refine max_two_ints (I.ok.hd hc) fun h' tk k=>⟨_,H,I.kept k,?_,q⟩
 by_cases hj:j > i
 ·rw [if_pos hj,if_pos hj];exact ⟨_,rfl⟩
 ·rw [if_neg hj,if_neg hj];exact ⟨_,rfl⟩
theorem tK (hc:X.calm=true):aN X (.builtin "min") (fun xs H Q=>∃ i j,xs=[.int i,.int j]/\Q (.int (if j < i then j else i)) H):=by
 intro pins s σ H xs us Q I r h
 obtain ⟨i,j,rfl,q⟩:=h
 obtain ⟨u,w',rfl,⟨t,rfl⟩,⟨t',rfl⟩⟩:=rC r
 refine min_two_ints (I.ok.hd hc) fun h' tk k=>⟨_,H,I.kept k,?_,q⟩
 by_cases hj:j < i
 ·rw [if_pos hj,if_pos hj];exact ⟨_,rfl⟩
 ·rw [if_neg hj,if_neg hj];exact ⟨_,rfl⟩
theorem tL:aN X (.type "int") (fun xs H Q=>(∃ i,xs=[.int i]/\Q (.int i) H)\/∃ k,xs=[.bl k]/\Q (.int (if k then 1 else 0)) H):=by
 intro pins s σ H xs us Q I r h
 rcases h with ⟨i,rfl,q⟩ | ⟨k,rfl,q⟩
 ·obtain ⟨u,rfl,t,rfl⟩:=cr r
  exact call_int_int ⟨.int i,H,I,⟨_,rfl⟩,q⟩
 ·obtain ⟨u,rfl,r1⟩:=cr r
  cases r1
  exact call_int_bool ⟨.int (if k then 1 else 0),H,I.tok _,⟨_,rfl⟩,q⟩
end
end L2
namespace L2
open PySem PySem.Spec PyProof.Rows
structure ObjM (h:Heap) (x dx C:Addr) (mA:Str->Option Value):Prop where
 obj:h.get? x=some (PySem.W.instObj C dx)
 ns:h.Ns1 dx mA
 ne:dx ≠ x
theorem tM {h:Heap} {dx:Addr} {mA:Str->Option Value} (n:h.Ns1 dx mA):∃ od,h.get? dx=some od/\∀ name,PySem.W.lookIn name od=some (mA name):=by
 obtain ⟨o,es,ep,ho,hd,hk,_,hm⟩:=n
 refine ⟨o,ho,fun name=>?_⟩
 have e:=hm name
 unfold nsFind findBy at e
 rw [<-Array.find?_toList] at e
 unfold PySem.W.lookIn
 rw [hd]
 dsimp only
 split
 ·rename_i y q
  rw [q] at e
  exact congrArg some e
 ·rename_i q
  rw [q] at e
  have a:es.toList.any (·.refKey)=false:=by
   rw [List.any_eq_false]
   intro y hy
   obtain ⟨z,t,hkey⟩:=hk y (Array.mem_toList_iff.mp hy)
   simp [DictEntry.refKey,hkey]
  have a':¬ es.toList.any (·.refKey)=true:=by rw [a];exact Bool.false_ne_true
  rw [if_neg a']
  exact congrArg some e
theorem ObjM.look {h:Heap} {x dx C:Addr} {mA:Str->Option Value} (I:ObjM h x dx C mA):∃ od,PySem.W.InstAt h x (PySem.W.instObj C dx) C (some od)/\∀ name,PySem.W.lookIn name od=some (mA name):=
 let ⟨od,ho,hl⟩:=tM I.ns
 ⟨od,⟨I.obj,rfl,rfl,ho⟩,hl⟩
section
variable {P:Program} {w:World} {H H':Hp} {h h':Heap} {a C dx:Addr} {fs fs':List (Str × V)}
theorem zl (hok:HOk P w H h) (e:H a=some (.ins C dx fs)):∃ mA,ObjM h a dx C mA/\(∀ f,Dx (fs.lookup f) (mA f))/\PySem.Within mA (fs.map (·.1))/\fs.length<=1000/\H dx=some (.own a):=by
 obtain ⟨d,z,ne,ob,mA,n,r,q⟩:=(show bA P w H h a (.ins C dx fs) from hok a _ e)
 exact ⟨mA,⟨ob,n,ne⟩,r,q,z,d⟩
end
structure Cls (K:PySem.W.Frag) (C:Addr):Prop where
 pg:PySem.W.plainGet K C Str.empty=true
 hd:PySem.W.hasDictIn K C=true
 po:PySem.W.plainOver K C=true
 sa:PySem.W.findIn K (.ref C) "__setattr__" = some (some (.builtin "object.__setattr__"))
theorem Cls.get {K:PySem.W.Frag} {C:Addr} (c:Cls K C) (f:Str):PySem.W.plainGet K C f=true:=c.pg
section
variable {X:Cx} {pins:List (Addr × Obj)} {σ:St} {H:Hp} {s:Shared} {A:Around} {E:Value->Shared->Prop} {Q:Value->Shared->Prop} {c:Value} {b:Bool}
inductive TyOf (K:PySem.W.Frag) (H:Hp):V->Value->Prop where
 | non:TyOf K H .non (.type "NoneType")
 | bl (x:Bool):TyOf K H (.bl x) (.type "bool")
 | int (i:Int):TyOf K H (.int i) (.type "int")
 | str (x:Str):TyOf K H (.str x) (.type "str")
 | flt (x:UInt64):TyOf K H (.flt x) (.type "float")
 | lst {a:Addr} {xs:List V} (e:H a=some (.lst xs)):TyOf K H (.ref a) (.type "list")
 | frz {a:Addr} {o:Obj} {xs:List V} (e:H a=some (.frz o (.lst xs))):TyOf K H (.ref a) (.type "list")
 | tup {a:Addr} {xs:List V} (e:H a=some (.tup xs)):TyOf K H (.ref a) (.type "tuple")
 | dK {a:Addr} {kvs:List (Key × V)} (e:H a=some (.dK kvs)):TyOf K H (.ref a) (.type "dict")
 | dT {a:Addr} {kvs:List (List Key × V)} (e:H a=some (.dT kvs)):TyOf K H (.ref a) (.type "dict")
 | ins {a C dx:Addr} {fs:List (Str × V)} (e:H a=some (.ins C dx fs)) (cl:Cls K C) (ha:PySem.W.findIn K (.ref C) "__class__" = some (some (.builtin "object.__class__")))
   (hn:PySem.W.specialIn K (.builtin "object.__class__") "__get__" = some (some (.builtin "getset_descriptor.__get__"))) (htk:PySem.W.takesIn K (.builtin "object.__class__")=some true)
   (hm:PySem.W.mroIn K C (.type "object")=some true):TyOf K H (.ref a) (.ref C)
theorem tN {x:V} {u t:Value} (I:Inv X pins σ H s) (rx:aJ x u) (ty:TyOf X.K H x t) (e:PySem.W.kitOne X.K t c=some b) (h:∀ tk,Q (.bool b) { s with toks:=tk }) :
  wpAny (model X.prog X.w) A (call (.builtin "isinstance") [u,c]) Q E s:=by
 cases ty with
 | non=>cases (show u=Value.none from rx);exact PySem.W.kia_one PySem.W.kitx_none I.kIn True.intro e (fun z=>nomatch z) h
 | bl y=>cases (show u=Value.bool y from rx);exact PySem.W.kia_one PySem.W.kitx_bool I.kIn True.intro e (fun z=>nomatch z) h
 | int i=>obtain ⟨t,q⟩:=(show ∃ t,u=Value.int i t from rx);cases q;exact PySem.W.kia_one PySem.W.kitx_int I.kIn True.intro e (fun z=>nomatch z) h
 | str y=>obtain ⟨t,q⟩:=(show ∃ t,u=Value.str y t from rx);cases q;exact PySem.W.kia_one PySem.W.kitx_str I.kIn True.intro e (fun z=>nomatch z) h
 | flt y=>obtain ⟨t,q⟩:=(show ∃ t,u=Value.float y t from rx);cases q;exact PySem.W.kia_one PySem.W.kitx_float I.kIn True.intro e (fun z=>nomatch z) h
 | @lst a xs ea=>
  cases (show u=Value.ref a from rx)
  obtain ⟨_,_,n,_,h1⟩:=(show bA X.prog X.w H s.heap a (.lst xs) from I.hok a _ ea)
  exact PySem.W.kia_one PySem.W.kitx_list I.kIn ⟨_,h1,rfl⟩ e (fun z=>nomatch z) h
 | @frz a ob xs ea=>
  cases (show u=Value.ref a from rx)
  obtain ⟨_,_,_,n,_,h1⟩:=(show bA X.prog X.w H s.heap a (.frz ob (.lst xs)) from I.hok a _ ea)
  exact PySem.W.kia_one PySem.W.kitx_list I.kIn ⟨_,h1,rfl⟩ e (fun z=>nomatch z) h
 | @tup a xs ea=>
  cases (show u=Value.ref a from rx)
  obtain ⟨_,_,_,p⟩:=(show bA X.prog X.w H s.heap a (.tup xs) from I.hok a _ ea)
  obtain ⟨o,h1,h2,_⟩:=p
  exact PySem.W.kia_one PySem.W.kitx_tuple I.kIn ⟨o,h1,h2⟩ e (fun z=>nomatch z) h
 | @dK a kvs ea=>
  cases (show u=Value.ref a from rx)
  obtain ⟨_,_,vs,_,p⟩:=(show bA X.prog X.w H s.heap a (.dK kvs) from I.hok a _ ea)
  obtain ⟨o,es,ep,h1,h2,_⟩:=p
  exact PySem.W.kia_one PySem.W.kitx_dict I.kIn ⟨o,h1,h2.1⟩ e (fun z=>nomatch z) h
 | @dT a kvs ea=>
  cases (show u=Value.ref a from rx)
  obtain ⟨_,_,xs,_,o,es,ep,h1,h2,_⟩:=(show bA X.prog X.w H s.heap a (.dT kvs) from I.hok a _ ea)
  exact PySem.W.kia_one PySem.W.kitx_dict I.kIn ⟨o,h1,h2.1⟩ e (fun z=>nomatch z) h
 | @ins a C dx fs ea cl ha hn htk hm=>
  cases (show u=Value.ref a from rx)
  obtain ⟨mA,O,_⟩:=zl I.hok ea
  obtain ⟨od,J,_⟩:=O.look
  exact PySem.W.kia_one (PySem.W.kitx_own (cl.get _) cl.hd ha hn htk hm) I.kIn J e (fun z=>nomatch z) h
end
end L2
namespace L2
open PySem PySem.Spec PyProof.Rows
structure Room (k:Nat) (A:Around):Prop where
 hd:A.handled=none
 dp:A.depth+3 * k+5 < recursionLimit
 un:A.units+16 * k+200 < cLine
 gd:A.guards=some []
theorem Room.deeper {k:Nat} {A:Around} (r:Room (k+1) A) (env:Env):Room k (A.deeper env):=
 ⟨r.hd,by have:=r.dp;show A.depth+1+3 * k+5 < _;omega,by have:=r.un;show A.units+3+16 * k+200 < _;omega,r.gd⟩
theorem Room.depth {k:Nat} {A:Around} (r:Room k A):A.depth < recursionLimit:=by have:=r.dp;omega
theorem Room.units {k:Nat} {A:Around} (r:Room k A):A.units+64 < cLine:=by have:=r.un;omega
noncomputable def me:TA:=fun _ H Q=>Q [] H
noncomputable def eD (ta:TE) (tr:TA):TA:=fun σ H Q=>ta σ H fun x H1=>tr σ H1 fun xs H2=>Q (x::xs) H2
section
variable {X:Cx} {e:Expr} {es:List Expr} {te:TE} {t:TA} {pos:Pos}
theorem vL:PA X [] me:=fun _ _ _ _ H Q I h=>Calls.spliced_nil ⟨[],H,I,.nil,h⟩
theorem zm (ha:PE X e te) (hr:PA X es t) (hs:starEach (e::es) X.env=(false,eval e X.env)::starEach es X.env:=by rfl):PA X (e::es) (eD te t):=by
 intro pos pins s σ H Q I h
 rw [hs]
 show wpAny _ _ (spliced ((false,eval e X.env)::backTo pos (starEach es X.env))) _ _ s
 refine Calls.spliced_cons (thn (ha pins s σ H _ I h) fun u s1 ⟨x,H1,I1,r1,q1⟩=>?_)
 exact thn (hr pos pins s1 σ H1 _ I1 q1) fun us s2 ⟨xs,H2,I2,r2,q2⟩=>⟨x::xs,H2,I2,.cons r1 r2,q2⟩
noncomputable def IE (t:TA):TE:=fun σ H Q=>t σ H fun xs H1=>xs.length<=sizeLine/\∀ p,H1 p=none->Q (.ref p) (upd H1 p (.tup xs))
noncomputable def IG (t:TA):TE:=fun σ H Q=>t σ H fun xs H1=>xs.length<=sizeLine/\∀ p,H1 p=none->Q (.ref p) (upd H1 p (.lst xs))
theorem DX {x1} (h:PA X es t):PE X (.Tuple es x1 pos) (IE t):=by
 intro pins s σ H Q I hq
 refine wpAny_Tuple_spliced (thn (h pos pins s σ H _ I hq) fun us s1 ⟨xs,H1,I1,r,z,q⟩=>⟨by rw [<-r.length];exact z,?_⟩)
 have hf:H1 s1.heap.objs.size=none:=I1.hok.fresh (Nat.le_refl _)
 refine ⟨.ref s1.heap.objs.size,upd H1 s1.heap.objs.size (.tup xs),I1.laid (t':=s1.toks) (fun b u e=>Heap.get?_push_of_some _ e) (Nat.le_refl _) ?_,rfl,q _ hf⟩
 exact ⟨z,us,r,l9.new _ _⟩
theorem DY (h:PA X es t):PE X (.List es pos) (IG t):=by
 intro pins s σ H Q I hq
 refine wpAny_List_spliced (thn (h pos pins s σ H _ I hq) fun us s1 ⟨xs,H1,I1,r,z,q⟩=>⟨by rw [<-r.length];exact z,?_⟩)
 have hf:H1 s1.heap.objs.size=none:=I1.hok.fresh (Nat.le_refl _)
 refine ⟨.ref s1.heap.objs.size,upd H1 s1.heap.objs.size (.lst xs),I1.laid (t':=s1.toks) (fun b u e=>Heap.get?_push_of_some _ e) (Nat.le_refl _) ?_,rfl,q _ hf⟩
 exact ⟨z,us,0,r,Heap.get?_push_size _ rfl⟩
end
noncomputable abbrev Sp:=List V->Hp->VK->XK->Prop
noncomputable abbrev CXT:=List Env->Hp->Shared->XK->Value->Shared->Prop
structure Env0 (P:Program) (w:World) (K:PySem.W.Frag) (mg:Str->Option Value) (base:Heap) (A:Around) (outer:List Env) (s:Shared) (H:Hp):Prop where
 frames:A.frames=some outer
 mod:Mod K mg base
 bs:∀ b o,base.get? b=some o->s.heap.get? b=some o/\H b=none
 bsz:base.objs.size<=s.heap.objs.size
 funs:s.heap.FunFrames base outer
 frf:∀ b ∈ frs outer,H b=none
 hok:HOk P w H s.heap
 bare:AllBare s.gens
noncomputable def CE (outer:List Env) (P:Program) (w:World) (H:Hp) (s:Shared) (Q:VK) (u:Value) (s':Shared):Prop:=
 ∃ v H',s'.os=s.os/\AllBare s'.gens/\Un (frs outer) [] H H' s.heap s'.heap/\HOk P w H' s'.heap/\aJ v u/\Q v H'
noncomputable def CR (CX:CXT) (outer:List Env) (P:Program) (w:World) (H:Hp) (s:Shared) (Q:VK) (E:XK) (r:Result) (s':Shared):Prop:=
 match r with
 | .ok (.ret u)=>CE outer P w H s Q u s'
 | .ok _=>False
 | .error e=>CX outer H s E e s'
structure FnOk (P:Program) (w:World) (K:PySem.W.Frag) (mg:Str->Option Value) (base:Heap) (CX:CXT) (k:Nat) (f:Addr) (fd:FuncData) (ps:List Str) (sp:Sp):Prop where
 len:∀ vs H Q E,sp vs H Q E->vs.length=ps.length
 run:∀ (A:Around) (outer:List Env) (s:Shared) (H:Hp) (args:Args) (us:List Value) (vs:List V) (Q:VK) (E:XK),Room k A->Env0 P w K mg base A outer s H->BindsTo s fd args (ps.zip us)->aK vs us->sp vs H Q E ->
  codeAny (model P w) A (.call (.ref f) args) (CR CX outer P w H s Q E) s
section
variable {X:Cx} {pins:List (Addr × Obj)} {σ:St} {H:Hp} {s s':Shared}
theorem Inv.env0 (I:Inv X pins σ H s):Env0 X.prog X.w X.K X.mg X.base X.A X.stack s H:=
 ⟨I.ok.frames,I.ok.mod,I.bs,Nat.le_trans I.ok.bsz I.sz,I.stack,I.stkFree,I.hok,I.bare⟩
theorem Inv.after {Q:VK} {u:Value} (I:Inv X pins σ H s) (h:CE X.stack X.prog X.w H s Q u s'):EP X pins σ Q u s':=by
 obtain ⟨v,H',os,bare,un,hok,r,q⟩:=h
 obtain ⟨hh,g,d,t,os'⟩:=s'
 obtain rfl:os'=s.os:=os
 exact ⟨v,H',I.call (h':=hh) (g':=g) (d':=d) (t':=t) (ch:=[]) un hok bare (fun b z=>absurd z (by simp)),r,q⟩
end
noncomputable def CT (sp:Sp) (dvs:List V) (E:XK) (t:TA):TE:=fun σ H Q=>t σ H fun vs H1=>sp (vs++dvs) H1 Q E
noncomputable def lp (K:PySem.W.Frag) (fd:FuncData) (ps:List Str) (ds:List Value):Prop:=
 ∀ (s:Shared) (us:List Value),K.In s.heap->(us++ds).length=ps.length->BindsTo s fd ⟨us,[]⟩ (ps.zip (us++ds))
theorem lp.all {K:PySem.W.Frag} {fd:FuncData} {ps:List Str} (h:∀ us:List Value,us.length=ps.length->bindArgs fd ⟨us,[]⟩=pure (ps.zip us)):lp K fd ps []:=fun s us _ hl=>by
 rw [List.append_nil] at hl ⊢
 exact .of_eq (h us hl)
noncomputable def pW (CX:CXT) (X:Cx) (E:XK):Prop:=∀ (pins:List (Addr × Obj)) (σ:St) (H:Hp) (s:Shared) (e:Value) (s':Shared),Inv X pins σ H s->CX X.stack H s E e s'->X.xe e s'
section
variable {X:Cx} {CX:CXT} {k:Nat} {f C:Addr} {fd:FuncData} {ps:List Str} {sp:Sp} {dvs:List V} {ds:List Value} {E:XK} {x m:Str} {p pos apos:Pos} {e o:Expr} {es:List Expr} {ta:TE} {t:TA}
theorem DZ {pins:List (Addr × Obj)} {σ:St} {H:Hp} {s:Shared} {Q:VK} {us:List Value} {vs:List V} (F:FnOk X.prog X.w X.K X.mg X.base CX k f fd ps sp) (hr:Room k X.A) (hb:lp X.K fd ps ds) (hd:aK dvs ds) (hx:pW CX X E)
  (I:Inv X pins σ H s) (r:aK vs us) (h:sp (vs++dvs) H Q E):wpAny (model X.prog X.w) X.A (call (.ref f) us) (EP X pins σ Q) X.xe s:=by
 have r2:aK (vs++dvs) (us++ds):=r.append hd
 have hl:(us++ds).length=ps.length:=by rw [<-r2.length];exact F.len _ _ _ _ h
 refine wpAny_call (codeAny_mono (F.run X.A X.stack s H ⟨us,[]⟩ (us++ds) (vs++dvs) Q E hr I.env0 (hb s us I.kIn hl) r2 h) fun r s' hq=>?_)
 cases r with
 | error e=>exact hx pins σ H s e s' I hq
 | ok fl=>
  cases fl with
  | ret u=>exact I.after hq
  | next=>exact False.elim hq
  | brk=>exact False.elim hq
  | cont=>exact False.elim hq
theorem zn (F:FnOk X.prog X.w X.K X.mg X.base CX k f fd ps sp) (hr:Room k X.A) (hg:Gl X x) (hm:X.mg x=some (.ref f)) (hk:PySem.W.keepIn X.K (.ref f)=true) (hb:lp X.K fd ps ds) (hd:aK dvs ds) (hx:pW CX X E)
  (ha:PA X (e::es) t) (hdb:(x == ("__debug__" : Str))=false:=by decide) (he:starEach (e::es) X.env=(false,eval e X.env)::starEach es X.env:=by rfl) (hpl:(backTo pos (starEach es X.env)).any (·.1)=false:=by rfl) :
  PE X (.Call (.Name x p) (e::es) [] pos) (CT sp dvs E t):=by
 intro pins s σ H Q I h
 refine wpAny_Call_Name_kw (rA I hg hm ?_ hdb)
 refine PySem.W.callWith_K (h₀:=X.base) I.ok.mod.kin hk (thn (ha pos pins s σ H _ I h) fun us s1 ⟨vs,H1,I1,r,q⟩=>⟨I1.kIn,?_⟩) he hpl
 exact DZ F hr hb hd hx I1 r q
end
structure FnScope (N P:List Str) (sc:Scope):Prop where
 kind:sc.kind = .function
 co:sc.isCoroutine=false
 gen:sc.isGenerator=false
 nd:N.Nodup
 pre:N.take P.length=P
 par:∀ x ∈ P,sc.names.lookup x=some .local\/sc.names.lookup x=some .cell
 nofree:∀ y ∈ sc.names,y.2 ≠ .free
theorem ls {kindOf:Str->Option NameKind} {x:Str}:∀ {binds:List (Str × Value)} {m:Str->Option Value},(∀ v,(x,v) ∉ binds)->bindL kindOf binds m x=m x
 | [],_,_=>rfl
 | (n,v)::r,m,h=>by
  unfold bindL
  rw [ls fun w hw=>h w (List.mem_cons_of_mem _ hw)]
  split
  ·have:x ≠ n:=by rintro rfl;exact h v List.mem_cons_self
   simp [this]
  ·rfl
theorem lu {kindOf:Str->Option NameKind} {x:Str}:∀ {binds:List (Str × Value)} {m:Str->Option Value},(∀ v,(x,v) ∉ binds)->bindC kindOf binds m x=m x
 | [],_,_=>rfl
 | (n,v)::r,m,h=>by
  unfold bindC
  rw [lu fun w hw=>h w (List.mem_cons_of_mem _ hw)]
  split
  ·rfl
  ·have:x ≠ n:=by rintro rfl;exact h v List.mem_cons_self
   simp [this]
theorem lv {kindOf:Str->Option NameKind} {x:Str} {v:Value}:∀ {P:List Str} {vs:List Value} {i:Nat} {m:Str->Option Value},P.Nodup->P[i]?=some x->vs[i]?=some v->kindOf x=some .local ->
  bindL kindOf (P.zip vs) m x=some v
 | [],_,_,_,_,h,_,_=>by simp at h
 | _::_,[],_,_,_,_,h,_=>by simp at h
 | p::P,w::vs,0,m,nd,h1,h2,hk=>by
  simp at h1 h2;subst h1;subst h2
  show bindL kindOf ((p,w)::P.zip vs) m p=_
  unfold bindL
  rw [ls fun v hv=>(List.nodup_cons.mp nd).1 (List.of_mem_zip hv).1,if_pos hk]
  simp
 | p::P,w::vs,i+1,m,nd,h1,h2,hk=>by
  show bindL kindOf ((p,w)::P.zip vs) m x=_
  unfold bindL
  exact lv (i:=i) (List.nodup_cons.mp nd).2 (by simpa using h1) (by simpa using h2) hk
theorem lw {kindOf:Str->Option NameKind} {x:Str} {v:Value}:∀ {P:List Str} {vs:List Value} {i:Nat} {m:Str->Option Value},P.Nodup->P[i]?=some x->vs[i]?=some v->kindOf x ≠ some .local ->
  bindC kindOf (P.zip vs) m x=some v
 | [],_,_,_,_,h,_,_=>by simp at h
 | _::_,[],_,_,_,_,h,_=>by simp at h
 | p::P,w::vs,0,m,nd,h1,h2,hk=>by
  simp at h1 h2;subst h1;subst h2
  show bindC kindOf ((p,w)::P.zip vs) m p=_
  unfold bindC
  rw [lu fun v hv=>(List.nodup_cons.mp nd).1 (List.of_mem_zip hv).1,if_neg hk]
  simp
 | p::P,w::vs,i+1,m,nd,h1,h2,hk=>by
  show bindC kindOf ((p,w)::P.zip vs) m x=_
  unfold bindC
  exact lw (i:=i) (List.nodup_cons.mp nd).2 (by simpa using h1) (by simpa using h2) hk
noncomputable def fV (N:List Str) (vs:List V):St:=vs.map some++List.replicate (N.length - vs.length) none
noncomputable def pX (CX:CXT) (P:Program) (w:World) (K:PySem.W.Frag) (mg:Str->Option Value) (base:Heap) (N:List Str) (qual:Str) (scope:Scope) (f:Addr) (cd:Value) (A:Around) (outer:List Env) (s:Shared) (H:Hp) (E:XK):Cx where
 prog:=P
 w:=w
 K:=K
 mg:=mg
 base:=base
 A:=A.deeper (envOfC qual scope s.heap.objs.size f cd)
 N:=N
 s₀:=s
 H₀:=H
 env:=envOfC qual scope s.heap.objs.size f cd
 outer:=outer
 stack:=envOfC qual scope s.heap.objs.size f cd::outer
 ex:=[]
 calm:=true
 fn:=fun _=>true
 pn:=[]
 xe:=fun e s'=>wpAny (model P w) (A.deeper (envOfC qual scope s.heap.objs.size f cd)) (leaving (envOfC qual scope s.heap.objs.size f cd) e) (fun _ s''=>CX outer H s E e s'') (fun e' s''=>CX outer H s E e' s'') s'
theorem nZ {sc:Scope} {n:Nat} {x:Str} (h:sc.names.lookup x=some .cell):∃ c,(cellsFrom n sc.names []).lookup x=some c:=by
 have q:=PySem.W.cellsFrom_some sc.names n [] (.inl h)
 exact Option.isSome_iff_exists.mp q
theorem tO {CX:CXT} {P:Program} {w:World} {K:PySem.W.Frag} {mg:Str->Option Value} {base:Heap} {N ps:List Str} {qual:Str} {scope:Scope} {f:Addr} {cd:Value} {A:Around} {outer:List Env} {s s1:Shared} {H:Hp} {E:XK} {us:List Value} {vs:List V}
  (S:FnScope N ps scope) (hd:A.handled=none) (e0:Env0 P w K mg base A outer s H) (hl:vs.length=ps.length) (r:aK vs us)
  (x:InCallC s s.heap.objs.size (bindL (envOfC qual scope s.heap.objs.size f cd).kindOf (ps.zip us) fun _=>none) (cellsFrom (s.heap.objs.size+1) scope.names []) (bindC (envOfC qual scope s.heap.objs.size f cd).kindOf (ps.zip us) fun _=>none) s1) :
  Inv (pX CX P w K mg base N qual scope f cd A outer s H E) [] (fV N vs) H s1:=by
 have hpl:ps.length<=N.length:=by have:=congrArg List.length S.pre;rw [List.length_take] at this;omega
 obtain ⟨h1,tk,rfl,hk⟩:=x.done
 have noA:∀ b:Addr,b ∉ (pX CX P w K mg base N qual scope f cd A outer s H E).ex:=fun b z=>absurd (show b ∈ ([]:List Addr) from z) (by simp)
 refine ⟨⟨e0.mod,S.kind,rfl,rfl,Nat.le_refl _,fun y z c h1 h2=>?_,fun y hy=>?_,fun y c _ h=>?_,fun _=>hd,Around.frames_deeper e0.frames,.inr ⟨rfl,rfl⟩,fun b z=>absurd z (noA b),e0.bs,e0.bsz,fun b _ _=>noA b,fun b z=>absurd z (noA b),e0.funs,e0.frf⟩,
  rfl,e0.bare,Un.kept hk,⟨_,x.toInCall.ns,fun i y v h1 h2 h3=>?_⟩,fun y c h=>⟨_,x.cell y c h⟩,e0.hok.fresh (Nat.le_refl _),fun y c h=>?_,fun p hp=>absurd (show p ∈ ([]:List (Addr × Obj)) from hp) (by simp),e0.hok.kept hk,?_⟩
 ·exact name_of_addr x.apart (PySem.mem_of_lookup h1) (PySem.mem_of_lookup h2)
 ·have hy:scope.names.lookup y=some .cell\/scope.names.lookup y=some .free:=hy
  rcases hy with hy | hy
  ·exact nZ hy
  ·exact absurd rfl (S.nofree _ (PySem.mem_of_lookup hy))
 ·exact Nat.le_of_lt (x.above y c (PySem.mem_of_lookup h))
 ·have hi:i < vs.length:=by
   unfold fV at h2
   by_cases hi:i < vs.length
   ·exact hi
   ·rw [List.getElem?_append_right (by simpa using hi)] at h2
    rw [List.getElem?_replicate] at h2
    split at h2 <;> cases h2
  have ha:vs[i]?=some v:=by
   unfold fV at h2
   rw [List.getElem?_append_left (by simpa using hi),List.getElem?_map] at h2
   cases e:vs[i]? with
   | none=>rw [e] at h2;cases h2
   | some a=>rw [e] at h2;cases h2;rfl
  obtain ⟨u,hu,rv⟩:=r.get ha
  have hp:ps[i]?=some y:=by
   rw [<-S.pre,List.getElem?_take_of_lt (by omega)];exact h1
  have ndP:ps.Nodup:=by rw [<-S.pre];exact S.nd.sublist (List.take_sublist _ _)
  refine ⟨u,rv,?_⟩
  rcases S.par y (List.mem_of_getElem? hp) with k | k
  ·exact .inl ⟨k,lv ndP hp hu k⟩
  ·obtain ⟨c,e⟩:=nZ (n:=s.heap.objs.size+1) k
   refine .inr ⟨.inl k,c,e,?_⟩
   have q:=x.cell y c e
   rw [lw ndP hp hu (by show scope.names.lookup y ≠ _;rw [k];decide)] at q
   exact q
 ·exact e0.hok.fresh (Nat.le_of_lt (x.above y c (PySem.mem_of_lookup h)))
 ·unfold fV
  show _=N.length
  rw [List.length_append,List.length_map,List.length_replicate]
  omega
theorem IH {CX:CXT} {P:Program} {w:World} {K:PySem.W.Frag} {mg:Str->Option Value} {base:Heap} {k:Nat} {f:Addr} {name qual:Str} {params:Arguments} {body:List Stmt} {scope:Scope} {dV kV doc pm cdv ct oc:Value} {an od:Option Addr}
  {osl:Array (Option Value)} {N ps:List Str} {sp:Sp} (lk:K.lookup f=some ⟨oc,od,.func (PySem.W.fnOf name qual params body scope dV kV doc pm an cdv ct),osl⟩) (hcd:PySem.W.codeIn K cdv qual=true) (S:FnScope N ps scope)
  (len:∀ vs H Q E,sp vs H Q E->vs.length=ps.length)
  (hbody:∀ (A:Around) (outer:List Env) (s:Shared) (H:Hp) (vs:List V) (Q:VK) (E:XK),Room k (A.deeper (envOfC qual scope s.heap.objs.size f cdv))->sp vs H Q E ->
   ∃ t,PSs (pX CX P w K mg base N qual scope f cdv A outer s H E) body t/\t { nx:=fun _ H'=>Q .non H',rt:=Q } (fV N vs) H) :
  FnOk P w K mg base CX (k+1) f (PySem.W.fnOf name qual params body scope dV kV doc pm an cdv ct) ps sp:=by
 refine ⟨len,fun A outer s H args us vs Q E hr e0 hb r hsp=>?_⟩
 have hl:=len _ _ _ _ hsp
 have KX:K.In s.heap:=e0.mod.kin.keeps fun b o e=>(e0.bs b o e).1
 have lim:s.heap.NoLimit:=e0.mod.nolimit.keeps fun b o e=>(e0.bs b o e).1
 have hkind:∀ y ∈ ps.zip us,scope.names.lookup y.1=some .local\/(scope.names.lookup y.1=some .cell/\((cellsFrom (s.heap.objs.size+1) scope.names []).lookup y.1).isSome=true):=fun ⟨n,v⟩ hy=>by
  rcases S.par n (List.of_mem_zip hy).1 with q | q
  ·exact .inl q
  ·exact .inr ⟨q,PySem.W.cellsFrom_some _ _ _ (.inl q)⟩
 refine codeAny_call_function hr.depth (KX _ _ lk) rfl S.co S.gen rfl (PySem.W.codeRec_of KX hcd) (hb _ _ _ _ ?_)
 refine wpAny_newFunctionEnv_cells S.kind hkind fun env he s1 x=>?_
 subst he
 refine ⟨lim.keeps x.toInCall.keep,codeAny_func ?_⟩
 obtain ⟨t,ht,hq⟩:=hbody A outer s H vs Q E (hr.deeper _) hsp
 have I:Inv (pX CX P w K mg base N qual scope f cdv A outer s H E) [] (fV N vs) H s1:=tO S hr.hd e0 hl r x
 refine wpAny_mono (ht [] s1 (fV N vs) H _ I hq) (fun fl s' hs=>?_) fun e s' hs=>hs
 have fin:∀ {σ':St} {H':Hp} {v:V} {u:Value},Inv (pX CX P w K mg base N qual scope f cdv A outer s H E) [] σ' H' s'->aJ v u->Q v H'->CE outer P w H s Q u s':=
  fun {σ' H' v u} J rv q=>⟨v,H',J.os,J.bare,J.base,J.hok,rv,q⟩
 cases fl with
 | ret u=>
  obtain ⟨v,σ',H',J,rv,q⟩:=hs
  exact fin J rv q
 | next=>
  obtain ⟨σ',H',J,q⟩:=hs
  exact fin (v:=V.non) (u:=Value.none) J rfl q
 | brk=>
  obtain ⟨_,_,_,q⟩:=hs
  exact False.elim q
 | cont=>
  obtain ⟨_,_,_,q⟩:=hs
  exact False.elim q
end L2
namespace L2
open PySem PySem.Spec PyProof.Rows
section
variable {X:Cx} {x:Str} {p pos:Pos} {e:Expr} {es:List Expr} {t:TA} {id T:String} {r:List V->Hp->VK->Prop}
noncomputable def tCB (r:List V->Hp->VK->Prop) (t:TA):TE:=fun σ H Q=>t σ H fun vs H1=>r vs H1 Q
theorem gF (hc:aN X (.builtin id) r) (hg:Gl X x) (hm:X.mg x=none) (hv:bootBuiltins x=some (.builtin id)) (ha:PA X (e::es) t) (hn:x ≠ "__name__" := by decide) (hdb:(x == ("__debug__" : Str))=false:=by decide)
  (he:starEach (e::es) X.env=(false,eval e X.env)::starEach es X.env:=by rfl) (hpl:(backTo pos (starEach es X.env)).any (·.1)=false:=by rfl):PE X (.Call (.Name x p) (e::es) [] pos) (tCB r t):=by
 intro pins s σ H Q I h
 refine wpAny_Call_Name_kw (ga I hg hm hv ?_ hn hdb)
 exact PyProof.Rows.callWith_builtin1 (thn (ha pos pins s σ H _ I h) fun us s1 ⟨vs,H1,I1,r1,q1⟩=>hc pins s1 σ H1 vs us Q I1 r1 q1) he hpl
theorem ir (hc:aN X (.type T) r) (hg:Gl X x) (hm:X.mg x=none) (hv:bootBuiltins x=some (.type T)) (ha:PA X (e::es) t) (hn:x ≠ "__name__" := by decide) (hdb:(x == ("__debug__" : Str))=false:=by decide)
  (he:starEach (e::es) X.env=(false,eval e X.env)::starEach es X.env:=by rfl) (hpl:(backTo pos (starEach es X.env)).any (·.1)=false:=by rfl):PE X (.Call (.Name x p) (e::es) [] pos) (tCB r t):=by
 intro pins s σ H Q I h
 refine wpAny_Call_Name_kw (ga I hg hm hv ?_ hn hdb)
 exact PyProof.Rows.callWith_type1 (thn (ha pos pins s σ H _ I h) fun us s1 ⟨vs,H1,I1,r1,q1⟩=>hc pins s1 σ H1 vs us Q I1 r1 q1) he hpl
end
end L2
namespace HT
open PySem PyProof.Rows
section
open PySem.SeqAt
open PySem.AutoSeq1 (wpAny_loadPart')
open PySem.MeetsSeq PySem.MeetsSeq2 PySem.MeetsSeq3
end
section
variable {prog:Program} {w:World} {A:Around} {E:Value->Shared->Prop} {s:Shared}
theorem zo {t b:Addr} {vs ws:List Value} {Q:Value->Shared->Prop} (ht:IsTup s.heap t vs.toArray) (hb:IsTup s.heap b ws.toArray) (hv:vs ≠ [])
  (h1:ws=[]->Q (.ref t) s) (h2:ws ≠ []->Q (.ref s.heap.objs.size) { s with heap:=s.heap.push { cls:=.type "tuple", data:=.seq (vs++ws).toArray } })
  (hsz:vs.length+ws.length<=sizeLine):wpAny (model prog w) A (binaryOp .Add (.ref t) (.ref b)) Q E s:=by
 obtain ⟨⟨cls,dd,data,sl⟩,ho,hc,n,hd⟩:=id ht
 obtain ⟨⟨cls2,dd2,data2,sl2⟩,ho2,hc2,n2,hd2⟩:=id hb
 simp only at hc hd hc2 hd2
 subst hc hd hc2 hd2
 have e:vs.toArray++ws.toArray=(vs++ws).toArray:=by simp
 by_cases hw:ws=[]
 ·exact concat_meets ⟨_,ho,rfl⟩ ⟨_,ho2,rfl⟩ noFill_tuple_add seq_tuple_add PySem.F.slot_tuple_add PySem.F.entry_tuple_add (PySem.F.args_tuple_add_2 _ _)
   (tuple_addW1 t b vs.toArray ws.toArray n n2 dd dd2 sl sl2 (by simpa using hv) (by simp [hw])) ⟨ho,ho2,h1 hw⟩
 ·refine concat_meets ⟨_,ho,rfl⟩ ⟨_,ho2,rfl⟩ noFill_tuple_add seq_tuple_add PySem.F.slot_tuple_add PySem.F.entry_tuple_add (PySem.F.args_tuple_add_2 _ _)
   (tuple_addW2 t b vs.toArray ws.toArray n n2 dd dd2 sl sl2 (by simpa using hv) (by simpa using hw) (by rw [List.size_toArray,List.size_toArray];exact hsz)) ⟨ho,ho2,?_⟩
  rw [e]
  exact h2 hw
noncomputable def sIx (n d:Nat):Option Int->Nat
 | none=>d
 | some v=>if v < 0 then (v+(n:Int)).toNat else min v.toNat n
theorem D0 (n d:Nat) (hd:d<=n) (o:Option Int):sIx n d o<=n:=by
 cases o with
 | none=>exact hd
 | some v=>
  show (if v < 0 then (v+(n:Int)).toNat else min v.toNat n)<=n
  by_cases hv:v < 0
  ·rw [if_pos hv];omega
  ·rw [if_neg hv];exact Nat.min_le_right _ _
theorem rD (v:Int) (n d:Nat):(if v < 0 then max (v+(n:Int)) 0 else min v (n:Int))=((sIx n d (some v):Nat):Int):=by
 show (if v < 0 then max (v+(n:Int)) 0 else min v (n:Int))=(((if v < 0 then (v+(n:Int)).toNat else min v.toNat n):Nat):Int)
 by_cases hv:v < 0
 ·simp only [if_pos hv];omega
 ·simp only [if_neg hv];omega
theorem pY (lo hi:Option Int) (n:Nat):Builtin.Slice.sliceAdjust lo hi 1 (n:Int)=(((sIx n 0 lo:Nat):Int),((sIx n n hi:Nat):Int)):=by
 have h1:¬ ((1:Int) < 0):=by omega
 unfold Builtin.Slice.sliceAdjust
 simp only [h1,if_false]
 refine Prod.ext ?_ ?_
 ·cases lo with
  | none=>rfl
  | some v=>exact rD v n 0
 ·cases hi with
  | none=>rfl
  | some v=>exact rD v n n
theorem pZ (i j:Nat):Builtin.Slice.slicePlaces (i:Int) (j:Int) 1=j - i:=by
 unfold Builtin.Slice.slicePlaces
 have h1:(1:Int) > 0:=by omega
 simp only [h1,if_true,Int.ediv_one]
 split <;> omega
theorem jM {v:Value} {o:Option Int} {Q:Option Int->Shared->Prop} (p:IsPart v o) (h:Q o s):wpAny (model prog w) A (Builtin.Slice.slicePartIndex v) Q E s:=by
 cases p with
 | none=>exact slicePart_none h
 | int i t=>exact slicePart_int h
theorem dn {sl:Addr} {vl vu:Value} {lo hi:Option Int} {n:Nat} {Q:Int × Int × Nat->Shared->Prop} (hs:s.heap.IsSliceOf sl vl vu .none) (pl:IsPart vl lo) (pu:IsPart vu hi)
  (h:Q (((sIx n 0 lo:Nat):Int),1,sIx n n hi - sIx n 0 lo) s):wpAny (model prog w) A (Builtin.Slice.sliceApplied (.ref sl) (pure (n:Int))) Q E s:=by
 obtain ⟨os,hos,hcs,hds⟩:=id hs
 unfold Builtin.Slice.sliceApplied Builtin.Slice.sliceFields
 refine wpAny_bind (wpAny_bind (wpAny_field hos hds (x:=vl) rfl (wpAny_bind (wpAny_field hos hds (x:=vu) rfl (wpAny_bind (wpAny_field hos hds (x:=.none) rfl (wpAny_pure ?_)))))))
 refine wpAny_bind (slicePart_none ?_)
 show wpAny _ _ (if ((1:Int) == 0)=true then _ else _) _ _ s
 rw [if_neg (by decide)]
 refine wpAny_bind (jM pl (wpAny_bind (jM pu (wpAny_bind (wpAny_pure ?_)))))
 show wpAny _ _ (match Builtin.Slice.sliceAdjust lo hi 1 (n:Int) with | (lo,hi)=>pure (lo,(1:Int),Builtin.Slice.slicePlaces lo hi 1)) _ _ s
 rw [pY lo hi n]
 show wpAny _ _ (pure (((sIx n 0 lo:Nat):Int),(1:Int),Builtin.Slice.slicePlaces ((sIx n 0 lo:Nat):Int) ((sIx n n hi:Nat):Int) 1)) _ _ s
 rw [pZ]
 exact wpAny_pure h
theorem vM (xs:Array Value) (i k:Nat):((List.range k).filterMap fun (m:Nat)=>xs[((i:Int)+(m:Int) * 1).toNat]?).toArray=((xs.toList.drop i).take k).toArray:=by
 have e:(fun (m:Nat)=>xs[((i:Int)+(m:Int) * 1).toNat]?)=fun m=>xs[i+m]?:=by
  funext m
  have:((i:Int)+(m:Int) * 1).toNat=i+m:=by omega
  rw [this]
 rw [e]
 have:=pick_run xs i k
 rw [List.filterMap_map] at this
 have e2:((fun x=>xs[x]?) ∘ fun x=>i+x)=fun m=>xs[i+m]?:=rfl
 rw [e2] at this
 rw [this]
theorem gG {t sl:Addr} {items:Array Value} {vl vu:Value} {lo hi:Option Int} {Q:Value->Shared->Prop} (ht:IsTup s.heap t items) (hs:s.heap.IsSliceOf sl vl vu .none) (pl:IsPart vl lo) (pu:IsPart vu hi)
  (hw:¬ (sIx items.size 0 lo=0/\sIx items.size items.size hi=items.size))
  (h:Q (.ref s.heap.objs.size) { s with heap:=s.heap.push { cls:=.type "tuple", data:=.seq ((items.toList.drop (sIx items.size 0 lo)).take (sIx items.size items.size hi - sIx items.size 0 lo)).toArray } })
  (hsz:items.size<=sizeLine):wpAny (model prog w) A (getItem (.ref t) (.ref sl)) Q E s:=by
 have htake:sizeOk (.seq ((items.toList.drop (sIx items.size 0 lo)).take (sIx items.size items.size hi - sIx items.size 0 lo)).toArray):=by
  show ((items.toList.drop (sIx items.size 0 lo)).take (sIx items.size items.size hi - sIx items.size 0 lo)).toArray.size<=sizeLine
  rw [List.size_toArray,List.length_take,List.length_drop,Array.length_toList]
  omega
 have hj:sIx items.size items.size hi<=items.size:=D0 _ _ (Nat.le_refl _) hi
 obtain ⟨os,hos,hcs,hds⟩:=id hs
 have hTs:s.TypeIs (.ref sl) "slice" := ⟨os,hos,hcs⟩
 unfold getItem
 try with_reducible refine wpAny_holding ?_
 first | refine wpAny_bind (wpAny_pure ?_) | skip
 refine wpAny_bind (wpAny_sequenceKey ht.typeIs (by decide) ?_)
 refine wpAny_bind (wpAny_callSpecial?_slot (name:=Str.ofString "__getitem__") ht.typeIs PyProof.Rows.slot_tuple_getitem
  (wpAny_call_entry PyProof.Rows.slot_tuple_getitem ht.typeIs entry_tuple_getitem ?_ (args_tuple_getitem _ _)))
 show wpAny _ _ (Builtin.Tuple.tupleItemsOf (.ref t) >>= _) _ _ s
 refine wpAny_bind (tupleItemsOf_ ht ?_)
 refine wpAny_bind (wpAny_typeOf hTs ?_)
 rw [if_pos (by decide)]
 refine wpAny_bind (dn hs pl pu ?_)
 have hno:¬ ((((sIx items.size 0 lo:Nat):Int) == 0 && (1:Int) == 1 && (sIx items.size items.size hi - sIx items.size 0 lo) == items.size)=true):=by
  intro q
  rw [bAE,bAE] at q
  have q1:((sIx items.size 0 lo:Nat):Int)=0:=eq_of_beq q.1.1
  have q2:sIx items.size items.size hi - sIx items.size 0 lo=items.size:=eq_of_beq q.2
  exact hw ⟨by omega,by omega⟩
 show wpAny _ _ (if (((sIx items.size 0 lo:Nat):Int) == 0 && (1:Int) == 1 && (sIx items.size items.size hi - sIx items.size 0 lo) == items.size)=true then _ else _) _ _ s
 rw [if_neg hno,vM]
 first
  | exact wpAny_bind (m:=Builtin.Tuple.tupleExact _) (wpAny_newObj_type (wpAny_pure ⟨_,rfl,wpAny_pure h⟩) htake)
  | exact wpAny_bind (m:=Builtin.Tuple.tupleExact _) (wpAny_newObj_type (wpAny_bind (wpAny_pure (wpAny_pure ⟨_,rfl,wpAny_pure h⟩))) htake)
  | exact wpAny_bind (wpAny_bind (m:=Builtin.Tuple.tupleExact _) (wpAny_newObj_type (wpAny_pure (wpAny_pure ⟨_,rfl,wpAny_pure h⟩)) htake))
  | exact wpAny_bind (wpAny_bind (m:=Builtin.Tuple.tupleExact _) (wpAny_newObj_type (wpAny_pure ⟨_,rfl,wpAny_pure h⟩) htake))
end
end HT
namespace L2
open PySem PySem.Spec PyProof.Rows
noncomputable abbrev TO:=St->Hp->(Option Int->Hp->Prop)->Prop
noncomputable def PO (X:Cx) (e:Option Expr) (t:TO):Prop:=
 ∀ (pins:List (Addr × Obj)) (s:Shared) (σ:St) (H:Hp) (Q:Option Int->Hp->Prop),Inv X pins σ H s->t σ H Q ->
  wpAny (model X.prog X.w) X.A (evalPart e X.env) (fun u s'=>∃ o H',Inv X pins σ H' s'/\IsPart u o/\Q o H') X.xe s
noncomputable def rE:TO:=fun _ H Q=>Q none H
noncomputable def CU (t:TE):TO:=fun σ H Q=>t σ H fun x H1=>∃ i,x = .int i/\Q (some i) H1
section
variable {X:Cx} {e:Expr} {te:TE} {lo hi:Option Expr} {tl th:TO} {pos p2:Pos}
theorem zp:PO X none rE:=by
 intro pins s σ H Q I h
 rw [evalPart_none]
 exact wpAny_pure ⟨none,H,I,.none,h⟩
theorem zq (h:PE X e te):PO X (some e) (CU te):=by
 intro pins s σ H Q I hw
 rw [evalPart_some]
 refine thn (h pins s σ H _ I hw) fun u s1 ⟨x,H1,I1,r1,q1⟩=>?_
 obtain ⟨i,rfl,q⟩:=q1
 obtain ⟨t,rfl⟩:=r1
 exact ⟨some i,H1,I1,.int i t,q⟩
noncomputable def SlR (X:Cx) (r:V->Option Int->Option Int->Hp->VK->Prop):Prop:=
 ∀ (pins:List (Addr × Obj)) (s:Shared) (σ:St) (H:Hp) (x:V) (v vl vu:Value) (lo hi:Option Int) (sl:Addr) (Q:VK),Inv X pins σ H s->aJ x v->s.heap.IsSliceOf sl vl vu .none->IsPart vl lo->IsPart vu hi->r x lo hi H Q ->
  ∃ T id,typeLookup (.type T) "__getitem__" = pure (some (.builtin id))/\s.TypeIs v T/\wpAny (model X.prog X.w) X.A (getItem v (.ref sl)) (EP X pins σ Q) X.xe s
theorem SlR.or {r r':V->Option Int->Option Int->Hp->VK->Prop} (h:SlR X r) (h':SlR X r'):SlR X (fun x lo hi H Q=>r x lo hi H Q\/r' x lo hi H Q):=by
 intro pins s σ H x v vl vu lo hi sl Q I rx hs pl pu q
 rcases q with q | q
 ·exact h pins s σ H x v vl vu lo hi sl Q I rx hs pl pu q
 ·exact h' pins s σ H x v vl vu lo hi sl Q I rx hs pl pu q
noncomputable def tSl (r:V->Option Int->Option Int->Hp->VK->Prop) (te:TE) (tl th:TO):TE:=fun σ H Q=>te σ H fun x H1=>tl σ H1 fun l H2=>th σ H2 fun u H3=>r x l u H3 Q
theorem vN {r:V->Option Int->Option Int->Hp->VK->Prop} (hr:SlR X r) (he:PE X e te) (hl:PO X lo tl) (hu:PO X hi th):PE X (.Subscript e (.Slice lo hi none p2) pos) (tSl r te tl th):=by
 intro pins s σ H Q I h
 refine Subscript_ (thn (he pins s σ H _ I h) fun v s1 ⟨x,H1,I1,r1,q1⟩=>?_)
 refine wpAny_Slice (thn (hl pins s1 σ H1 _ I1 q1) fun vl s2 ⟨l,H2,I2,pl,q2⟩=>thn (hu pins s2 σ H2 _ I2 q2) fun vu s3 ⟨u,H3,I3,pu,q3⟩=>?_)
 rw [evalPart_none]
 refine wpAny_pure ?_
 have I4:Inv X pins σ H3 { s3 with heap:=s3.heap.push { cls:=.type "slice", data:=.fields #[vl,vu,.none] } }:=I3.kept (t':=s3.toks) fun b ob q=>Heap.get?_push_of_some _ q
 obtain ⟨T,id,hT,ht,hg⟩:=hr pins { s3 with heap:=s3.heap.push { cls:=.type "slice", data:=.fields #[vl,vu,.none] } } σ H3 x v vl vu l u s3.heap.objs.size Q I4 r1 (Heap.IsSliceOf.new ..) pl pu q3
 show wpAny (model X.prog X.w) X.A (subscriptTail e (.Slice lo hi none p2) v (.ref s3.heap.objs.size)) (EP X pins σ Q) X.xe { s3 with heap:=s3.heap.push { cls:=.type "slice", data:=.fields #[vl,vu,.none] } }
 exact tail_any (ops:=[.ref s3.heap.objs.size,v]) ht hT hg (by with_unfolding_all rfl)
noncomputable def jN (xs:List V) (lo hi:Option Int):List V:=(xs.drop (HT.sIx xs.length 0 lo)).take (HT.sIx xs.length xs.length hi - HT.sIx xs.length 0 lo)
theorem iX (xs:List V) (lo hi:Option Int):(jN xs lo hi).length<=xs.length:=by
 unfold jN
 rw [List.length_take,List.length_drop]
 omega
noncomputable def KP (K:PySem.W.Frag):V->Option Int->Option Int->Hp->VK->Prop:=fun x lo hi H Q=>∃ a xs,x = .ref a/\SqT K H a xs ∧
 ¬ (HT.sIx xs.length 0 lo=0/\HT.sIx xs.length xs.length hi=xs.length)/\∀ p,H p=none->Q (.ref p) (upd H p (.tup (jN xs lo hi)))
theorem D1:SlR X (KP X.K):=by
 intro pins s σ H x v vl vu lo hi sl Q I rx hs pl pu h
 obtain ⟨a,xs,rfl,hx,hw,q⟩:=h
 cases rx
 obtain ⟨its,r,ht,hz⟩:=I.tuple hx
 have hlen:its.toArray.size=xs.length:=by rw [List.size_toArray];exact r.length.symm
 refine ⟨"tuple", _,PyProof.Rows.slot_tuple_getitem.lookup,ht.typeIs,?_⟩
 refine HT.gG ht hs pl pu (by rw [hlen];exact hw) ?_ (by rw [hlen];exact hz)
 rw [hlen]
 refine ⟨.ref s.heap.objs.size,_,I.laid (t':=s.toks) (o:=.tup (jN xs lo hi)) (fun b ob q=>Heap.get?_push_of_some _ q) (Nat.le_refl _) ?_,rfl,q _ (I.hok.fresh (Nat.le_refl _))⟩
 exact ⟨Nat.le_trans (iX xs lo hi) hz,_,(r.drop (HT.sIx xs.length 0 lo)).take (HT.sIx xs.length xs.length hi - HT.sIx xs.length 0 lo),l9.new _ _⟩
noncomputable def II (K:PySem.W.Frag):R2:=fun x y H Q=>∃ a b xs ys,x = .ref a/\y = .ref b/\SqT K H a xs/\SqT K H b ys/\xs ≠ []/\xs.length+ys.length<=sizeLine ∧
 (ys=[]->Q (.ref a) H)/\(ys ≠ []->∀ p,H p=none->Q (.ref p) (upd H p (.tup (xs++ys))))
theorem aK.nil_iff {xs:List V} {us:List Value} (r:aK xs us):us=[] ↔ xs=[]:=by
 cases r with
 | nil=>simp
 | cons _ _=>simp
theorem zr:OpR X (binaryOp .Add) (II X.K):=by
 intro pins s σ H x y v u Q I rx ry h
 obtain ⟨a,b,xs,ys,rfl,rfl,ha,hb,hx,hz,q1,q2⟩:=h
 cases rx
 cases ry
 obtain ⟨its,r1,p1,_⟩:=I.tuple ha
 obtain ⟨its2,r2,p2,_⟩:=I.tuple hb
 refine HT.zo p1 p2 (fun z=>hx (r1.nil_iff.mp z)) (fun z=>⟨.ref a,H,I,rfl,q1 (r2.nil_iff.mp z)⟩) (fun z=>?_) (by rw [<-r1.length,<-r2.length];exact hz)
 refine ⟨.ref s.heap.objs.size,_,I.laid (t':=s.toks) (o:=.tup (xs++ys)) (fun b ob q=>Heap.get?_push_of_some _ q) (Nat.le_refl _) ?_,rfl,q2 (fun w=>z (r2.nil_iff.mpr w)) _ (I.hok.fresh (Nat.le_refl _))⟩
 exact ⟨by rw [List.length_append];exact hz,_,r1.append r2,l9.new _ _⟩
end
end L2
namespace L2
open PySem PySem.Spec PyProof.Rows
noncomputable def ixN (n:Nat) (i:Int):Option Nat:=if 0<=i then (if i < n then some i.toNat else none) else if -(n:Int)<=i then some (i+n).toNat else none
noncomputable def atI {α:Type} (xs:List α) (i:Int):Option α:=(ixN xs.length i).bind fun j=>xs[j]?
theorem mf {n:Nat} {i:Int} {j:Nat} (h:ixN n i=some j):seqIndex? i n=some j/\j < n/\-(n:Int)<=i/\i < n:=by
 unfold ixN at h
 by_cases h0:0<=i
 ·rw [if_pos h0] at h
  by_cases h1:i < n
  ·rw [if_pos h1] at h
   have e:i.toNat=j:=Option.some.inj h
   exact ⟨by rw [seqIndex_of h0 h1,e],by omega,by omega,h1⟩
  ·rw [if_neg h1] at h;cases h
 ·rw [if_neg h0] at h
  by_cases h1:-(n:Int)<=i
  ·rw [if_pos h1] at h
   have e:(i+n).toNat=j:=Option.some.inj h
   exact ⟨by rw [seqIndex_neg (by omega) h1,e],by omega,h1,by omega⟩
  ·rw [if_neg h1] at h;cases h
theorem mh {α:Type} {xs:List α} {i:Int} {v:α} (h:atI xs i=some v):∃ j,seqIndex? i xs.length=some j/\xs[j]?=some v/\j < xs.length/\-(xs.length:Int)<=i/\i < xs.length:=by
 unfold atI at h
 cases e:ixN xs.length i with
 | none=>rw [e] at h;cases h
 | some j=>
  rw [e] at h
  obtain ⟨h1,h2,h3,h4⟩:=mf e
  exact ⟨j,h1,h,h2,h3,h4⟩
theorem mi {α:Type} {xs:List α} {j:Nat} {v:α} (h:xs[j]?=some v):atI xs (j:Int)=some v:=by
 have hj:j < xs.length:=(List.getElem?_eq_some_iff.mp h).1
 have e:ixN xs.length (j:Int)=some j:=by
  unfold ixN
  rw [if_pos (by omega),if_pos (by omega)];simp
 unfold atI;rw [e];exact h
noncomputable def rF (b:Expr):Prop:=∀ o i,subscripted b false o i=operate [o,i] (getItem o i)
noncomputable def IxR (X:Cx) (r:R2):Prop:=
 ∀ (value slice:Expr) (pins:List (Addr × Obj)) (s:Shared) (σ:St) (H:Hp) (x y:V) (v u:Value) (Q:VK),Inv X pins σ H s->aJ x v->aJ y u->r x y H Q ->
  subscripted slice false v u=operate [v,u] (getItem v u)->wpAny (model X.prog X.w) X.A (subscriptTail value slice v u) (EP X pins σ Q) X.xe s
noncomputable def MtR (X:Cx) (id:String) (r:V->List V->Hp->VK->Prop):Prop:=
 ∀ (pins:List (Addr × Obj)) (s:Shared) (σ:St) (H:Hp) (x:V) (xs:List V) (v:Value) (us:List Value) (Q:VK),Inv X pins σ H s->aJ x v->aK xs us->r x xs H Q ->
  wpAny (model X.prog X.w) X.A (call (.builtin id) (v::us)) (EP X pins σ Q) X.xe s
section
variable {X:Cx} {a b:Expr} {ta tb:TE} {pos:Pos}
theorem IxR.or {r r':R2} (h:IxR X r) (h':IxR X r'):IxR X (fun x y H Q=>r x y H Q\/r' x y H Q):=by
 intro value slice pins s σ H x y v u Q I rx ry q hs
 rcases q with q | q
 ·exact h value slice pins s σ H x y v u Q I rx ry q hs
 ·exact h' value slice pins s σ H x y v u Q I rx ry q hs
theorem CV {r:R2} (hr:IxR X r) (ha:PE X a ta) (hb:PE X b tb) (hs:rF b):PE X (.Subscript a b pos) (tOp r ta tb):=by
 intro pins s σ H Q I h
 exact Subscript_ (DN ha hb I h fun v u s2 x y H2 I2 rx ry q=>hr a b pins s2 σ H2 x y v u Q I2 rx ry q (hs _ _))
noncomputable def IJ (K:PySem.W.Frag):R2:=fun x y H Q=>∃ p xs i v,x = .ref p/\y = .int i/\SqL K H p xs/\atI xs i=some v/\Q v H
noncomputable def IK (K:PySem.W.Frag):R2:=fun x y H Q=>∃ p xs i v,x = .ref p/\y = .int i/\SqT K H p xs/\atI xs i=some v/\Q v H
noncomputable def IL:R2:=fun x y H Q=>∃ z i c,x = .str z/\y = .int i/\z.length<=sizeLine/\atI z.cps.toList i=some c/\Q (.str ⟨#[c]⟩) H
theorem KH:IxR X (IJ X.K):=by
 intro value slice pins s σ H x y v u Q I rx ry h hs
 obtain ⟨p,xs,i,z,rfl,rfl,hq,he,q⟩:=h
 cases rx
 obtain ⟨t,rfl⟩:=ry
 obtain ⟨its,r,pl,hz⟩:=I.list hq
 obtain ⟨j,h1,h2,h3,h4,h5⟩:=mh he
 obtain ⟨w,ew,rw'⟩:=r.get h2
 have hl:=r.length
 have hn:=iq
 have fin:EP X pins σ Q w s:=⟨z,H,I,rw',q⟩
 by_cases h0:0<=i
 ·have hj:i.toNat=j:=by
   rw [seqIndex_of h0 h5] at h1
   exact Option.some.inj h1
  exact item_listR pl.isList h0 (by omega) (by rw [hj];simpa using ew) fin hs
 ·have hj:(i+(its.toArray.size:Int)).toNat=j:=by
   rw [seqIndex_neg (by omega) h4] at h1
   rw [List.size_toArray,<-hl]
   exact Option.some.inj h1
  exact subscriptTail_builtinR (x:=w) pl.isList.typeIs slot_list_getitem.lookup
   (wpAny_getItem_list_neg (Q:=fun r s'=>r=w/\EP X pins σ Q r s') pl.isList (by omega) (by rw [List.size_toArray] <;> omega) (by omega) (by rw [hj];simpa using ew) ⟨rfl,fin⟩) hs
theorem D2:IxR X (IK X.K):=by
 intro value slice pins s σ H x y v u Q I rx ry h hs
 obtain ⟨p,xs,i,z,rfl,rfl,hq,he,q⟩:=h
 cases rx
 obtain ⟨t,rfl⟩:=ry
 obtain ⟨its,r,pl,hz⟩:=I.tuple hq
 obtain ⟨j,h1,h2,h3,h4,h5⟩:=mh he
 obtain ⟨w,ew,rw'⟩:=r.get h2
 have hl:=r.length
 have hn:=iq
 have fin:EP X pins σ Q w s:=⟨z,H,I,rw',q⟩
 exact subscriptTail_builtinR (x:=w) pl.typeIs slot_tuple_getitem.lookup
  (getItem_tuple (j:=j) (Q:=fun r s'=>r=w/\EP X pins σ Q r s') pl (by omega) (by omega) (by rw [List.size_toArray,<-hl];exact h1) (by simpa using ew) ⟨rfl,fin⟩) hs
theorem D3:IxR X IL:=by
 intro value slice pins s σ H x y v u Q I rx ry h hs
 obtain ⟨z,i,c,rfl,rfl,hz,he,q⟩:=h
 obtain ⟨t,rfl⟩:=rx
 obtain ⟨t',rfl⟩:=ry
 obtain ⟨j,h1,h2,h3,h4,h5⟩:=mh he
 have hl:z.cps.toList.length=z.length:=by simp [Str.length]
 rw [hl] at h1 h4 h5
 have hn:=iq
 exact tail_any (typeIs_str s z t) slot_str_getitem.lookup (getItem_str (c:=c) (by
  have e1:decide (i < -(2 ^ 63:Int))=false:=decide_eq_false (by omega)
  have e2:decide (i ≥ 2 ^ 63)=false:=decide_eq_false (by omega)
  rw [e1,e2,Bool.or_false]) (by rw [h1];simpa using h2) ⟨.str ⟨#[c]⟩,H,I.tok _,⟨_,rfl⟩,q⟩) hs
noncomputable def rIx (K:PySem.W.Frag):R2:=fun x y H Q=>IJ K x y H Q\/IK K x y H Q\/IL x y H Q
theorem vO:IxR X (rIx X.K):=KH.or (D2.or D3)
theorem p0 (its:List Value) (n j:Nat) (u:Value):Obj.mapSeq (·.setIfInBounds j u) { cls:=.type "list", data:=.seq its.toArray n }={ cls:=.type "list", data:=.seq (its.set j u).toArray n }:=by
 simp [Obj.mapSeq]
theorem Inv.lst {pins:List (Addr × Obj)} {σ:St} {H:Hp} {s:Shared} {p:Addr} {xs:List V} (I:Inv X pins σ H s) (h:H p=some (.lst xs)) :
  ∃ (its:List Value) (n:Nat),aK xs its/\s.heap.get? p=some { cls:=.type "list", data:=.seq its.toArray n }/\xs.length<=sizeLine:=by
 obtain ⟨z,its,n,r,e⟩:=I.hok p _ h
 exact ⟨its,n,r,e,z⟩
theorem Inv.lstUpd {pins:List (Addr × Obj)} {σ:St} {H:Hp} {s:Shared} {p:Addr} {xs ys:List V} {its its':List Value} {n n':Nat} {f:Obj->Obj} (I:Inv X pins σ H s) (h:H p=some (.lst xs))
  (ho:s.heap.get? p=some { cls:=.type "list", data:=.seq its.toArray n }) (hf:f { cls:=.type "list", data:=.seq its.toArray n }={ cls:=.type "list", data:=.seq its'.toArray n' }) (r:aK ys its') (hz:ys.length<=sizeLine) (t:Nat) :
  Inv X pins σ (upd H p (.lst ys)) { s with heap:=s.heap.update p f,toks:=t }:=by
 have e:(s.heap.update p f).get? p=some { cls:=.type "list", data:=.seq its'.toArray n' }:=by
  rw [Heap.get?_update_self f ho (by rw [hf] <;> rfl),hf]
 refine I.write (x:=p) (e:=p) (by rw [h];trivial) (.inl rfl) (fun b u hb q=>(Heap.get?_update_other _ _ (Ne.symm hb)).trans q) ⟨_,e⟩ ?_
 exact ⟨hz,its',n',r,e⟩
noncomputable def IM:V->V->V->Hp->(Hp->Prop)->Prop:=fun o i v H Q=>∃ p xs k j,o = .ref p/\i = .int k/\H p=some (.lst xs)/\ixN xs.length k=some j/\Q (upd H p (.lst (xs.set j v)))
theorem vP:DG X IM:=by
 intro pins s σ H o i v ov iv u Q I ro ri rv h
 obtain ⟨p,xs,k,j,rfl,rfl,hp,hj,q⟩:=h
 cases ro
 obtain ⟨t,rfl⟩:=ri
 obtain ⟨its,n,r,ho,hz⟩:=I.lst hp
 obtain ⟨h1,h2,h3,h4⟩:=mf hj
 have hl:=r.length
 have hn:=iq
 have I':Inv X pins σ (upd H p (.lst (xs.set j v))) { s with heap:=s.heap.update p (Obj.mapSeq (·.setIfInBounds j u)) }:=
  I.lstUpd hp ho (p0 its n j u) (r.set rv j) (by rw [List.length_set];exact hz) s.toks
 by_cases h0:0<=k
 ·have hk:k.toNat=j:=by
   rw [seqIndex_of h0 h4] at h1
   exact Option.some.inj h1
  exact PySem.W.ki_setAt ho h0 (by omega) (by rw [List.size_toArray,<-hl];exact h4) (by rw [hk];exact ⟨_,I',q⟩)
 ·have hk:(k+(its.toArray.size:Int)).toNat=j:=by
   rw [seqIndex_neg (by omega) h3] at h1
   rw [List.size_toArray,<-hl]
   exact Option.some.inj h1
  exact PySem.W.ki_setBack ho (by omega) (by rw [List.size_toArray,<-hl];exact h3) (by omega) (by rw [hk];exact ⟨_,I',q⟩)
theorem mj (lo hi:Option Int) (n:Nat):(sliceBounds lo hi none n).1=((HT.sIx n 0 lo:Nat):Int)/\(sliceBounds lo hi none n).2.1=((HT.sIx n n hi:Nat):Int)/\(sliceBounds lo hi none n).2.2=1:=by
 refine ⟨?_,?_,rfl⟩
 ·cases lo with
  | none=>simp [sliceBounds,HT.sIx]
  | some i=>
   simp only [sliceBounds,HT.sIx,Option.getD_none,show (1:Int) > 0 by decide,if_true]
   by_cases h:i < 0
   ·simp only [h,if_true] <;> omega
   ·simp only [h,if_false] <;> omega
 ·cases hi with
  | none=>simp [sliceBounds,HT.sIx]
  | some i=>
   simp only [sliceBounds,HT.sIx,Option.getD_none,show (1:Int) > 0 by decide,if_true]
   by_cases h:i < 0
   ·simp only [h,if_true] <;> omega
   ·simp only [h,if_false] <;> omega
theorem kR (its:List Value) (lo hi:Option Int):slicePick its.toArray lo hi none=((its.drop (HT.sIx its.length 0 lo)).take (HT.sIx its.length its.length hi - HT.sIx its.length 0 lo)).toArray:=by
 obtain ⟨h1,h2,h3⟩:=mj lo hi its.toArray.size
 unfold slicePick
 rw [h1,h2,h3]
 simp only [sliceRange_one,pick_run,List.size_toArray] <;> rfl
noncomputable def KQ (K:PySem.W.Frag):V->Option Int->Option Int->Hp->VK->Prop:=fun x lo hi H Q=>∃ a xs,x = .ref a/\SqL K H a xs/\∀ p,H p=none->Q (.ref p) (upd H p (.lst (jN xs lo hi)))
theorem zt:SlR X (KQ X.K):=by
 intro pins s σ H x v vl vu lo hi sl Q I rx hs pl pu h
 obtain ⟨a,xs,rfl,hx,q⟩:=h
 cases rx
 obtain ⟨its,r,ht,hz⟩:=I.list hx
 have hlen:=r.length
 refine ⟨"list", _,slot_list_getitem.lookup,ht.isList.typeIs,?_⟩
 refine wpAny_getItem_list_slice ht.isList hs pl pu .none (by simp) ?_ (by rw [List.size_toArray] <;> omega)
 rw [kR,<-hlen]
 refine ⟨.ref s.heap.objs.size,_,I.laid (t':=s.toks) (o:=.lst (jN xs lo hi)) (fun b ob q=>Heap.get?_push_of_some _ q) (Nat.le_refl _) ?_,rfl,q _ (I.hok.fresh (Nat.le_refl _))⟩
 exact ⟨Nat.le_trans (iX xs lo hi) hz,_,0,(r.drop (HT.sIx xs.length 0 lo)).take (HT.sIx xs.length xs.length hi - HT.sIx xs.length 0 lo),Heap.get?_push_size _ rfl⟩
noncomputable def dq:V->Bool
 | .non=>true
 | .bl _=>true
 | .int _=>true
 | .str _=>true
 | _=>false
noncomputable def eqV:V->V->Bool
 | .non,.non=>true
 | .bl a,.bl b=>a == b
 | .bl a,.int b=>(if a then 1 else 0) == b
 | .int a,.bl b=>a == (if b then 1 else 0)
 | .int a,.int b=>a == b
 | .str a,.str b=>a == b
 | _,_=>false
theorem D4 {A:Around} {s:Shared} {y x:V} {u v:Value} (ry:aJ y u) (rx:aJ x v) (fy:dq y=true) (fx:dq x=true):SeqAt.EqAt A s u v (eqV y x):=by
 cases y with
 | non=>
  cases ry
  cases x with
  | non=>cases rx;exact SeqAt.EqAt.same _
  | bl b=>cases rx;exact SeqAt.EqAt.none_bool b
  | int b=>obtain ⟨t,rfl⟩:=rx;exact SeqAt.EqAt.none_int b t
  | str b=>obtain ⟨t,rfl⟩:=rx;exact SeqAt.EqAt.none_str b t
  | _=>exact absurd (show false=true from fx) Bool.false_ne_true
 | bl a=>
  cases ry
  cases x with
  | non=>cases rx;exact SeqAt.EqAt.bool_none a
  | bl b=>cases rx;exact SeqAt.EqAt.bool_bool a b
  | int b=>obtain ⟨t,rfl⟩:=rx;exact SeqAt.EqAt.bool_int a b t
  | str b=>obtain ⟨t,rfl⟩:=rx;exact SeqAt.EqAt.bool_str a b t
  | _=>exact absurd (show false=true from fx) Bool.false_ne_true
 | int a=>
  obtain ⟨t',rfl⟩:=ry
  cases x with
  | non=>cases rx;exact SeqAt.EqAt.int_none a t'
  | bl b=>cases rx;exact SeqAt.EqAt.int_bool a t' b
  | int b=>obtain ⟨t,rfl⟩:=rx;exact SeqAt.EqAt.int_int a t' b t
  | str b=>obtain ⟨t,rfl⟩:=rx;exact SeqAt.EqAt.int_str a t' b t
  | _=>exact absurd (show false=true from fx) Bool.false_ne_true
 | str a=>
  obtain ⟨t',rfl⟩:=ry
  cases x with
  | non=>cases rx;exact SeqAt.EqAt.str_none a t'
  | bl b=>cases rx;exact SeqAt.EqAt.str_bool a t' b
  | int b=>obtain ⟨t,rfl⟩:=rx;exact SeqAt.EqAt.str_int a t' b t
  | str b=>obtain ⟨t,rfl⟩:=rx;exact SeqAt.EqAt.str_str a t' b t
  | _=>exact absurd (show false=true from fx) Bool.false_ne_true
 | _=>exact absurd (show false=true from fy) Bool.false_ne_true
noncomputable def eqU (x:V) (u:Value):Bool:=match u with
 | .none=>eqV .non x
 | .bool b=>eqV (.bl b) x
 | .int i _=>eqV (.int i) x
 | .str z _=>eqV (.str z) x
 | _=>false
theorem p9 {x y:V} {u:Value} (r:aJ y u) (f:dq y=true):eqU x u=eqV y x:=by
 cases y with
 | non=>cases r;rfl
 | bl b=>cases r;rfl
 | int i=>obtain ⟨t,rfl⟩:=r;rfl
 | str z=>obtain ⟨t,rfl⟩:=r;rfl
 | _=>exact absurd (show false=true from f) Bool.false_ne_true
theorem gH {x:V}:∀ {xs:List V} {us:List Value},aK xs us->xs.all dq=true->us.any (eqU x)=xs.any fun y=>eqV y x
 | _,_,.nil,_=>rfl
 | y::xs,u::us,.cons r t,f=>by
  rw [List.all_cons,bAE] at f
  rw [List.any_cons,List.any_cons,p9 r f.1,gH t f.2]
theorem dr {A:Around} {s:Shared} {x:V} {v:Value} (rx:aJ x v) (fx:dq x=true):∀ {xs:List V} {us:List Value},aK xs us->xs.all dq=true->∀ u ∈ us,SeqAt.EqAt A s u v (eqU x u)
 | _,_,.nil,_=>fun u hu=>by cases hu
 | y::xs,u::us,.cons r t,f=>fun u' hu=>by
  rw [List.all_cons,bAE] at f
  rcases List.mem_cons.mp hu with rfl | hu
  ·rw [p9 r f.1];exact D4 r rx f.1 fx
  ·exact dr rx fx t f.2 u' hu
noncomputable def inV (x:V) (xs:List V):Bool:=xs.any fun y=>eqV y x
noncomputable def rIn (K:PySem.W.Frag) (neg:Bool):R2:=fun x y H Q=>∃ p xs,y = .ref p/\(SqL K H p xs\/SqT K H p xs)/\dq x=true/\xs.all dq=true/\Q (.bl (if neg then !inV x xs else inV x xs)) H
theorem tP:OpR X (compareOp .In) (rIn X.K false):=by
 intro pins s σ H x y v u Q I rx ry h
 obtain ⟨p,xs,rfl,hq,fx,fs,q⟩:=h
 cases ry
 rcases hq with hq | hq
 ·obtain ⟨its,r,pl,hz⟩:=I.list hq
  refine SeqAt.in_listAt (eqU x) pl.isList (fun w hw=>dr rx fx r fs w (by simpa using hw)) ⟨.bl _,H,I,rfl,?_⟩
  rw [show its.toArray.any (eqU x)=its.any (eqU x) by simp,gH r fs]
  exact q
 ·obtain ⟨its,r,pl,hz⟩:=I.tuple hq
  refine SeqAt.in_tupleAt (eqU x) pl (fun w hw=>dr rx fx r fs w (by simpa using hw)) ⟨.bl _,H,I,rfl,?_⟩
  rw [show its.toArray.any (eqU x)=its.any (eqU x) by simp,gH r fs]
  exact q
theorem ml:OpR X (compareOp .NotIn) (rIn X.K true):=by
 intro pins s σ H x y v u Q I rx ry h
 obtain ⟨p,xs,rfl,hq,fx,fs,q⟩:=h
 cases ry
 rcases hq with hq | hq
 ·obtain ⟨its,r,pl,hz⟩:=I.list hq
  refine SeqAt.notIn_listAt (eqU x) pl.isList (fun w hw=>dr rx fx r fs w (by simpa using hw)) ⟨.bl _,H,I,rfl,?_⟩
  rw [show its.toArray.any (eqU x)=its.any (eqU x) by simp,gH r fs]
  exact q
 ·obtain ⟨its,r,pl,hz⟩:=I.tuple hq
  refine SeqAt.notIn_tupleAt (eqU x) pl (fun w hw=>dr rx fx r fs w (by simpa using hw)) ⟨.bl _,H,I,rfl,?_⟩
  rw [show its.toArray.any (eqU x)=its.any (eqU x) by simp,gH r fs]
  exact q
theorem mo:aN X (.builtin "len") (fun xs H Q=>∃ p ys,xs=[.ref p]/\(SqL X.K H p ys\/SqT X.K H p ys)/\Q (.int ys.length) H):=by
 intro pins s σ H xs us Q I r h
 obtain ⟨p,ys,rfl,hq,q⟩:=h
 obtain ⟨u,rfl,rx⟩:=cr r
 cases rx
 have hn:=iq
 rcases hq with hq | hq
 ·obtain ⟨its,r',pl,hz⟩:=I.list hq
  have hlen:=r'.length
  exact Calls.call_len_list pl.isList (by simp only [List.size_toArray] <;> omega) ⟨.int ys.length,H,I.tok _,⟨s.toks+1,by rw [List.size_toArray,hlen]⟩,q⟩
 ·obtain ⟨its,r',pl,hz⟩:=I.tuple hq
  have hlen:=r'.length
  exact len_tuple pl (by simp only [List.size_toArray] <;> omega) ⟨.int ys.length,H,I.tok _,⟨s.toks+1,by rw [List.size_toArray,hlen]⟩,q⟩
theorem mq:aN X (.type "list") (fun xs H Q=>∃ p ys,xs=[.ref p]/\(SqL X.K H p ys\/SqT X.K H p ys)/\∀ l,H l=none->Q (.ref l) (upd H l (.lst ys))):=by
 intro pins s σ H xs us Q I r h
 obtain ⟨p,ys,rfl,hq,q⟩:=h
 obtain ⟨u,rfl,rx⟩:=cr r
 cases rx
 have fin:∀ (its:List Value),aK ys its->ys.length<=sizeLine->∀ (h':Heap) (c':Nat),(∀ b o',s.heap.get? b=some o'->h'.get? b=some o') ->
   h'.get? s.heap.objs.size=some { cls:=.type "list", dict:=none,data:=.seq its.toArray c',slots:=#[] }->EP X pins σ Q (.ref s.heap.objs.size) { s with heap:=h' }:=fun its r' hz h' c' kp e=>
  ⟨.ref s.heap.objs.size,_,I.laid (t':=s.toks) kp (Nat.le_refl _) (show bA X.prog X.w _ h' _ (.lst ys) from ⟨hz,its,c',r',e⟩),rfl,q _ (I.hok.fresh (Nat.le_refl _))⟩
 rcases hq with hq | hq
 ·obtain ⟨its,r',pl,hz⟩:=I.list hq
  have hlen:=r'.length
  obtain ⟨o,ho,hc,n,hd⟩:=pl.isList
  exact call_list_seq p (.inl rfl) ho hc hd (fun h' c' kp e=>fin its r' hz h' c' kp e) (by simp only [List.size_toArray] <;> omega)
 ·obtain ⟨its,r',pl,hz⟩:=I.tuple hq
  have hlen:=r'.length
  obtain ⟨o,ho,hc,n,hd⟩:=pl
  exact call_list_seq p (.inr rfl) ho hc hd (fun h' c' kp e=>fin its r' hz h' c' kp e) (by simp only [List.size_toArray] <;> omega)
theorem kS:aN X (.type "tuple") (fun xs H Q=>∃ p ys,xs=[.ref p]/\((SqL X.K H p ys/\∀ l,H l=none->Q (.ref l) (upd H l (.tup ys)))\/(SqT X.K H p ys/\Q (.ref p) H))):=by
 intro pins s σ H xs us Q I r h
 obtain ⟨p,ys,rfl,h⟩:=h
 obtain ⟨u,rfl,rx⟩:=cr r
 cases rx
 rcases h with ⟨hq,q⟩ | ⟨hq,q⟩
 ·obtain ⟨its,r',pl,hz⟩:=I.list hq
  have hlen:=r'.length
  refine call_tuple_list pl.isList (fun h' kp=>?_) (by simp only [List.size_toArray] <;> omega)
  have I1:Inv X pins σ H { s with heap:=h' }:=I.kept (t':=s.toks) kp
  have I2:Inv X pins σ (upd H h'.objs.size (.tup ys)) { s with heap:=h'.push { cls:=.type "tuple", data:=.seq its.toArray } }:=
   I1.laid (t':=s.toks) (fun b o e=>Heap.get?_push_of_some _ e) (Nat.le_refl _) (show bA X.prog X.w _ _ _ (.tup ys) from ⟨hz,its,r',l9.new _ _⟩)
  exact ⟨.ref h'.objs.size,_,I2,rfl,q _ (I1.hok.fresh (Nat.le_refl _))⟩
 ·obtain ⟨its,r',pl,hz⟩:=I.tuple hq
  exact call_tuple_same pl ⟨.ref p,H,I,rfl,q⟩
noncomputable def tyV (K:PySem.W.Frag) (T:String) (x:V) (H:Hp):Prop:=match x with
 | .str _=>T = "str"
 | .int _=>T = "int"
 | .ref p=>(T = "list"/\∃ xs,SqL K H p xs)\/(T = "tuple"/\((∃ o,K.lookup p=some o/\o.cls = .type "tuple"/\o.dict=none)\/∃ xs,H p=some (.tup xs))) ∨
   (T = "dict"/\((∃ kvs,H p=some (.dK kvs))\/∃ kvs,H p=some (.dT kvs)))\/(T = "set"/\∃ S n,H p=some (.set S n))
 | _=>False
theorem vQ {pins:List (Addr × Obj)} {σ:St} {H:Hp} {s:Shared} {T:String} {x:V} {v:Value} (I:Inv X pins σ H s) (r:aJ x v) (ty:tyV X.K T x H) :
  s.TypeIs v T/\∀ a,v = .ref a->∃ ob,s.heap.get? a=some ob/\ob.dict=none:=by
 cases x with
 | str z=>
  obtain ⟨t,rfl⟩:=r
  cases (show T = "str" from ty)
  exact ⟨typeIs_str s z t,fun _ e=>nomatch e⟩
 | int i=>
  obtain ⟨t,rfl⟩:=r
  cases (show T = "int" from ty)
  exact ⟨typeIs_int s i t,fun _ e=>nomatch e⟩
 | ref p=>
  cases r
  rcases ty with ⟨rfl,xs,hq⟩ | ⟨rfl,⟨o,hk,hc,hd⟩ | ⟨xs,hk⟩⟩ | ⟨rfl,hk⟩ | ⟨rfl,S,n,hk⟩
  ·obtain ⟨its,_,pl,_⟩:=I.list hq
   refine ⟨pl.isList.typeIs,fun a e=>?_⟩
   cases e
   obtain ⟨o,n,e,c,hd,_⟩:=pl
   exact ⟨o,e,hd⟩
  ·refine ⟨⟨o,I.kIn p o hk,hc⟩,fun a e=>?_⟩
   cases e
   exact ⟨o,I.kIn _ o hk,hd⟩
  ·obtain ⟨_,its,_,o,e,hc,_,_,hd⟩:=I.hok p _ hk
   refine ⟨⟨o,e,hc⟩,fun a e2=>?_⟩
   cases e2
   exact ⟨o,e,hd⟩
  ·have z:∃ o,s.heap.get? p=some o/\o.ExactDict:=by
    rcases hk with ⟨kvs,hk⟩ | ⟨kvs,hk⟩
    ·obtain ⟨_,_,_,_,o,_,_,e,ex,_⟩:=I.hok p _ hk
     exact ⟨o,e,ex⟩
    ·obtain ⟨_,_,_,_,o,_,_,e,ex,_⟩:=I.hok p _ hk
     exact ⟨o,e,ex⟩
   obtain ⟨o,e,ex⟩:=z
   refine ⟨⟨o,e,ex.1⟩,fun a e2=>?_⟩
   cases e2
   exact ⟨o,e,ex.2.1⟩
  ·obtain ⟨o,_,_,_,e,ex,_⟩:=I.hok p _ hk
   refine ⟨⟨o,e,ex.1⟩,fun a e2=>?_⟩
   cases e2
   exact ⟨o,e,ex.2.1⟩
 | _=>exact False.elim ty
noncomputable def IO (K:PySem.W.Frag) (T:String) (r:V->List V->Hp->VK->Prop) (to:TE):TE:=fun σ H Q=>to σ H fun x H1=>tyV K T x H1/\r x [] H1 Q
noncomputable def tBM (K:PySem.W.Frag) (T:String) (r:V->List V->Hp->VK->Prop) (to:TE) (t:TA):TE:=fun σ H Q=>to σ H fun x H1=>tyV K T x H1/\t σ H1 fun xs H2=>r x xs H2 Q
variable {o e:Expr} {es:List Expr} {to:TE} {t:TA} {name:Str} {apos cpos:Pos} {T id:String} {r:V->List V->Hp->VK->Prop}
theorem D5 (pa:PlainAttrs T) (slot:Slot T name id) (hty:typeOf (.builtin id)=pure (.type "method_descriptor")) (hm:MtR X id r) (ho:PE X o to)
  (hbase:attributeBase o name X.env (eval o X.env)=eval o X.env:=by rfl) (hline:(apos.endLine == cpos.line)=true:=by rfl):PE X (.Call (.Attribute o name apos) [] [] cpos) (IO X.K T r to):=by
 intro pins s σ H Q I h
 refine wpAny_Call_method0_late hbase hline (thn (ho pins s σ H _ I h) fun v s1 ⟨x,H1,I1,r1,ty,q1⟩=>?_)
 obtain ⟨h1,h2⟩:=vQ I1 r1 ty
 exact ⟨T,id,pa,slot,hty,h1,h2,Calls.callWith_builtin rfl (PySem.evalArgs_none (hm pins s1 σ H1 x [] v [] Q I1 r1 .nil q1))⟩
theorem vR (pa:PlainAttrs T) (slot:Slot T name id) (hty:typeOf (.builtin id)=pure (.type "method_descriptor")) (hm:MtR X id r) (ho:PE X o to) (ha:PA X (e::es) t)
  (hbase:attributeBase o name X.env (eval o X.env)=eval o X.env:=by rfl)
  (hfew:((backTo cpos (starEach (e::es) X.env)).all (fun x=>!x.1) && (backToKw cpos (keywordEach [] X.env)).all (fun x=>x.1.isSome)
   && decide ((e::es).length+([]:List Keyword).length+(if ([]:List Keyword).isEmpty then 0 else 1) < 30))=true:=by rfl)
  (hline:(apos.endLine == cpos.line)=true:=by rfl) (hs:starEach (e::es) X.env=(false,eval e X.env)::starEach es X.env:=by rfl) (hplain:(backTo cpos (starEach es X.env)).any (·.1)=false:=by rfl) :
  PE X (.Call (.Attribute o name apos) (e::es) [] cpos) (tBM X.K T r to t):=by
 intro pins s σ H Q I h
 refine wpAny_Call_method_late hbase hfew hline rfl (thn (ho pins s σ H _ I h) fun v s1 ⟨x,H1,I1,r1,ty,q1⟩=>?_)
 obtain ⟨h1,h2⟩:=vQ I1 r1 ty
 refine ⟨T,id,pa,slot,hty,h1,h2,?_⟩
 have hA:=ha cpos pins s1 σ H1 _ I1 q1
 rw [hs] at hA ⊢
 refine Calls.callWith_builtin (by show (false || (backTo cpos (starEach es X.env)).any (·.1))=false;rw [hplain] <;> rfl) (Calls.evalArgs_plain ?_)
 exact thn hA fun us s2 ⟨vs,H2,I2,r2,q2⟩=>hm pins s2 σ H2 x vs v us Q I2 r1 r2 q2
end
end L2
namespace L2
open PySem PySem.Spec PyProof.Rows
noncomputable def MtM (X:Cx) (id:String) (r:V->List V->Hp->VK->Prop):Prop:=
 ∀ (pins:List (Addr × Obj)) (s:Shared) (σ:St) (H:Hp) (x:V) (xs:List V) (v:Value) (us:List Value) (Q:VK),Inv X pins σ H s->aJ x v->aK xs us->r x xs H Q ->
  wpAny (model X.prog X.w) X.A (call (.builtin id) (v::us)) (EP X pins σ Q) X.xe s
theorem aK.one:∀ {x:V} {us:List Value},aK [x] us->∃ u,us=[u]/\aJ x u
 | _,_,.cons r .nil=>⟨_,rfl,r⟩
theorem aK.zero:∀ {us:List Value},aK [] us->us=[]
 | _,.nil=>rfl
theorem aK.dropLast {xs:List V} {us:List Value} (h:aK xs us):aK xs.dropLast us.dropLast:=by
 induction h with
 | nil=>exact .nil
 | cons r t ih=>
  cases t with
  | nil=>exact .nil
  | cons q t'=>exact .cons r ih
theorem aK.eraseIdx:∀ {xs:List V} {us:List Value} (i:Nat),aK xs us->aK (xs.eraseIdx i) (us.eraseIdx i)
 | _,_,_,.nil=>.nil
 | _,_,0,.cons _ t=>t
 | _,_,i+1,.cons r t=>.cons r (aK.eraseIdx i t)
theorem aK.rep {xs:List V} {us:List Value} (h:aK xs us):∀ k:Nat,aK (List.replicate k xs).flatten (List.replicate k us).flatten
 | 0=>.nil
 | k+1=>by
  rw [List.replicate_succ,List.replicate_succ,List.flatten_cons,List.flatten_cons]
  exact aK.append h (aK.rep h k)
theorem gb {α:Type} (l:List α):l.eraseIdx (l.length - 1)=l.dropLast:=by
 induction l with
 | nil=>rfl
 | cons a r ih=>
  cases r with
  | nil=>rfl
  | cons b r=>
   have e:(a::b::r).length - 1=((b::r).length - 1)+1:=by
    have h1:(a::b::r).length=r.length+2:=rfl
    have h2:(b::r).length=r.length+1:=rfl
    omega
   rw [e,List.eraseIdx_cons_succ,ih]
   all_goals rfl
theorem lx {α:Type}:∀ (l:List α) (i:Nat),(l.eraseIdx i).length<=l.length
 | [],_=>Nat.le_refl _
 | _::_,0=>Nat.le_succ _
 | _::r,i+1=>Nat.succ_le_succ (lx r i)
theorem iu (its:List Value):∀ (k:Nat) (acc:List Value),
  List.foldl (fun x1 x2=>x1++x2) acc.toArray (List.replicate k its.toArray)=(acc++(List.replicate k its).flatten).toArray
 | 0,acc=>by simp
 | k+1,acc=>by
  have e:acc.toArray++its.toArray=(acc++its).toArray:=by simp
  have e2:(acc++its)++(List.replicate k its).flatten=acc++(List.replicate (k+1) its).flatten:=by
   rw [List.replicate_succ,List.flatten_cons,List.append_assoc]
  rw [<-e2,<-iu its k (acc++its),<-e,List.replicate_succ,List.foldl_cons]
section
variable {X:Cx} {pins:List (Addr × Obj)} {σ:St} {H:Hp} {s:Shared} {l b:Addr} {xs ys zs:List V}
theorem Inv.lset {its its':List Value} {n:Nat} {f:Array Value->Array Value} {t':Nat} (I:Inv X pins σ H s) (hH:H l=some (.lst xs))
  (e:s.heap.get? l=some { cls:=.type "list", data:=.seq its.toArray n }) (hf:f its.toArray=its'.toArray) (hv:aK ys its') (hz:ys.length<=sizeLine) :
  Inv X pins σ (upd H l (.lst ys)) { s with heap:=s.heap.update l (Obj.mapSeq f),toks:=t' }:=by
 have q:=PySem.IsL.update e f
 rw [hf] at q
 refine I.write (x:=l) (e:=l) (by rw [hH];exact trivial) (.inl rfl) (fun b' u hb hu=>(Heap.get?_update_other s.heap (Obj.mapSeq f) (Ne.symm hb)).trans hu) ⟨_,q⟩ ?_
 exact ⟨hz,its',_,hv,q⟩
theorem Inv.lnew {its:List Value} {t':Nat} (I:Inv X pins σ H s) (hv:aK ys its) (hz:ys.length<=sizeLine) :
  Inv X pins σ (upd H s.heap.objs.size (.lst ys)) { s with heap:=s.heap.push { cls:=.type "list", data:=.seq its.toArray },toks:=t' }:=
 I.laid (fun _ _ q=>Heap.get?_push_of_some _ q) (Nat.le_refl _) ⟨hz,its,0,hv,Heap.get?_push_size _ rfl⟩
theorem Inv.fresh (I:Inv X pins σ H s):H s.heap.objs.size=none:=I.hok.fresh (Nat.le_refl _)
theorem Inv.lstM (I:Inv X pins σ H s) (hH:H l=some (.lst xs)):xs.length<=sizeLine/\∃ (its:List Value) (n:Nat),aK xs its/\xs.length=its.length/\s.heap.get? l=some { cls:=.type "list", data:=.seq its.toArray n }:=by
 obtain ⟨z,its,n,r,e⟩:=I.hok l _ hH
 exact ⟨z,its,n,r,r.length,e⟩
end
section
variable {X:Cx}
noncomputable def zu:V->List V->Hp->VK->Prop:=fun x vs H Q=>∃ l xs y,x = .ref l/\vs=[y]/\H l=some (.lst xs)/\xs.length < sizeLine/\Q .non (upd H l (.lst (xs++[y])))
theorem ly:MtM X "list.append" zu:=by
 intro pins s σ H x vs v us Q I rx rv h
 obtain ⟨l,xs,y,rfl,rfl,hH,hz,q⟩:=h
 cases rx
 obtain ⟨u,rfl,ru⟩:=rv.one
 obtain ⟨z,its,n,r,hl,e⟩:=I.lstM hH
 refine call_meets F.slot_list_append ⟨_,e,rfl⟩ F.entry_list_append (F.args_list_append_2 _ _) (PySem.list_append l its.toArray n u (by rw [List.size_toArray];omega)) ⟨e,?_⟩
 refine ⟨.non,_,I.lset (its':=its++[u]) hH e (by simp) (r.append (.cons ru .nil)) ?_,rfl,q⟩
 rw [List.length_append,List.length_singleton]
 omega
noncomputable def KR:V->List V->Hp->VK->Prop:=fun x vs H Q=>∃ l xs y,x = .ref l/\vs=[]/\H l=some (.lst xs)/\xs[xs.length - 1]?=some y/\Q y (upd H l (.lst xs.dropLast))
theorem D6:MtM X "list.pop" KR:=by
 intro pins s σ H x vs v us Q I rx rv h
 obtain ⟨l,xs,y,rfl,rfl,hH,hy,q⟩:=h
 cases rx
 have hus:=rv.zero
 subst hus
 obtain ⟨z,its,n,r,hl,e⟩:=I.lstM hH
 obtain ⟨u,hu,ru⟩:=r.get hy
 have hy':its.toArray[its.toArray.size - 1]?=some u:=by
  show its.toArray[its.length - 1]?=some u
  rw [<-Array.getElem?_toList,<-hl]
  exact hu
 refine call_meets F.slot_list_pop ⟨_,e,rfl⟩ F.entry_list_pop (F.args_list_pop_1 _) (MeetsSeq.list_pop_last l its.toArray n u hy' (by rw [List.size_toArray];omega)) ⟨e,?_⟩
 refine ⟨y,_,I.lset (its':=its.dropLast) hH e ?_ r.dropLast ?_,ru,q⟩
 ·show its.toArray.eraseIdxIfInBounds (its.toArray.size - 1)=its.dropLast.toArray
  rw [List.size_toArray,List.eraseIdxIfInBounds_toArray,gb]
 ·rw [List.length_dropLast]
  omega
noncomputable def D7:V->List V->Hp->VK->Prop:=fun x vs H Q=>∃ l xs i k y,x = .ref l/\vs=[.int i]/\H l=some (.lst xs)/\-(2 ^ 63)<=i/\i < 2 ^ 63/\seqIndex? i xs.length=some k/\xs[k]?=some y/\Q y (upd H l (.lst (xs.eraseIdx k)))
theorem vS:MtM X "list.pop" D7:=by
 intro pins s σ H x vs v us Q I rx rv h
 obtain ⟨l,xs,i,k,y,rfl,rfl,hH,h1,h2,hk,hy,q⟩:=h
 cases rx
 obtain ⟨u,rfl,ru⟩:=rv.one
 obtain ⟨t,rfl⟩:=ru
 obtain ⟨z,its,n,r,hl,e⟩:=I.lstM hH
 obtain ⟨w,hw,rw'⟩:=r.get hy
 refine call_meets F.slot_list_pop ⟨_,e,rfl⟩ F.entry_list_pop (F.args_list_pop_2 _ _)
  (MeetsSeq.list_pop_at l its.toArray n i t k w (fitsIndex_both h1 h2) (by rw [List.size_toArray,<-hl];exact hk) (by rw [<-Array.getElem?_toList];exact hw) (by rw [List.size_toArray];omega)) ⟨e,?_⟩
 refine ⟨y,_,I.lset (its':=its.eraseIdx k) hH e ?_ (r.eraseIdx k) ?_,rw',q⟩
 ·show its.toArray.eraseIdxIfInBounds k=(its.eraseIdx k).toArray
  rw [List.eraseIdxIfInBounds_toArray]
 ·have:=lx xs k
  omega
theorem rG {α:Type} (xs:List α) (k:Nat):(List.replicate k xs).flatten.length=k * xs.length:=by
 induction k with
 | zero=>simp
 | succ k ih=>rw [List.replicate_succ,List.flatten_cons,List.length_append,ih,Nat.succ_mul,Nat.add_comm]
end
end L2
namespace Att
open PySem PySem.W PySem.Calls PyProof.Rows
theorem jq {P:Params} {h:Heap}:∀ (ns:List Int) (vs:List Value),WellAll P h vs (ns.map WData.int)->IntsAre vs ns:=by
 intro ns
 induction ns with
 | nil=>
  intro vs w
  rw [List.map_nil] at w
  cases w
  exact .nil
 | cons n ns ih=>
  intro vs w
  rw [List.map_cons] at w
  cases w with
  | cons a b=>
   cases a
   exact .cons _ _ (ih _ b)
theorem tQ {l:OpenLaw} {n:Nat} (hn:l.most=some n) {P:Params} {h:Heap} {args:List WData} {vals:List Value}
  (hpre:l.row.toRowW.claim.pre args=true) (hwl:WellAll P h vals args) :
  ∃ a vs ns,vals=[Value.ref a]/\args=[WData.list (ns.map WData.int)]/\h.get? a=some { cls:=.type "list", data:=.seq vs.toArray }/\IntsAre vs ns/\ns.length<=n:=by
 have hsh:WShape.hasAll [] args [.list .int]=true:=(pre_splitW hpre).1
 have hc:l.pre.holds [] { args:=args }=true:=(pre_splitW hpre).2
 obtain ⟨d,r,rfl,h1,h2⟩:=hasAllW_cons hsh
 obtain rfl:=hasAllW_nil h2
 obtain ⟨xs,rfl,h3⟩:=hasW_list h1
 obtain ⟨ns,rfl⟩:=items_int h3
 have hlen:ns.length<=n:=by
  unfold OpenLaw.pre at hc
  have h4:(WTm.not (.lt (.lit (.int (n:Int))) (.len (.arg 0)))).holds [] { args:=[.list (ns.map .int)] }=true:=by
   have h4:=(holds_andW hc).1
   rw [hn] at h4
   exact h4
  have h5:=condW_of h4 (w_not (w_lt w_lit (w_len_list (w_arg rfl))))
  rw [List.length_map] at h5
  refine Nat.le_of_not_lt fun q=>?_
  have q':(n:Int) < ((ns.length:Nat):Int):=by omega
  first
   | (rw [decide_eq_true q'] at h5;exact absurd h5 (by decide))
   | (simp at h5;omega)
 cases hwl with
 | cons w1 w2=>
  cases w2
  cases w1 with
  | list ho hall=>exact ⟨_,_,ns,rfl,rfl,ho,jq ns _ hall,hlen⟩
theorem tR (l:OpenLaw) (args:List WData):l.row.toRowW.claim.post args (.bool true) args=true:=
 postW_of (r:=l.row.toRowW) (X:=(true == true))
  (show WShape.has [] (.bool true) .bool=true by first | rfl | decide | simp [WShape.has,WShape.arms,WShape.armsAll])
  (show (WTm.eq .res (.lit (.bool true))).value [] { args:=args,res:=some (.bool true),after:=args }=some (.bool (true == true)) from w_eq_bool (w_res rfl) w_lit) rfl
theorem attach_call {l:OpenLaw} {n:Nat} {q:Program} {loose:List Str} {XP:(Str->Option Value)->Heap->Prop} {YP:World->Heap->Prop} {d:DefRec}
  (hn:l.most=some n) (hdf:d.params.defaults=[])
  (call:∀ (w:World) (s₀ s₁:Shared) (mg mb:Str->Option Value) (fa:Addr) (o:Obj) (pm cd doc:Value) (a:Addr) (vs:List Value) (ns:List Int),
   Ground q loose [] XP w s₀ mg mb s₁.heap->YP w s₁.heap ->
   s₁.heap.get? fa=some o->o.data = .func (docDef d.name d.params d.body d.scope pm cd doc)->s₁.heap.CodeRec cd d.name->mg d.name=some (.ref fa) ->
   s₁.heap.get? a=some { cls:=.type "list", data:=.seq vs.toArray }->IntsAre vs ns->ns.length<=n->s₁.gens=#[] ->
   codeAny (model l.prog w) callerA (.call (.ref fa) ⟨[.ref a],[]⟩) (fun r s'=>r = .ok (.ret (.bool true))/\OldK s₁.heap s'.heap/\s'.os=s₁.os/\AllBare s'.gens) s₁) :
  WalkO q loose XP YP l.row.toRowW d [] (fun f vs=>PySem.call f vs):=by
 intro w s₀ s₁ mg mb G Y fa o pm cd doc dV kV ho hd hcd hD hmg hg args vals as hpre hlay hrd hwl hlo
 obtain rfl:dV = .none:=Dflts.none hD hdf
 obtain rfl:kV = .none:=Dflts.noKw hD
 obtain ⟨a,vs,ns,rfl,rfl,hobj,hints,hlen⟩:=tQ hn hpre hwl
 refine enter_call (codeAny_mono (call w s₀ s₁ mg mb fa o pm cd doc a vs ns G Y ho (fd_plain hd) hcd hmg hobj hints hlen hg) fun r s' hq=>?_)
 obtain ⟨rfl,h2,h3,h4⟩:=hq
 exact ⟨.inl ⟨.bool true,.bool true,[],rfl,fun _=>rfl,.bool true,tR l _,fun _=>⟨List.Pairwise.nil,fun _ hm=>(nomatch hm)⟩⟩,h2,h3,h4⟩
end Att
namespace L2
open PySem PySem.Spec PyProof.Rows
theorem iw:∀ {vs:List Value} {ns:List Int},IntsAre vs ns->aK (ns.map V.int) vs
 | _,_,.nil=>.nil
 | _,_,.cons n t h=>.cons ⟨t,rfl⟩ (iw h)
noncomputable def IP (H:Hp):Prop:=∀ b,H b=none\/∃ o xs,H b=some (.frz o (.lst xs))
theorem vT {P:Program} {w:World} {K:PySem.W.Frag} {mg mb:Str->Option Value} {CX:CXT} {k:Nat} {fa a:Addr} {fd:FuncData} {x:Str} {sp:Sp} {s₁:Shared} {vs:List Value} {ns:List Int}
  (KX:K.In s₁.heap) (hns:s₁.heap.Ns mainGlobals mg) (hb:s₁.heap.Ns builtinsNs mb) (hbb:∀ x:Str,x ≠ "__name__"->mb x=bootBuiltins x) (hlim:s₁.heap.NoLimit) (hg:s₁.gens=#[])
  (ha:s₁.heap.get? a=some { cls:=.type "list", data:=.seq vs.toArray }) (hi:IntsAre vs ns) (hl:ns.length<=sizeLine) (hr:Room k callerA)
  (F:∀ base:Heap,K.In base->base.Ns mainGlobals mg->FnOk P w K mg base CX k fa fd [x] sp) (hbind:∀ (s:Shared) (u:Value),BindsTo s fd ⟨[u],[]⟩ [(x,u)])
  (hsp:∀ H:Hp,IP H->SqL K H a (ns.map V.int)->sp [.ref a] H (fun v _=>v = .bl true) fun _ _ _=>False)
  (hCX:∀ H e s',CX [] H s₁ (fun _ _ _=>False) e s'->False) :
  codeAny (model P w) callerA (.call (.ref fa) ⟨[.ref a],[]⟩) (fun r s'=>r = .ok (.ret (.bool true))/\OldK s₁.heap s'.heap/\s'.os=s₁.os/\AllBare s'.gens) s₁:=by
 have rv:=iw hi
 have lenV:=hi.length
 have core:∀ H:Hp,IP H->SqL K H a (ns.map V.int)->HOk P w H s₁.heap->(∀ b,H b ≠ none->b=a)->(H a ≠ none->K.lookup a=none) ->
   codeAny (model P w) callerA (.call (.ref fa) ⟨[.ref a],[]⟩) (fun r s'=>r = .ok (.ret (.bool true))/\OldK s₁.heap s'.heap/\s'.os=s₁.os/\AllBare s'.gens) s₁:=by
  intro H hO hS hok hA hK
  have base_of:∀ {b:Addr} {o:Obj},s₁.heap.get? b=some o->H b=none->(ma s₁.heap H).get? b=some o:=fun e n=>vg e n
  have noA:∀ {b:Addr} {o:Obj} {es:Array DictEntry} {ep:Nat},s₁.heap.get? b=some o->o.data = .dict es ep->H b=none:=fun {b o es ep} e d=>by
   cases q:H b with
   | none=>rfl
   | some u=>
    have e':b=a:=hA b (by rw [q];simp)
    subst e'
    rw [ha] at e;cases e
    have d':Data.seq vs.toArray _=Data.dict es ep:=d
    cases d'
  have nsK:∀ {b:Addr} {m:Str->Option Value},s₁.heap.Ns b m->(ma s₁.heap H).Ns b m:=fun {b m} ⟨o,es,ep,e,d,r⟩=>⟨o,es,ep,base_of e (noA e d),d,r⟩
  have hKb:K.In (ma s₁.heap H):=fun b o e=>base_of (KX b o e) (by
   cases q:H b with
   | none=>rfl
   | some u=>
    have e':b=a:=hA b (by rw [q];simp)
    subst e'
    rw [hK (by rw [q];simp)] at e;cases e)
  have hM:Mod K mg (ma s₁.heap H):=⟨hKb,nsK hns,⟨mb,nsK hb,hbb⟩,let ⟨mc,h1,h2⟩:=hlim;⟨mc,nsK h1,h2⟩⟩
  have e0:Env0 P w K mg (ma s₁.heap H) callerA [] s₁ H:=⟨rfl,hM,fun b o e=>yY e,Nat.le_of_eq (tD _ _),trivial,fun b hb=>absurd (show b ∈ ([]:List Addr) from hb) (by simp),hok,.of_eq hg⟩
  refine codeAny_mono ((F _ hKb (nsK hns)).run callerA [] s₁ H ⟨[.ref a],[]⟩ [.ref a] [.ref a] _ _ hr e0 (hbind s₁ (.ref a)) (.cons rfl .nil) (hsp H hO hS)) fun r s' h=>?_
  cases r with
  | error e=>exact (hCX H e s' h).elim
  | ok fl=>
   cases fl with
   | next=>exact False.elim h
   | brk=>exact False.elim h
   | cont=>exact False.elim h
   | ret u=>
    obtain ⟨v,H',os,bare,un,hok',r',q⟩:=h
    have q':v = .bl true:=q
    subst q'
    obtain rfl:u=Value.bool true:=r'
    refine ⟨rfl,OldK.of_keep fun b o e=>?_,os,bare⟩
    cases q:H b with
    | none=>exact un.keep b o e q (by intro z;exact absurd (show b ∈ ([]:List Addr) from z) (by simp)) (by simp)
    | some u=>
     rcases hO b with z | ⟨ob,xs,z⟩
     ·rw [q] at z;cases z
     ·have z2:=un.frzs b ob _ z
      obtain ⟨e1,_⟩:=hok b _ z
      obtain ⟨e2,_⟩:=hok' b _ z2
      rw [e] at e1;cases e1
      exact e2
 cases hk:K.lookup a with
 | some o=>
  have e:=KX a o hk
  rw [ha] at e
  cases e
  refine core (fun _=>none) (fun _=>.inl rfl) (.inr ⟨_,vs.toArray,_,hk,rfl,rfl,rfl,by rw [List.size_toArray,lenV];exact hl,by simpa using rv⟩) (fun b u z=>by have z':(none:Option HO)=some u:=z;cases z') (fun b z=>absurd rfl z) fun z=>absurd rfl z
 | none=>
  refine core (fun b=>if b=a then some (.frz { cls:=.type "list", data:=.seq vs.toArray } (.lst (ns.map V.int))) else none) (fun b=>?_) (.inl (.inr ⟨{ cls:=.type "list", data:=.seq vs.toArray },if_pos rfl⟩)) (fun b u z=>?_) (fun b z=>?_) fun _=>hk
  ·by_cases hb:b=a
   ·exact .inr ⟨_,_,if_pos hb⟩
   ·exact .inl (if_neg hb)
  ·by_cases hb:b=a
   ·have z':=(if_pos hb).symm.trans z
    cases z'
    subst hb
    exact ⟨ha,by rw [List.length_map];exact hl,vs,_,rv,ha⟩
   ·have z':=(if_neg hb).symm.trans z
    cases z'
  ·by_cases hb:b=a
   ·exact hb
   ·exact absurd (if_neg hb) z
end L2
namespace L2
open PySem PySem.Spec PyProof.Rows
noncomputable def dI (s:Stmt):Arguments:=match s with
 | .FunctionDef _ a _ _ _ _ _ _ _ _=>a
 | _=>{ posonlyargs:=[],args:=[],vararg:=none,kwonlyargs:=[],kw_defaults:=[],kwarg:=none,defaults:=[] }
noncomputable def b8 (s:Stmt):List Stmt:=match s with
 | .FunctionDef _ _ b _ _ _ _ _ _ _=>b
 | _=>[]
noncomputable def bm (s:Stmt):Scope:=match s with
 | .FunctionDef _ _ _ _ _ _ sc _ _ _=>sc
 | _=>{ kind:=.function,names:=[],isGenerator:=false,isCoroutine:=false }
noncomputable abbrev CX0:CXT:=fun _ _ _ _ _ _=>False
noncomputable abbrev E0:XK:=fun _ _ _=>False
theorem IQ {X:Cx}:pW CX0 X E0:=fun _ _ _ _ _ _ _ h=>h.elim
structure Fun (K:PySem.W.Frag) (x qual:Str) (st:Stmt) (f:Addr) (fd:FuncData):Prop where
 ex:∃ (oc:Value) (od:Option Addr) (kV doc pm:Value) (an:Option Addr) (cdv ct:Value) (osl:Array (Option Value)),
  fd=PySem.W.fnOf x qual (dI st) (b8 st) (bm st) .none kV doc pm an cdv ct/\K.lookup f=some ⟨oc,od,.func fd,osl⟩/\PySem.W.codeIn K cdv qual=true
 kp:PySem.W.keepIn K (.ref f)=true
section
variable {P:Program} {w:World} {K:PySem.W.Frag} {mg:Str->Option Value} {base:Heap}
theorem Fun.ok {x qual:Str} {st:Stmt} {f:Addr} {fd:FuncData} {N ps:List Str} {k:Nat} {sp:Sp} (F:Fun K x qual st f fd) (S:FnScope N ps (bm st)) (len:∀ vs H Q E,sp vs H Q E->vs.length=ps.length)
  (hbody:∀ (cdv:Value) (A:Around) (outer:List Env) (s:Shared) (H:Hp) (vs:List V) (Q:VK) (E:XK),Room k (A.deeper (envOfC qual (bm st) s.heap.objs.size f cdv))->sp vs H Q E ->
   ∃ t,PSs (pX CX0 P w K mg base N qual (bm st) f cdv A outer s H E).nox (b8 st) t/\t { nx:=fun _ H'=>Q .non H',rt:=Q } (fV N vs) H):FnOk P w K mg base CX0 (k+1) f fd ps sp:=by
 obtain ⟨oc,od,kV,doc,pm,an,cdv,ct,osl,rfl,lk,hcd⟩:=F.ex
 refine IH lk hcd S len fun A outer s H vs Q E hr hsp=>?_
 obtain ⟨t,h,q⟩:=hbody cdv A outer s H vs Q E hr hsp
 exact ⟨t,h.nox,q⟩
theorem Fun.binds {x qual:Str} {st:Stmt} {f:Addr} {fd:FuncData} {ps:List Str} (F:Fun K x qual st f fd)
  (h:∀ (kV doc pm:Value) (an:Option Addr) (cdv ct:Value) (us:List Value),us.length=ps.length->bindArgs (PySem.W.fnOf x qual (dI st) (b8 st) (bm st) .none kV doc pm an cdv ct) ⟨us,[]⟩=pure (ps.zip us)):lp K fd ps []:=by
 obtain ⟨oc,od,kV,doc,pm,an,cdv,ct,osl,rfl,lk,hcd⟩:=F.ex
 exact .all (h kV doc pm an cdv ct)
theorem D8 {x qual:Str} {st:Stmt} {f:Addr} {oc:Value} {od an:Option Addr} {osl:Array (Option Value)} {kV doc pm cdv ct:Value} (l:K.lookup f=some ⟨oc,od,.func (PySem.W.fnOf x qual (dI st) (b8 st) (bm st) .none kV doc pm an cdv ct),osl⟩)
  (c:PySem.W.codeIn K cdv qual=true) (k:PySem.W.keepIn K (.ref f)=true):Fun K x qual st f (PySem.W.fnOf x qual (dI st) (b8 st) (bm st) .none kV doc pm an cdv ct):=⟨⟨oc,od,kV,doc,pm,an,cdv,ct,osl,rfl,l,c⟩,k⟩
end
theorem tS {n:Nat} (h:n<=1000):n < sizeLine:=Nat.lt_of_le_of_lt h (by decide)
end L2
namespace L2
open PySem PySem.Spec PyProof.Rows
section
variable {κ:Type} [DecidableEq κ]
noncomputable def n8 (kvs:List (κ × V)) (k:κ) (v:V):List (κ × V):=
 if (kvs.any fun kv=>decide (kv.1=k))=true then kvs.map (fun kv=>if kv.1=k then (kv.1,v) else kv) else kvs++[(k,v)]
theorem n9 (kvs:List (κ × V)) (k:κ) (v:V):(n8 kvs k v).length<=kvs.length+1:=by
 unfold n8
 split
 ·rw [List.length_map];omega
 ·rw [List.length_append,List.length_cons,List.length_nil];omega
theorem KV.any {kvs:List (κ × V)} {vs:List (κ × Value)} (r:KV kvs vs) (k:κ):(kvs.any fun kv=>decide (kv.1=k))=vs.any fun kv=>decide (kv.1=k):=by
 unfold KV at r
 induction r with
 | nil=>rfl
 | cons h t ih=>rw [List.any_cons,List.any_cons,ih,h.1]
theorem KV.repl {kvs:List (κ × V)} {vs:List (κ × Value)} (r:KV kvs vs) (k:κ) {y:V} {u:Value} (ry:aJ y u) :
  KV (kvs.map fun kv=>if kv.1=k then (kv.1,y) else kv) (vs.map fun kv=>if kv.1=k then (kv.1,u) else kv):=by
 unfold KV at r ⊢
 induction r with
 | nil=>exact .nil
 | @cons p q ps qs h t ih=>
  rw [List.map_cons,List.map_cons]
  refine .cons ?_ ih
  obtain ⟨h1,h2⟩:=h
  by_cases e:p.1=k
  ·rw [if_pos e,if_pos (h1.symm.trans e)];exact ⟨h1,ry⟩
  ·rw [if_neg e,if_neg (fun z=>e (h1.trans z))];exact ⟨h1,h2⟩
theorem KV.put {kvs:List (κ × V)} {vs:List (κ × Value)} (r:KV kvs vs) (k:κ) {y:V} {u:Value} (ry:aJ y u):KV (n8 kvs k y) (stored vs k u):=by
 unfold n8 stored
 rw [r.any k]
 by_cases e:(vs.any fun kv=>decide (kv.1=k))=true
 ·rw [if_pos e,if_pos e];exact r.repl k ry
 ·rw [if_neg e,if_neg e];exact Paired.snoc r ⟨rfl,ry⟩
end
theorem IR {P:Program} {w:World} {k:Key} {u:Value} (r:aJ (kV k) u):(bD P w).is k u=true:=by
 cases k with
 | inl i=>obtain ⟨t,e⟩:=(show ∃ t,u=Value.int i t from r);subst e;exact nT P w i t
 | inr x=>obtain ⟨t,e⟩:=(show ∃ t,u=Value.str x t from r);subst e;exact nU P w x t
section
variable {P:Program} {w:World} {H:Hp} {h:Heap} {a:Addr}
theorem IS {u:HO} (ok:HOk P w H h) (e:Rd H a u):bA P w H h a u:=e.ok ok
theorem IT {kvs:List (Key × V)} (ok:HOk P w H h) (e:Rd H a (.dK kvs)):kvs.length<=sizeLine/\(a == sysModules)=false/\∃ vs,KV kvs vs/\h.DictOf (bD P w) a vs:=
 show bA P w H h a (.dK kvs) from IS ok e
theorem IU {kvs:List (Key × V)} (ok:HOk P w H h) (e:H a=some (.dK kvs)):kvs.length<=sizeLine/\(a == sysModules)=false/\∃ vs,KV kvs vs/\h.DictOf (bD P w) a vs:=IT ok (.inl e)
end
section
variable {X:Cx} {pins:List (Addr × Obj)} {σ:St} {H:Hp} {s:Shared} {a:Addr} {y v:V} {u r:Value} {o:Option V} {A:Around} {E:Value->Shared->Prop}
theorem Inv.big (I:Inv X pins σ H s):sysModules < s.heap.objs.size:=by
 have h:mainGlobals < s.heap.objs.size:=(I.mod.glob.keeps I.bk).lt
 exact Nat.lt_trans (by decide) h
theorem zv {h':Heap} {t':Nat} {ob:HO} (I:Inv X pins σ H s) (mu:Mut (H a)) (hs:Heap.SameBut a s.heap h') (he:∃ q,h'.get? a=some q) (new:bA X.prog X.w (upd H a ob) h' a ob) :
  Inv X pins σ (upd H a ob) { s with heap:=h',toks:=t' }:=
 I.write (x:=a) (e:=a) mu (.inl rfl) (fun b q hb z=>(hs.2 b hb).trans z) he new
theorem D9 {P:Program} {w:World} {H':Hp} {h':Heap} {kvs:List (Key × V)} {vs:List (Key × Value)} (z:kvs.length<=sizeLine) (hd:(a == sysModules)=false) (rel:KV kvs vs) (dd:h'.DictOf (bD P w) a vs) :
  bA P w H' h' a (.dK kvs):=⟨z,hd,vs,rel,dd⟩
end
theorem oe {P:Program} {w:World} {H:Hp} (h:Heap) (hb:sysModules < h.objs.size):bA P w H (h.push { cls:=.type "dict", data:=.dict #[] }) h.objs.size (.dK []):=
 ⟨Nat.zero_le _,beq_eq_false_iff_ne.mpr (Ne.symm (Nat.ne_of_lt hb)),[],.nil,Heap.DictOf.new h⟩
noncomputable def vU:TE:=fun _ H Q=>∀ p,H p=none->Q (.ref p) (upd H p (.dK []))
section
variable {X:Cx} {pos:Pos}
theorem vV:PE X (.Dict [] [] pos) vU:=fun pins s σ H Q I h=>
 wpAny_Dict_empty ⟨.ref s.heap.objs.size,_,I.laid (a:=s.heap.objs.size) (o:=.dK []) (t':=s.toks) (fun _ _ q=>Heap.get?_push_of_some _ q) (Nat.le_refl _) (oe s.heap I.big),rfl,h _ (I.hok.fresh (Nat.le_refl _))⟩
end
noncomputable def qa:List (TE × TE)->St->Hp->(List (V × V)->Hp->Prop)->Prop
 | [],_,H,Q=>Q [] H
 | (tk,tv)::r,σ,H,Q=>tk σ H fun x H1=>tv σ H1 fun y H2=>qa r σ H2 fun ps H3=>Q ((x,y)::ps) H3
noncomputable abbrev VV:List (V × V)->List (Value × Value)->Prop:=Paired fun p q=>aJ p.1 q.1/\aJ p.2 q.2
noncomputable def PPs (X:Cx) (pos:Pos) (keys:List (Option Expr)) (values:List Expr) (trs:List (TE × TE)):Prop:=
 ∀ (pins:List (Addr × Obj)) (s:Shared) (σ:St) (H:Hp) (Q:List (V × V)->Hp->Prop),Inv X pins σ H s->qa trs σ H Q ->
  wpAny (model X.prog X.w) X.A (evalPairs (pairTrees keys values X.env pos)) (fun vs s'=>∃ ps H',Inv X pins σ H' s'/\VV ps vs/\Q ps H') X.xe s
theorem zw {X:Cx} {pos:Pos}:PPs X pos [] [] []:=fun pins s σ H Q I h=>pairTrees_nil_walk ⟨[],H,I,.nil,h⟩
theorem vW {X:Cx} {pos:Pos} {k v:Expr} {ks:List (Option Expr)} {vs:List Expr} {tk tv:TE} {trs:List (TE × TE)} (hk:PE X k tk) (hv:PE X v tv) (hr:PPs X pos ks vs trs) :
  PPs X pos (some k::ks) (v::vs) ((tk,tv)::trs):=fun pins s σ H Q I h=>
 pairTrees_cons_walk (thn (hk pins s σ H _ I h) fun u s1 ⟨x,H1,I1,rx,q1⟩=>thn (hv pins s1 σ H1 _ I1 q1) fun w2 s2 ⟨y,H2,I2,ry,q2⟩=>
  thn (hr pins s2 σ H2 _ I2 q2) fun ws s3 ⟨ps,H3,I3,rel,q3⟩=>⟨(x,y)::ps,H3,I3,.cons ⟨rx,ry⟩ rel,q3⟩)
noncomputable def jO (kvs more:List (Key × V)):List (Key × V):=more.foldl (fun acc kv=>n8 acc kv.1 kv.2) kvs
theorem KV.merge:∀ {more:List (Key × V)} {rs:List (Key × Value)} {kvs:List (Key × V)} {vs:List (Key × Value)},KV more rs->KV kvs vs->KV (jO kvs more) (merged vs rs):=by
 intro more rs kvs vs r
 unfold KV at r
 induction r generalizing kvs vs with
 | nil=>intro q;exact q
 | @cons p q ps qs h t ih=>
  intro r0
  have e:KV (n8 kvs p.1 p.2) (stored vs q.1 q.2):=by
   have:=r0.put p.1 h.2
   rw [<-h.1];exact this
  exact ih e
theorem fW:∀ (more kvs:List (Key × V)),(jO kvs more).length<=kvs.length+more.length
 | [],kvs=>by show kvs.length<=kvs.length+0;omega
 | p::r,kvs=>by
  have h1:=fW r (n8 kvs p.1 p.2)
  have h2:=n9 kvs p.1 p.2
  show (jO (n8 kvs p.1 p.2) r).length<=_
  rw [List.length_cons];omega
theorem jP {P:Program} {w:World}:∀ {kvs:List (Key × V)} {ws:List (Value × Value)},VV (kvs.map fun kv=>(kV kv.1,kv.2)) ws->∃ rs,Carries (bD P w) ws rs/\KV kvs rs
 | [],_,r=>by rw [List.map_nil] at r;cases r;exact ⟨[],True.intro,.nil⟩
 | p::kvs,_,r=>by
  rw [List.map_cons] at r
  cases r with
  | @cons a b as bs h t=>
   obtain ⟨rs,c,q⟩:=jP (P:=P) (w:=w) t
   obtain ⟨b1,b2⟩:=b
   exact ⟨(p.1,b2)::rs,⟨IR h.1,rfl,c⟩,.cons ⟨rfl,h.2⟩ q⟩
noncomputable def vX (trs:List (TE × TE)):TE:=fun σ H Q=>∀ p,H p=none->qa trs σ (upd H p (.dK [])) fun ps H2=>H2 p=some (.dK [])/\∃ kvs:List (Key × V),ps=kvs.map (fun kv=>(kV kv.1,kv.2))/\kvs.length<=15/\Q (.ref p) (upd H2 p (.dK (jO [] kvs)))
theorem zx {X:Cx} {pos:Pos} {keys:List (Option Expr)} {values:List Expr} {trs:List (TE × TE)} (h:PPs X pos keys values trs) (hall:keys.all (·.isSome)=true) (hl:keys.length=values.length) (h0:keys ≠ [])
  (h15:keys.length<=15):PE X (.Dict keys values pos) (vX trs):=by
 intro pins s σ H Q I q
 have hn:=I.hok.fresh (Nat.le_refl s.heap.objs.size)
 have I1:=I.laid (a:=s.heap.objs.size) (o:=.dK []) (h':=s.heap.push { cls:=.type "dict", data:=.dict #[] }) (t':=s.toks) (fun _ _ q=>Heap.get?_push_of_some _ q) (Nat.le_refl _) (oe s.heap I.big)
 refine wpAny_Dict_walk (knd:=bD X.prog X.w) hall hl h0 h15 (thn (h pins _ σ _ _ I1 (q _ hn)) fun ws s2 ⟨ps,H2,I2,rel,e,kvs,ep,lk,q2⟩=>?_)
 subst ep
 obtain ⟨rs,c,rk⟩:=jP (P:=X.prog) (w:=X.w) rel
 obtain ⟨z,hd,vs0,r0,dd⟩:=IU I2.hok e
 cases r0
 refine ⟨rs,c,dd,fun h' dd' hs=>⟨.ref s.heap.objs.size,_,?_,rfl,q2⟩⟩
 have hz:(jO [] kvs).length<=sizeLine:=by
  have h1:=fW kvs []
  rw [List.length_nil] at h1
  rw [sizeLine_eq];omega
 have he:∃ q,h'.get? s.heap.objs.size=some q:=let ⟨q,_,_,hq,_⟩:=dd';⟨q,hq⟩
 exact zv I2 (by rw [e];exact True.intro) hs he (D9 hz hd (rk.merge .nil) dd')
end L2
namespace L2
open PySem PySem.Spec PyProof.Rows
noncomputable def mr (ifs:List Expr) (env:Env):Sem Bool:=
 forIn ifs true fun c r=>if r=true then do let ok <-isTrue c env (eval c env);pure (ForInStep.yield ok) else pure (ForInStep.yield r)
theorem zy {M:Model} {A:Around} {E:Value->Shared->Prop} {s:Shared} {elt tg iter:Expr} {ifs:List Expr} {gens:List Comprehension} {scope:Scope} {pos:Pos} {d:Nat} {it acc:Value} {env:Env} {Q:Fin->Shared->Prop}
  (hg:gens[d]?=some ⟨tg,iter,ifs,0⟩)
  (h:wpAny M A (pyNext it) (fun r s1=>match r with
   | none=>Q (.done .next) s1
   | some v=>wpAny M A (letOwnedTupleGo tg it v) (fun _ s2=>wpAny M A (assign tg env v) (fun _ s3=>wpAny M A (mr ifs env) (fun ok s4=>if ok=true then (match gens[d+1]? with
     | none=>wpAny M A (eval elt env) (fun x s5=>wpAny M A (call (.builtin "list.append") [acc,x]) (fun _ s6=>Q (.again (.compLoop (.ListComp elt gens scope pos) d it acc env)) s6) E s5) E s4
     | some g'=>g'.is_async=0/\wpAny M A (eval g'.iter env) (fun x s5=>wpAny M A (foldedSetIterable g'.iter env x) (fun x' s6=>wpAny M A (pyIter x') (fun it' s7=>
       wpAny M A (runOwn (.compStart (.ListComp elt gens scope pos) (d+1) it' acc env) env) (fun _ s8=>Q (.again (.compLoop (.ListComp elt gens scope pos) d it acc env)) s8) E s7) E s6) E s5) E s4)
    else Q (.again (.compLoop (.ListComp elt gens scope pos) d it acc env)) s4) E s3) E s2) E s1) E s) :
  wpAny M A (compTurn (.ListComp elt gens scope pos) d it acc env) Q E s:=by
 unfold compTurn
 simp only [hg]
 refine wpAny_bind (wpAny_standAt ?_)
 show wpAny M A (pyNext it >>= _) Q E s
 refine wpAny_bind (wpAny_mono h (fun r s1 h1=>?_) fun _ _ x=>x)
 cases r with
 | none=>exact wpAny_pure h1
 | some v=>
  refine wpAny_bind (wpAny_mono h1 (fun _ s2 h2=>?_) fun _ _ x=>x)
  refine wpAny_bind (wpAny_mono h2 (fun _ s3 h3=>?_) fun _ _ x=>x)
  refine wpAny_bind (wpAny_mono h3 (fun ok s4 h4=>?_) fun _ _ x=>x)
  cases ok with
  | false=>exact wpAny_pure h4
  | true=>
   simp only [if_true] at h4 ⊢
   cases hn:gens[d+1]? with
   | none=>
    rw [hn] at h4
    refine wpAny_bind (wpAny_bind (wpAny_mono h4 (fun x s5 h5=>?_) fun _ _ x=>x))
    exact wpAny_bind (wpAny_mono h5 (fun _ s6 h6=>wpAny_pure (wpAny_pure h6)) fun _ _ x=>x)
   | some g'=>
    rw [hn] at h4
    obtain ⟨ha,h4⟩:=h4
    refine wpAny_bind (wpAny_mono h4 (fun x s5 h5=>wpAny_bind (wpAny_standAt ?_)) fun _ _ x=>x)
    rw [ha]
    show wpAny M A (foldedSetIterable g'.iter env x >>= _) Q E s5
    refine wpAny_bind (wpAny_mono h5 (fun x' s6 h6=>?_) fun _ _ x=>x)
    refine wpAny_bind (wpAny_holding (wpAny_mono h6 (fun it' s7 h7=>?_) fun _ _ x=>x))
    exact wpAny_bind (wpAny_mono h7 (fun _ s8 h8=>wpAny_pure h8) fun _ _ x=>x)
end L2
namespace L2
open PySem PySem.Spec PyProof.Rows
noncomputable def bU (cells:List (Str × Addr)):List (Str × NameKind)->List (Str × Addr)->List (Str × Addr)
 | [],acc=>acc
 | (n,k)::r,acc=>if k == .free then bU cells r ((n,(cells.lookup n).getD 0)::acc) else bU cells r acc
theorem gc {env:Env}:∀ (names:List (Str × NameKind)) (acc:List (Str × Addr)),(∀ y ∈ names,y.2 = .free->∃ c,env.cells.lookup y.1=some c) ->
  (forIn names acc fun (x:Str × NameKind) (cs:List (Str × Addr))=>(match x with | (name,kind)=>if kind == .free then (do let a <-cellOf env name;pure (ForInStep.yield ((name,a)::cs))) else pure (ForInStep.yield cs):Sem (ForInStep (List (Str × Addr)))))
   = (pure (bU env.cells names acc):Sem (List (Str × Addr)))
 | [],acc,_=>by rw [List.forIn_nil];rfl
 | (n,k)::r,acc,h=>by
  rw [List.forIn_cons]
  have hr:∀ y ∈ r,y.2 = .free->∃ c,env.cells.lookup y.1=some c:=fun y hy=>h y (List.mem_cons_of_mem _ hy)
  cases hk:(k == NameKind.free) with
  | true=>
   obtain ⟨c,hc⟩:=h (n,k) List.mem_cons_self (by simpa using hk)
   have e:cellOf env n=pure c:=by unfold cellOf;rw [show env.cells.lookup n=some c from hc]
   simp only [hk,if_true,e,pure_bind]
   rw [gc r _ hr]
   conv=>rhs;rw [bU]
   simp only [hk,if_true]
   rw [show env.cells.lookup n=some c from hc]
   rfl
  | false=>
   simp only [hk,Bool.false_eq_true,if_false,pure_bind]
   rw [gc r _ hr]
   conv=>rhs;rw [bU]
   simp only [hk,Bool.false_eq_true,if_false]
theorem rH {env:Env} {scope:Scope} (h:∀ y ∈ scope.names,y.2 = .free->∃ c,env.cells.lookup y.1=some c):closureFor scope env=pure (bU env.cells scope.names []):=by
 have e:=gc (env:=env) scope.names [] h
 unfold closureFor
 refine Eq.trans ?_ e
 first
  | rfl
  | (rw [bind_pure])
  | (simp only [bind_pure])
theorem iy {cells:List (Str × Addr)}:∀ {names:List (Str × NameKind)} {acc:List (Str × Addr)} {x:Str} {c:Addr},(x,c) ∈ bU cells names acc->(x,c) ∈ acc\/((x,NameKind.free) ∈ names/\c=(cells.lookup x).getD 0)
 | [],_,_,_,h=>.inl h
 | (n,k)::r,acc,x,c,h=>by
  unfold bU at h
  split at h
  ·rename_i hk
   have hk':k = .free:=by simpa using hk
   rcases iy h with e | ⟨e,q⟩
   ·rcases List.mem_cons.mp e with e | e
    ·cases e;exact .inr ⟨by rw [hk'];exact List.mem_cons_self,rfl⟩
    ·exact .inl e
   ·exact .inr ⟨List.mem_cons_of_mem _ e,q⟩
  ·rcases iy h with e | ⟨e,q⟩
   ·exact .inl e
   ·exact .inr ⟨List.mem_cons_of_mem _ e,q⟩
theorem eP {x:Str}:∀ {l:List (Str × Addr)},(∃ c,(x,c) ∈ l)->∃ c,l.lookup x=some c
 | [],⟨_,h⟩=>nomatch h
 | (n,c)::r,⟨c',h⟩=>by
  rw [List.lookup_cons]
  cases hb:x == n with
  | true=>exact ⟨c,rfl⟩
  | false=>
   rcases List.mem_cons.mp h with e | e
   ·cases e;simp at hb
   ·exact eP ⟨c',e⟩
theorem fu {cells:List (Str × Addr)} {x:Str}:∀ {names:List (Str × NameKind)} {acc:List (Str × Addr)},(x,NameKind.free) ∈ names\/(∃ c,(x,c) ∈ acc)->∃ c,(x,c) ∈ bU cells names acc
 | [],_,h=>h.elim (fun e=>nomatch e) id
 | (n,k)::r,acc,h=>by
  unfold bU
  split
  ·rename_i hk
   refine fu ?_
   rcases h with h | ⟨c,h⟩
   ·rcases List.mem_cons.mp h with e | e
    ·cases e;exact .inr ⟨_,List.mem_cons_self⟩
    ·exact .inl e
   ·exact .inr ⟨c,List.mem_cons_of_mem _ h⟩
  ·rename_i hk
   refine fu ?_
   rcases h with h | ⟨c,h⟩
   ·rcases List.mem_cons.mp h with e | e
    ·cases e;exact absurd rfl hk
    ·exact .inl e
   ·exact .inr ⟨c,h⟩
theorem b9:∀ (names:List (Str × NameKind)) (n:Nat) (acc:List (Str × Addr)),cellsFrom n names acc=cellsFrom n names []++acc
 | [],_,_=>rfl
 | (y,k)::r,n,acc=>by
  unfold cellsFrom
  split
  ·rw [b9 r (n+1) ((y,n)::acc),b9 r (n+1) [(y,n)],List.append_assoc];rfl
  ·exact b9 r n acc
theorem cX:∀ (names:List (Str × NameKind)) (n:Nat) (acc:List (Str × Addr)) (x:Str) (c:Addr),(x,c) ∈ cellsFrom n names acc->(x,c) ∈ acc\/(x,NameKind.cell) ∈ names
 | [],_,_,_,_,h=>.inl h
 | (y,k)::r,n,acc,x,c,h=>by
  unfold cellsFrom at h
  split at h
  ·rename_i hk
   have hk':k = .cell:=by simpa using hk
   rcases cX r _ _ x c h with e | e
   ·rcases List.mem_cons.mp e with e | e
    ·cases e;exact .inr (by rw [hk'];exact List.mem_cons_self)
    ·exact .inl e
   ·exact .inr (List.mem_cons_of_mem _ e)
  ·rcases cX r _ _ x c h with e | e
   ·exact .inl e
   ·exact .inr (List.mem_cons_of_mem _ e)
noncomputable def kT (sc:Scope) (n:Str) (k:NameKind):NameKind:=if (k == .free && sc.kind == .function && sc.names.lookup n == some .cell) then .cell else k
noncomputable def eR (scope sc:Scope):Scope:={ scope with names:=scope.names.map fun y=>(y.1,kT sc y.1 y.2) }
theorem zz (scope:Scope) (env:Env):relabel scope env=eR scope env.scope:=by
 unfold relabel eR
 congr 1
 refine List.map_congr_left fun y _=>?_
 obtain ⟨n,k⟩:=y
 unfold kT
 dsimp only
 show (if (k == NameKind.free && env.scope.kind == ScopeKind.function && List.lookup n env.scope.names == some NameKind.cell)=true then (n,NameKind.cell) else (n,k))=_
 split <;> rfl
theorem eS (sc:Scope) (x:Str):∀ names:List (Str × NameKind),(names.map fun y=>(y.1,kT sc y.1 y.2)).lookup x=(names.lookup x).map (kT sc x)
 | []=>rfl
 | (n,k)::r=>by
  rw [List.map_cons,List.lookup_cons,List.lookup_cons]
  dsimp only
  cases hb:x == n with
  | true=>
   have q:x=n:=by simpa using hb
   subst q;rfl
  | false=>exact eS sc x r
noncomputable def qb (scope:Scope) (C:Addr) (env:Env):Env:=
 { scope:=eR scope env.scope,locals:=C,globals:=env.globals,cells:=cellsFrom (C+1) scope.names (bU env.cells scope.names []),qual:=env.qual,func:=none,code:=env.code,frame:=env.frame,builtins:=env.builtins }
theorem tU {M:Model} {A:Around} {E:Value->Shared->Prop} {s:Shared} {scope:Scope} {cl:List (Str × Addr)} {env:Env} {Q:Env->Shared->Prop}
  (h:Q { scope:=scope,locals:=s.heap.objs.size,globals:=env.globals,cells:=cellsFrom (s.heap.objs.size+1) scope.names cl,qual:=env.qual,func:=none,code:=env.code,frame:=env.frame,builtins:=env.builtins }
   { s with heap:=pushCells (s.heap.push { cls:=.type "dict", data:=.dict #[] }) scope.names }) :
  wpAny M A (newFunctionEnv scope env.globals cl [] env.qual none .none (some env)) Q E s:=by
 simp only [newFunctionEnv,Option.isSome_some,if_true]
 refine wpAny_bind (wpAny_alloc ?_)
 refine wpAny_bind (wpAny_layCells _ (fun name kind cells=>by cases hkc:kind == NameKind.cell <;> simp [hkc]) _ _ _ _ ?_)
 rw [show ({ s with heap:=s.heap.push { cls:=.type "dict", data:=.dict #[] } }:Shared).heap.objs.size=s.heap.objs.size+1 from Heap.size_push ..]
 simp only [List.forIn_nil]
 first
  | exact wpAny_bind (wpAny_pure (wpAny_pure h))
  | exact wpAny_pure h
noncomputable def vY (i:Nat):Str:=⟨#[i]⟩
noncomputable def cG:List Nat->List Str->List Str
 | [],N=>N
 | i::hs,N=>cG hs (N.set i (vY i))
theorem iz:∀ (hs:List Nat) (N:List Str),(cG hs N).length=N.length
 | [],_=>rfl
 | i::hs,N=>by rw [cG,iz hs,List.length_set]
theorem lA:∀ (hs:List Nat) (N:List Str) {i:Nat} {x:Str},(cG hs N)[i]?=some x->N[i]?=some x\/∃ j ∈ hs,x=vY j
 | [],_,_,_,h=>.inl h
 | k::hs,N,i,x,h=>by
  rw [cG] at h
  rcases lA hs (N.set k (vY k)) h with e | ⟨j,hj,e⟩
  ·rw [List.getElem?_set] at e
   split at e
   ·split at e
    ·exact .inr ⟨k,List.mem_cons_self,(Option.some.inj e).symm⟩
    ·cases e
   ·exact .inl e
  ·exact .inr ⟨j,List.mem_cons_of_mem _ hj,e⟩
structure CmScope (own:List Str) (hs:List Nat) (N:List Str) (scope sc:Scope):Prop where
 kind:scope.kind = .function
 nd:(cG hs N++own).Nodup
 uniq:(scope.names.map (·.1)).Nodup
 dis:∀ x ∈ cG hs N,scope.names.lookup x ≠ some .local/\scope.names.lookup x ≠ some .cell
 fr:∀ y ∈ scope.names,y.2 = .free->sc.names.lookup y.1=some .cell\/sc.names.lookup y.1=some .free
 hd:∀ i ∈ hs,scope.names.lookup (vY i)=none
theorem cD:∀ {l:List (Str × NameKind)} {x:Str} {k:NameKind},(l.map (·.1)).Nodup->(x,k) ∈ l->l.lookup x=some k
 | (n,k')::r,x,k,nd,h=>by
  rw [List.map_cons,List.nodup_cons] at nd
  rw [List.lookup_cons]
  rcases List.mem_cons.mp h with e | e
  ·cases e;simp
  ·have ne:(x == n)=false:=by
    cases hb:x == n with
    | false=>rfl
    | true=>
     have q:x=n:=by simpa using hb
     subst q
     exact absurd (List.mem_map.mpr ⟨(x,k),e,rfl⟩) nd.1
   rw [ne]
   exact cD nd.2 e
noncomputable def cxC (X:Cx) (own:List Str) (hs:List Nat) (scope:Scope) (C:Addr) (ex:List Addr) (s:Shared) (H:Hp):Cx where
 prog:=X.prog
 w:=X.w
 K:=X.K
 mg:=X.mg
 base:=X.base
 A:=X.A
 N:=cG hs X.N++own
 s₀:=s
 H₀:=H
 env:=qb scope C X.env
 outer:=X.stack
 stack:=X.stack
 ex:=ex
 fn:=fun x=>scope.names.lookup x == some .cell
 calm:=X.calm
 pn:=[]
 xe:=fun _ _=>False
section
variable {X:Cx} {pins:List (Addr × Obj)} {σ:St} {H:Hp} {s:Shared} {own:List Str} {hs:List Nat} {scope:Scope} {fp:List Addr}
theorem Inv.compStart (I:Inv X pins σ H s) (S:CmScope own hs X.N scope X.env.scope) (hf:∀ b ∈ fp,fS X pins H b) (hfo:∀ b ∈ fp,b < s.heap.objs.size) :
  Inv (cxC X own hs scope s.heap.objs.size fp s H) [] (σ++List.replicate own.length none) H { s with heap:=pushCells (s.heap.push { cls:=.type "dict", data:=.dict #[] }) scope.names }:=by
 have keep:∀ b o,s.heap.get? b=some o->(pushCells (s.heap.push { cls:=.type "dict", data:=.dict #[] }) scope.names).get? b=some o:=fun b o e=>pushCells_keeps _ _ b o (Heap.get?_push_of_some _ e)
 have ok:=cellsFrom_ok scope.names (s.heap.push { cls:=.type "dict", data:=.dict #[] }) (s.heap.objs.size+1) [] ⟨fun _ _ hm=>(nomatch hm),List.Pairwise.nil⟩ (by rw [Heap.size_push];exact Nat.le_refl _)
 rw [Heap.size_push] at ok
 have cells:(qb scope s.heap.objs.size X.env).cells=cellsFrom (s.heap.objs.size+1) scope.names []++bU X.env.cells scope.names []:=b9 _ _ _
 have hasX:∀ x,(x,NameKind.free) ∈ scope.names->∃ c,X.env.cells.lookup x=some c:=fun x h=>I.ok.has x (S.fr (x,.free) h rfl)
 have old:∀ x c,(x,c) ∈ bU X.env.cells scope.names []->X.env.cells.lookup x=some c/\(x,NameKind.free) ∈ scope.names:=fun x c h=>by
  rcases iy h with e | ⟨e,q⟩
  ·exact nomatch e
  ·obtain ⟨c',hc⟩:=hasX x e
   rw [hc] at q
   exact ⟨by rw [hc,q];rfl,e⟩
 have oldlt:∀ x c,X.env.cells.lookup x=some c->c < s.heap.objs.size:=fun x c h=>let ⟨_,z⟩:=I.cell x c h;z.lt
 have which:∀ x c,(qb scope s.heap.objs.size X.env).cells.lookup x=some c->((x,c) ∈ cellsFrom (s.heap.objs.size+1) scope.names [])\/(X.env.cells.lookup x=some c/\(x,NameKind.free) ∈ scope.names):=fun x c h=>by
  have m:=PySem.mem_of_lookup h
  rw [cells] at m
  rcases List.mem_append.mp m with e | e
  ·exact .inl e
  ·exact .inr (old x c e)
 have neu:∀ x c,(x,c) ∈ cellsFrom (s.heap.objs.size+1) scope.names []->s.heap.objs.size+1<=c:=fun x c h=>(ok.empty x c h).2
 have noFs:∀ b ∈ fp,b ∉ frs X.stack:=fun b hb z=>by
  rcases List.mem_cons.mp (I.stkSub b z) with e | e
  ·exact (hf b hb).2.1 e
  ·exact (hf b hb).2.2.1 e
 have xok:(cxC X own hs scope s.heap.objs.size fp s H).Ok:=by
  refine ⟨I.ok.mod,S.kind,I.ok.glob,I.ok.blt,Nat.le_refl _,?_,?_,?_,I.ok.hd,I.ok.frames,.inl rfl,?_,I.bs,Nat.le_trans I.ok.bsz I.sz,?_,noFs,I.stack,I.stkFree⟩
  ·intro x y c h1 h2
   rcases which x c h1 with a | ⟨a,_⟩ <;> rcases which y c h2 with b | ⟨b,_⟩
   ·exact name_of_addr ok.apart a b
   ·exact absurd (Nat.lt_of_lt_of_le (oldlt y c b) (Nat.le_of_succ_le (neu x c a))) (Nat.lt_irrefl _)
   ·exact absurd (Nat.lt_of_lt_of_le (oldlt x c a) (Nat.le_of_succ_le (neu y c b))) (Nat.lt_irrefl _)
   ·exact I.ok.inj x y c a b
  ·intro x hx
   have hx':(eR scope X.env.scope).names.lookup x=some .cell\/(eR scope X.env.scope).names.lookup x=some .free:=hx
   have e:=eS X.env.scope x scope.names
   have key:(x,NameKind.cell) ∈ scope.names\/(x,NameKind.free) ∈ scope.names:=by
    cases hl:scope.names.lookup x with
    | none=>rw [hl] at e;rcases hx' with z | z <;> (rw [show (eR scope X.env.scope).names.lookup x=none from e] at z;cases z)
    | some k=>
     have m:=PySem.mem_of_lookup hl
     rw [hl] at e
     cases k with
     | cell=>exact .inl m
     | free=>exact .inr m
     | _=>rcases hx' with z | z <;> (rw [show (eR scope X.env.scope).names.lookup x=_ from e] at z;simp [kT] at z)
   rcases key with h | h
   ·have q:=PySem.W.cellsFrom_some scope.names (s.heap.objs.size+1) (bU X.env.cells scope.names []) (x:=x) (.inl (cD S.uniq h))
    exact Option.isSome_iff_exists.mp q
   ·obtain ⟨c,hc⟩:=fu (cells:=X.env.cells) (acc:=[]) (.inl h)
    have q:∃ c,(x,c) ∈ (qb scope s.heap.objs.size X.env).cells:=⟨c,by rw [cells];exact List.mem_append_right _ hc⟩
    exact eP q
  ·intro x c hfn hl
   have hfn':scope.names.lookup x=some .cell:=by
    have z:(scope.names.lookup x == some NameKind.cell)=true:=hfn
    simpa using z
   rcases which x c hl with a | ⟨_,b⟩
   ·exact Nat.le_trans (Nat.le_succ _) (neu x c a)
   ·rw [cD S.uniq b] at hfn';cases hfn'
  ·intro b hb
   refine ⟨Nat.ne_of_lt (hfo b hb),fun x c h z=>?_⟩
   rcases which x c h with a | ⟨a,_⟩
   ·exact absurd (Nat.lt_of_lt_of_le (z ▸ hfo b hb) (Nat.le_of_succ_le (neu x c a))) (Nat.lt_irrefl _)
   ·exact (hf b hb).2.2.2.2.1 x c a z
  ·intro b o e hb
   rcases (hf b hb).2.2.2.1 with z | z
   ·exact I.ok.noex b o e z
   ·have h1:=Heap.lt_size e
    exact absurd (Nat.lt_of_lt_of_le h1 (Nat.le_trans I.ok.bsz z)) (Nat.lt_irrefl _)
 have m0:(pushCells (s.heap.push { cls:=.type "dict", data:=.dict #[] }) scope.names).Ns s.heap.objs.size (fun _=>none):=(Heap.Ns.new s.heap (.type "dict")).keeps (pushCells_keeps _ _)
 refine ⟨xok,rfl,I.bare,Un.kept keep,⟨_,m0,?_⟩,?_,I.hok.fresh (Nat.le_refl _),?_,fun p hp=>absurd (show p ∈ ([]:List (Addr × Obj)) from hp) (by simp),I.hok.kept keep,?_⟩
 ·intro i x v h1 h2 h3
  have hi:i < σ.length:=by
   by_cases hi:i < σ.length
   ·exact hi
   ·rw [List.getElem?_append_right (by omega),List.getElem?_replicate] at h2
    split at h2 <;> cases h2
  rw [List.getElem?_append_left hi] at h2
  have hN:i < X.N.length:=by rw [<-I.len];exact hi
  have h1h:(cG hs X.N)[i]?=some x:=by
   have h1:(cG hs X.N++own)[i]?=some x:=h1
   rwa [List.getElem?_append_left (by rw [iz];exact hN)] at h1
  have dx:=S.dis x (List.mem_of_getElem? h1h)
  have e:=eS X.env.scope x scope.names
  have h3':(eR scope X.env.scope).names.lookup x=some .local\/(eR scope X.env.scope).names.lookup x=some .cell\/(eR scope X.env.scope).names.lookup x=some .free:=h3
  have hfree:scope.names.lookup x=some .free:=by
   cases hl:scope.names.lookup x with
   | none=>rw [hl] at e;rcases h3' with z | z | z <;> (rw [show (eR scope X.env.scope).names.lookup x=none from e] at z;cases z)
   | some k=>
    rw [hl] at e dx
    cases k with
    | free=>rfl
    | «local»=>exact absurd rfl dx.1
    | cell=>exact absurd rfl dx.2
    | _=>rcases h3' with z | z | z <;> (rw [show (eR scope X.env.scope).names.lookup x=_ from e] at z;simp [kT] at z)
  have h1':X.N[i]?=some x:=by
   rcases lA hs X.N h1h with z | ⟨j,hj,z⟩
   ·exact z
   ·rw [z,S.hd j hj] at hfree;cases hfree
  have mfree:=PySem.mem_of_lookup hfree
  have kX:=S.fr (x,.free) mfree rfl
  obtain ⟨m,hn,hl⟩:=I.loc
  obtain ⟨u,r,l⟩:=hl i x v h1' h2 (kX.elim (fun z=>.inr (.inl z)) fun z=>.inr (.inr z))
  refine ⟨u,r,.inr ⟨?_,?_⟩⟩
  ·have k3:(eR scope X.env.scope).names.lookup x=some (kT X.env.scope x .free):=by rw [hfree] at e;exact e
   have k4:kT X.env.scope x .free = .cell\/kT X.env.scope x .free = .free:=by unfold kT;split <;> simp
   rcases k4 with z | z
   ·exact .inl (by show (eR scope X.env.scope).names.lookup x=_;rw [k3,z])
   ·exact .inr (by show (eR scope X.env.scope).names.lookup x=_;rw [k3,z])
  ·rcases l with ⟨lk,_⟩ | ⟨_,c,hc,z⟩
   ·have lk':X.env.scope.names.lookup x=some .local:=lk
    rcases kX with q | q <;> (rw [q] at lk';cases lk')
   ·refine ⟨c,?_,z.keeps keep⟩
    obtain ⟨c',hc'⟩:=fu (cells:=X.env.cells) (acc:=[]) (.inl mfree)
    obtain ⟨c2,hl2⟩:=eP (l:=(qb scope s.heap.objs.size X.env).cells) ⟨c',by rw [cells];exact List.mem_append_right _ hc'⟩
    rcases which x c2 hl2 with a | ⟨a,_⟩
    ·rcases cX _ _ _ _ _ a with q | q
     ·exact nomatch q
     ·rw [cD S.uniq q] at hfree;cases hfree
    ·rw [hc] at a;cases a;exact hl2
 ·intro x c h
  rcases which x c h with a | ⟨a,_⟩
  ·exact ⟨_,(ok.empty x c a).1⟩
  ·obtain ⟨v,z⟩:=I.cell x c a
   exact ⟨v,z.keeps keep⟩
 ·intro x c h
  rcases which x c h with a | ⟨a,_⟩
  ·exact I.hok.fresh (Nat.le_trans (Nat.le_succ _) (neu x c a))
  ·exact I.freeC x c a
 ·show (σ++List.replicate own.length none).length=(cG hs X.N++own).length
  rw [List.length_append,List.length_append,List.length_replicate,iz,I.len]
end
end L2
namespace L2
open PySem PySem.Spec PyProof.Rows
noncomputable def og (J:It) (g:TG) (tb:TS) (D:Ends) (σ:St) (H:Hp):Prop:=∃ W:Nat->Nat->St->Hp->Prop,(∃ m,W 0 m σ H)/\∀ i m σ H,W i m σ H ->
 (J.stop i H/\D.nx σ H)\/(J.go i H/\∃ N:St->Hp->Prop,(∀ σ' H',N σ' H'->∃ m',m' < m/\W (i+1) m' σ' H')/\∀ x H',J.yld i H x H'->g x σ H' fun σ2 H2=>tb { D with nx:=N,ct:=N,bk:=D.nx } σ2 H2)
noncomputable def PTs (Y:Cx) (ifs:List Expr) (t:TT):Prop:=
 ∀ (pins:List (Addr × Obj)) (s:Shared) (σ:St) (H:Hp) (Q:Bool->Hp->Prop),Inv Y pins σ H s->t σ H Q->wpAny (model Y.prog Y.w) Y.A (mr ifs Y.env) (TP Y pins σ Q) Y.xe s
noncomputable def zA:TT:=fun _ H Q=>Q true H
theorem zB {Y:Cx}:PTs Y [] zA:=fun _ _ _ H _ I h=>by
 unfold mr;rw [List.forIn_nil];exact wpAny_pure ⟨H,I,h⟩
theorem zC {Y:Cx} {c:Expr} {t:TT} (hc:PT Y c t):PTs Y [c] t:=fun pins s σ H Q I h=>by
 unfold mr
 rw [List.forIn_cons]
 simp only [if_true,List.forIn_nil]
 refine wpAny_bind (wpAny_bind (thn (hc pins s σ H Q I h) fun b s1 q=>wpAny_pure ?_))
 exact wpAny_pure q
noncomputable def PTl (Y:Cx) (elt:Expr) (gens:List Comprehension) (scope:Scope) (pos:Pos) (acc:Addr) (d:Nat) (t:TS):Prop:=
 ∀ (pins:List (Addr × Obj)) (s:Shared) (σ:St) (H:Hp) (D:Ends),Inv Y pins σ H s->t D σ H ->
  match gens[d+1]? with
  | none=>wpAny (model Y.prog Y.w) Y.A (eval elt Y.env) (fun x s5=>wpAny (model Y.prog Y.w) Y.A (call (.builtin "list.append") [.ref acc,x]) (fun _ s6=>∃ σ' H',Inv Y pins σ' H' s6/\D.nx σ' H') (fun _ _=>False) s5) (fun _ _=>False) s
  | some g'=>g'.is_async=0/\wpAny (model Y.prog Y.w) Y.A (eval g'.iter Y.env) (fun x s5=>wpAny (model Y.prog Y.w) Y.A (foldedSetIterable g'.iter Y.env x) (fun x' s6=>wpAny (model Y.prog Y.w) Y.A (pyIter x') (fun it' s7=>
    wpAny (model Y.prog Y.w) Y.A (runOwn (.compStart (.ListComp elt gens scope pos) (d+1) it' (.ref acc) Y.env) Y.env) (fun _ s8=>∃ σ' H',Inv Y pins σ' H' s8/\D.nx σ' H') (fun _ _=>False) s7) (fun _ _=>False) s6) (fun _ _=>False) s5) (fun _ _=>False) s
noncomputable def eF (ti:TT) (t:TS):TS:=fun D σ H=>ti σ H fun c H'=>if c=true then t D σ H' else D.nx σ H'
noncomputable def CW (acc:Addr) (te:TE):TS:=fun D σ H=>te σ H fun x H1=>∃ xs,H1 acc=some (.lst xs)/\xs.length < sizeLine/\D.nx σ (upd H1 acc (.lst (xs++[x])))
section
variable {Y:Cx} {elt:Expr} {gens:List Comprehension} {scope:Scope} {pos:Pos} {acc:Addr} {d:Nat}
theorem vZ {te:TE} (hx:Y.xe=fun _ _=>False) (hn:gens[d+1]?=none) (he:PE Y elt te):PTl Y elt gens scope pos acc d (CW acc te):=by
 intro pins s σ H D I h
 rw [hn]
 have hE:=he pins s σ H _ I h
 rw [hx] at hE
 refine thn hE fun x s5 ⟨v,H5,I5,r5,xs,h1,h2,q⟩=>?_
 have z:=ly pins s5 σ H5 (.ref acc) [v] (.ref acc) [x] (fun y H'=>y = .non/\D.nx σ H') I5 rfl (.cons r5 .nil) ⟨acc,xs,v,rfl,rfl,h1,h2,rfl,q⟩
 rw [hx] at z
 exact thn z fun y s6 ⟨v6,H6,I6,r6,e6,q6⟩=>⟨σ,H6,I6,q6⟩
theorem jQ {A:Around} {R:Result->Shared->Prop} {prog:Program} {w:World} {s:Shared} {tg iter:Expr} {ifs:List Expr} {it acc:Value} {env:Env} (hg:gens[d]?=some ⟨tg,iter,ifs,0⟩)
  (h0:codeAny (model prog w) A (.compLoop (.ListComp elt gens scope pos) d it acc env) R s)
  (h:wpAny (model prog w) A (pyIter it) (fun it' s'=>codeAny (model prog w) A (.compLoop (.ListComp elt gens scope pos) d it' acc env) R s') (notedBy (model prog w) A env fun x s'=>R (.error x) s') s) :
  codeAny (model prog w) A (.compStart (.ListComp elt gens scope pos) d it acc env) R s:=by
 refine codeAny_of_tree ?_
 show wpAny _ _ ((compStart (.ListComp elt gens scope pos) d it acc env).onRaise (fun x=>do noteFrame x env;standAt theWindowsPlace)) _ _ s
 refine wpAny_notedAt ?_
 unfold compStart
 have hcl:(clausesOf (.ListComp elt gens scope pos))[d]?=some ⟨tg,iter,ifs,0⟩:=hg
 simp only [hcl,Option.elim]
 show wpAny _ _ (ask >>= _) _ _ s
 refine wpAny_bind (wpAny_askSetting (wpAny_ite ?_))
 split
 ·first
   | exact wpAny_bind (wpAny_pure (wpAny_pure (And.intro rfl h0)))
   | exact wpAny_pure (And.intro rfl h0)
 ·first
   | exact wpAny_bind (wpAny_rule (wpAny_bind (wpAny_standAt (wpAny_bind (wpAny_mono h (fun it' s' h'=>wpAny_pure (And.intro rfl h')) fun _ _ x=>x)))))
   | (refine wpAny_bind (wpAny_rule ?_);show wpAny _ _ (standAt iter.pos >>= _) _ _ s;exact wpAny_bind (wpAny_standAt (wpAny_bind (wpAny_mono h (fun it' s' h'=>wpAny_pure (And.intro rfl h')) fun _ _ x=>x))))
theorem lB {tg iter:Expr} {ifs:List Expr} {J:It} {fp:List Addr} {it:Addr} {tn:Nat->Heap->Prop} {pins:List (Addr × Obj)} {σ:St} {H:Hp} {s:Shared} {g:TG} {ti:TT} {t:TS} {D:Ends}
  (hx:Y.xe=fun _ _=>False) (hc:Y.calm=true) (hg:gens[d]?=some ⟨tg,iter,ifs,0⟩) (T:Turn Y.prog Y.w Y.K tg J fp it tn) (I2:Inv Y pins σ H s) (st2:tn 0 s.heap) (f2:∀ b ∈ fp,fS Y pins H b)
  (hgt:PG Y tg g) (hts:PTs Y ifs ti) (htl:PTl Y elt gens scope pos acc d t) (hW:og J g (eF ti t) D σ H) :
  codeAny (model Y.prog Y.w) Y.A (.compLoop (.ListComp elt gens scope pos) d (.ref it) (.ref acc) Y.env) (fun r s'=>r = .ok .next/\∃ σ' H',Inv Y pins σ' H' s'/\D.nx σ' H') s:=by
 obtain ⟨W,⟨m0,w0⟩,turn⟩:=hW
 have stat:∀ {H':Hp},(∀ b ∈ fp,H' b=none)->∀ b ∈ fp,fS Y pins H' b:=fun hn b hb=>⟨hn b hb,(f2 b hb).2⟩
 refine codeAny_loop rfl (fun n s'=>∃ i σ' H',Inv Y pins σ' H' s'/\tn i s'.heap/\(∀ b ∈ fp,H' b=none)/\W i n σ' H') (fun n s3 hI=>?_) m0 ⟨0,σ,H,I2,st2,fun b hb=>(f2 b hb).1,w0⟩
 obtain ⟨i,σ3,H3,I3,st3,fr3,w3⟩:=hI
 show wpAny _ _ ((compTurn (.ListComp elt gens scope pos) d (.ref it) (.ref acc) Y.env).onRaise (fun x=>do noteFrame x Y.env;theTreesLotGoes x)) _ _ s3
 refine wpAny_noted (wpAny_mono (E:=fun _ _=>False) ?_ (fun _ _ q=>q) fun _ _ z=>z.elim)
 refine zy hg ?_
 rcases turn i n σ3 H3 w3 with ⟨stop,qn⟩ | ⟨go,N,hN,step⟩
 ·refine thn (T.done Y rfl rfl rfl hc i pins s3 σ3 H3 _ I3 (stat fr3) st3 stop) fun r s4 ⟨hr,I4⟩=>?_
  subst hr
  exact ⟨rfl,σ3,H3,I4,qn⟩
 ·refine thn (T.item Y rfl rfl rfl hc i pins s3 σ3 H3 _ I3 (stat fr3) st3 go) fun r s4 ⟨u,hr,h4⟩=>?_
  subst hr
  refine thn h4 fun _ s5 ⟨x,H5,I5,r5,y5,st5,fr5⟩=>?_
  have I5':=I5.pinned (stat fr5) (T.obj _ _ st5)
  have again:∀ {σ7:St} {H7:Hp} {s7:Shared},Inv Y (pins++jK fp s5.heap) σ7 H7 s7->N σ7 H7->∃ m,m < n/\∃ i σ' H',Inv Y pins σ' H' s7/\tn i s7.heap/\(∀ b ∈ fp,H' b=none)/\W i m σ' H':=fun {σ7 H7 s7} I7 n7=>by
   obtain ⟨m',hm,w7⟩:=hN σ7 H7 n7
   refine ⟨m',hm,i+1,σ7,H7,I7.unpinned,T.keep _ _ _ st5 fun b hb o e=>(I7.pin (b,o) (List.mem_append_right _ (List.mem_append_right _ (dH hb e)))).1,fun b hb=>?_,w7⟩
   obtain ⟨o,e,dd⟩:=T.obj _ _ st5 b hb
   exact (I7.pin (b,o) (List.mem_append_right _ (List.mem_append_right _ (dH hb e)))).2.1
  have hG:=hgt _ s5 σ3 H5 x u _ I5' r5 (step x H5 y5)
  rw [hx] at hG
  refine thn hG fun _ s6 ⟨σ6,H6,I6,q6⟩=>?_
  have hT:=hts _ s6 σ6 H6 _ I6 q6
  rw [hx] at hT
  refine thn hT fun ok s7 ⟨H7,I7,q7⟩=>?_
  cases ok with
  | false=>
   simp only [Bool.false_eq_true,if_false] at q7 ⊢
   exact ⟨by trivial,again I7 q7⟩
  | true=>
   simp only [if_true] at q7 ⊢
   have hL:=htl _ s7 σ6 H7 _ I7 q7
   cases hn:gens[d+1]? with
   | none=>
    rw [hn] at hL
    exact thn hL fun x s8 h8=>thn h8 fun _ s9 ⟨σ9,H9,I9,q9⟩=>⟨by trivial,again I9 q9⟩
   | some g'=>
    rw [hn] at hL
    obtain ⟨ha,hL⟩:=hL
    exact ⟨ha,thn hL fun x s8 h8=>thn h8 fun x' s9 h9=>thn h9 fun it' s10 h10=>thn h10 fun _ s11 ⟨σ9,H9,I9,q9⟩=>⟨by trivial,again I9 q9⟩⟩
noncomputable def v0 (wi:TI) (g:TG) (ti:TT) (t:TS):TS:=fun D σ H=>wi σ H fun J H1=>og J g (eF ti t) D σ H1
theorem zD {tg iter:Expr} {ifs:List Expr} {wi:TI} {g:TG} {ti:TT} {t:TS} (hn:gens[d+1]?=some ⟨tg,iter,ifs,0⟩)
  (hi:PI Y tg iter wi) (hgt:PG Y tg g) (hts:PTs Y ifs ti) (htl:PTl Y elt gens scope pos acc (d+1) t) (hx:Y.xe=fun _ _=>False:=by rfl) (hc:Y.calm=true:=by rfl) (hs:∀ x,foldedSetIterable iter Y.env x=pure x:=by intro _;rfl) :
  PTl Y elt gens scope pos acc d (v0 wi g ti t):=by
 intro pins s σ H D I h
 rw [hn]
 refine ⟨rfl,?_⟩
 have hI:=hi pins s σ H _ I h
 rw [hx] at hI
 refine thn hI fun v s5 h5=>wpAny_of_eq (hs v) (thn h5 fun itv s6 h6=>?_)
 obtain ⟨it,fp,tn,J,H6,e,I6,T,st6,f6,W⟩:=h6
 subst e
 have L:=lB (elt:=elt) (gens:=gens) (scope:=scope) (pos:=pos) (acc:=acc) hx hc hn T I6 st6 f6 hgt hts htl W
 refine wpAny_runOwn (codeAny_mono (jQ hn L (T.self _ 0 s6 _ _ st6 L)) fun r s8 hr=>?_)
 obtain ⟨rfl,q⟩:=hr
 exact q
end
noncomputable def v5 (own:Nat) (wi:TI) (g:TG) (tb:Addr->TS):TE:=fun σ H Q=>wi σ H fun J H1=>∀ acc,H1 acc=none ->
 og J g (tb acc) { nx:=fun _ H'=>Q (.ref acc) H',rt:=fun _ _=>False } (σ++List.replicate own none) (upd H1 acc (.lst []))
section
variable {X:Cx} {elt tg iter:Expr} {ifs:List Expr} {rest:List Comprehension} {scope:Scope} {pos:Pos} {own:List Str} {hs:List Nat} {wi:TI} {g:TG} {ti:TT} {t:Addr->TS}
theorem jR {pins:List (Addr × Obj)} {σ:St} {Q:VK} {itv:Value} {s2:Shared} {E:Value->Shared->Prop} (hc:X.calm=true) (S:CmScope own hs X.N scope X.env.scope)
  (hgt:∀ C ex s H,PG (cxC X own hs scope C ex s H) tg g) (hts:∀ C ex s H,PTs (cxC X own hs scope C ex s H) ifs ti)
  (htl:∀ C ex s H acc,PTl (cxC X own hs scope C ex s H) elt (⟨tg,iter,ifs,0⟩::rest) scope pos acc 0 (t acc))
  (h2:PIE X pins σ tg (fun J H1=>∀ acc,H1 acc=none->og J g (eF ti (t acc)) { nx:=fun _ H'=>Q (.ref acc) H',rt:=fun _ _=>False } (σ++List.replicate own.length none) (upd H1 acc (.lst []))) itv s2)
  {RR:Value->Addr->Result->Shared->Prop} (hRR:∀ acc C H' s',Inv X pins σ H' s'->fS X pins H' C->(∃ m,s'.heap.Ns C m)->Q (.ref acc) H'->RR (.ref acc) C (.ok .next) s') :
  wpAny (model X.prog X.w) X.A (newList []) (fun acc s3=>wpAny (model X.prog X.w) X.A (newFunctionEnv scope X.env.globals (bU X.env.cells scope.names []) [] X.env.qual none .none (some X.env)) (fun cenv s4=>
   codeAny (model X.prog X.w) X.A (.compStart (.ListComp elt (⟨tg,iter,ifs,0⟩::rest) scope pos) 0 itv acc { cenv with scope:=relabel scope X.env }) (RR acc cenv.locals) s4) E s3) E s2:=by
 obtain ⟨it,fp,tn,J,H2,e,I2,T,st2,f2,R⟩:=h2
 subst e
 refine wpAny_newObj_type ?_
 have I3:Inv X pins σ (upd H2 s2.heap.objs.size (.lst [])) { s2 with heap:=s2.heap.push { cls:=.type "list", dict:=none,data:=.seq ([]:List Value).toArray } }:=I2.lnew (its:=[]) (t':=s2.toks) .nil (Nat.zero_le _)
 have W:=R s2.heap.objs.size (I2.hok.fresh (Nat.le_refl _))
 generalize hs3:({ s2 with heap:=s2.heap.push { cls:=.type "list", dict:=none,data:=.seq ([]:List Value).toArray } }:Shared)=s3 at I3 ⊢
 have e3:s3.heap=s2.heap.push { cls:=.type "list", dict:=none,data:=.seq ([]:List Value).toArray }:=by rw [<-hs3]
 have k3:∀ b o,s2.heap.get? b=some o->s3.heap.get? b=some o:=fun b o e=>by rw [e3];exact Heap.get?_push_of_some _ e
 have st3:tn 0 s3.heap:=T.keep _ _ _ st2 fun b _ o e=>k3 b o e
 have fne:∀ b ∈ fp,b < s2.heap.objs.size:=fun b hb=>let ⟨o,e,_⟩:=T.obj _ _ st2 b hb;Heap.lt_size e
 have f3:∀ b ∈ fp,fS X pins (upd H2 s2.heap.objs.size (.lst [])) b:=fun b hb=>⟨by rw [ax (Nat.ne_of_lt (fne b hb))];exact (f2 b hb).1,(f2 b hb).2⟩
 have fo3:∀ b ∈ fp,b < s3.heap.objs.size:=fun b hb=>let ⟨o,e,_⟩:=T.obj _ _ st3 b hb;Heap.lt_size e
 refine tU ?_
 have I4:=I3.compStart S f3 fo3
 generalize hH3:upd H2 s2.heap.objs.size (.lst [])=H3 at I3 I4 f3 W
 have eE:({ scope:=relabel scope X.env,locals:=s3.heap.objs.size,globals:=X.env.globals,cells:=cellsFrom (s3.heap.objs.size+1) scope.names (bU X.env.cells scope.names []),qual:=X.env.qual,func:=none,code:=X.env.code,frame:=X.env.frame,builtins:=X.env.builtins }:Env)=qb scope s3.heap.objs.size X.env:=by
  unfold qb;rw [zz]
 generalize hs4:({ s3 with heap:=pushCells (s3.heap.push { cls:=.type "dict", data:=.dict #[] }) scope.names }:Shared)=s4 at I4 ⊢
 have k4:∀ b o,s3.heap.get? b=some o->s4.heap.get? b=some o:=fun b o e=>by rw [<-hs4];exact pushCells_keeps _ _ b o (Heap.get?_push_of_some _ e)
 have st4:tn 0 s4.heap:=T.keep _ _ _ st3 fun b _ o e=>k4 b o e
 have f4:∀ b ∈ fp,fS (cxC X own hs scope s3.heap.objs.size fp s3 H3) [] H3 b:=fun b hb=>by
  refine ⟨(f3 b hb).1,Nat.ne_of_lt (fo3 b hb),I4.ok.exfs b hb,.inl hb,fun x c hl=>(I4.ok.exf b hb).2 x c hl,fun p hp=>absurd (show p ∈ ([]:List (Addr × Obj)) from hp) (by simp)⟩
 have L:=lB (Y:=cxC X own hs scope s3.heap.objs.size fp s3 H3) (elt:=elt) (gens:=⟨tg,iter,ifs,0⟩::rest) (d:=0) (scope:=scope) (pos:=pos) (acc:=s2.heap.objs.size) rfl hc rfl T I4 st4 f4 (hgt _ _ _ _) (hts _ _ _ _) (htl _ _ _ _ _) W
 have C:=jQ (elt:=elt) (gens:=⟨tg,iter,ifs,0⟩::rest) (d:=0) (scope:=scope) (pos:=pos) rfl L (T.self _ 0 s4 _ _ st4 L)
 show codeAny (model X.prog X.w) X.A (.compStart (.ListComp elt (⟨tg,iter,ifs,0⟩::rest) scope pos) 0 (.ref it) (.ref s2.heap.objs.size) { scope:=relabel scope X.env,locals:=s3.heap.objs.size,globals:=X.env.globals,cells:=cellsFrom (s3.heap.objs.size+1) scope.names (bU X.env.cells scope.names []),qual:=X.env.qual,func:=none,code:=X.env.code,frame:=X.env.frame,builtins:=X.env.builtins }) (RR (.ref s2.heap.objs.size) s3.heap.objs.size) s4
 rw [eE]
 refine codeAny_mono C fun r s' hr=>?_
 obtain ⟨rfl,σ',H',I',q⟩:=hr
 obtain ⟨mC,nC,_⟩:=id I'.loc
 have freeC:H' s3.heap.objs.size=none:=I'.free
 refine hRR _ _ H' s' ?_ (I3.fpOk (Nat.le_refl _) freeC) ⟨mC,nC⟩ q
 exact I3.call' (ch:=fp) I'.os I'.base I'.hok I'.bare fun b hb=>⟨(f3 b hb).2.2.2.1,(f3 b hb).2.1,(f3 b hb).2.2.2.2.1,(f3 b hb).2.2.2.2.2⟩
theorem zE (hc:X.calm=true) (S:CmScope own hs X.N scope X.env.scope) (hi:PI X tg iter wi)
  (hgt:∀ C ex s H,PG (cxC X own hs scope C ex s H) tg g) (hts:∀ C ex s H,PTs (cxC X own hs scope C ex s H) ifs ti)
  (htl:∀ C ex s H acc,PTl (cxC X own hs scope C ex s H) elt (⟨tg,iter,ifs,0⟩::rest) scope pos acc 0 (t acc))
  (hs:∀ x,foldedSetIterable iter X.env x=pure x:=by intro _;rfl) :
  PE X (.ListComp elt (⟨tg,iter,ifs,0⟩::rest) scope pos) (v5 own.length wi g fun acc=>eF ti (t acc)):=by
 intro pins s σ H Q I h
 rw [eval_ListComp]
 refine wpAny_comprehension_free (use:=none) (cl:=bU X.env.cells scope.names []) rfl hs (rH fun y hy hk=>I.ok.has y.1 (S.fr y hy hk)) S.kind (fun y hy hk=>cD S.uniq (by rw [<-hk];exact hy)) ?_
 refine thn (hi pins s σ H _ I h) fun v s1 h1=>thn h1 fun itv s2 h2=>?_
 refine jR hc S hgt hts htl h2 (RR:=fun acc C=>compPost (model X.prog X.w) X.A X.xe none (EP X pins σ Q) acc C) fun acc C H' s' I' f' m' q=>?_
 obtain ⟨m,nm⟩:=m'
 refine ⟨m,nm,fun h' sb=>⟨.ref acc,H',?_,rfl,q⟩⟩
 exact I'.turned (t':=s'.toks) (fun b o hb e=>(sb.2 b hb).trans e) f'.1 f'.2.1 f'.2.2.2.1 f'.2.2.2.2.1 f'.2.2.2.2.2
theorem zF {i:Nat} {x:Str} {pos' spos:Pos} (hc:X.calm=true) (S:CmScope own hs X.N scope X.env.scope) (hN:X.N.Nodup) (hix:X.N[i]?=some x) (hx:X.env.scope.names.lookup x=some .local) (hi:PI X tg iter wi)
  (hgt:∀ C ex s H,PG (cxC X own hs scope C ex s H) tg g) (hts:∀ C ex s H,PTs (cxC X own hs scope C ex s H) ifs ti)
  (htl:∀ C ex s H acc,PTl (cxC X own hs scope C ex s H) elt (⟨tg,iter,ifs,0⟩::rest) scope pos acc 0 (t acc))
  (hsw:swapsWith (.ListComp elt (⟨tg,iter,ifs,0⟩::rest) scope pos) (some (.Name x pos')) spos.line X.env=pure true:=by rfl)
  (hs:∀ x,foldedSetIterable iter X.env x=pure x:=by intro _;rfl) :
  PS X (.Assign [.Name x pos'] (.ListComp elt (⟨tg,iter,ifs,0⟩::rest) scope pos) spos) (vB (v5 own.length wi g fun acc=>eF ti (t acc)) (nX i)):=by
 intro pins s σ H D I h
 rw [exec_Assign_Name_used _ _ _ _ hsw]
 refine wpAny_bind (wpAny_standAt (wpAny_bind ?_))
 show wpAny _ X.A (do let _ <-comprehension (.ListComp elt (⟨tg,iter,ifs,0⟩::rest) scope pos) scope X.env _ (newList []) false (eval iter X.env) (some (assign (.Name x pos') X.env))) _ _ s
 refine wpAny_bind (wpAny_mono (wpAny_comprehension_free (use:=some (assign (.Name x pos') X.env)) (Q:=fun _ s'=>SP X pins D .next s') (cl:=bU X.env.cells scope.names []) rfl hs (rH fun y hy hk=>I.ok.has y.1 (S.fr y hy hk)) S.kind (fun y hy hk=>cD S.uniq (by rw [<-hk];exact hy))
  ?_) (fun _ s' hq=>wpAny_pure (wpAny_pure hq)) fun _ _ e=>e)
 refine thn (hi pins s σ H _ I h) fun v s1 h1=>thn h1 fun itv s2 h2=>?_
 refine jR (Q:=fun y H'=>nX i y σ H' D.nx) hc S hgt hts htl h2 (RR:=fun acc C=>compPost (model X.prog X.w) X.A X.xe (some (assign (.Name x pos') X.env)) (fun _ s'=>SP X pins D .next s') acc C) fun acc C H' s' I' f' m' q=>?_
 obtain ⟨m,nm⟩:=m'
 show wpAny _ X.A (assign (.Name x pos') X.env (.ref acc)) _ _ _
 refine wpAny_assign_Name (ld (v:=.ref acc) I' hN hix (.inl hx) rfl (fun s'' I'' hch=>?_) (.inr hx))
 obtain ⟨a,sb1,ha⟩:=hch
 have ne:C ≠ a:=by
  rcases ha with e | e
  ·rw [e];exact f'.2.1
  ·exact fun z=>f'.2.2.2.2.1 x a e z.symm
 refine ⟨m,nm.sameBut sb1 ne,fun h' sb=>⟨_,H',?_,q⟩⟩
 exact I''.turned (t':=s''.toks) (fun b o hb e=>(sb.2 b hb).trans e) f'.1 f'.2.1 f'.2.2.2.1 f'.2.2.2.2.1 f'.2.2.2.2.2
end
end L2
namespace HT
open PySem PyProof.Rows
section
variable {prog:Program} {w:World} {A:Around} {E:Value->Shared->Prop} {s:Shared}
theorem v7 {t b:Addr} {ws:List Value} {Q:Value->Shared->Prop} (ht:IsTup s.heap t ([]:List Value).toArray) (hb:IsTup s.heap b ws.toArray) (h:Q (.ref b) s):wpAny (model prog w) A (binaryOp .Add (.ref t) (.ref b)) Q E s:=by
 obtain ⟨⟨cls,dd,data,sl⟩,ho,hc,n,hd⟩:=id ht
 obtain ⟨⟨cls2,dd2,data2,sl2⟩,ho2,hc2,n2,hd2⟩:=id hb
 simp only at hc hd hc2 hd2
 subst hc hd hc2 hd2
 exact concat_meets ⟨_,ho,rfl⟩ ⟨_,ho2,rfl⟩ noFill_tuple_add seq_tuple_add PySem.F.slot_tuple_add PySem.F.entry_tuple_add (PySem.F.args_tuple_add_2 _ _)
   (tuple_addW0 t b _ ws.toArray n n2 dd dd2 sl sl2 (by simp)) ⟨ho,ho2,h⟩
theorem fT {t sl:Addr} {items:Array Value} {vl vu:Value} {lo hi:Option Int} {Q:Value->Shared->Prop} (ht:IsTup s.heap t items) (hs:s.heap.IsSliceOf sl vl vu .none) (pl:IsPart vl lo) (pu:IsPart vu hi)
  (hw:sIx items.size 0 lo=0/\sIx items.size items.size hi=items.size) (h:Q (.ref t) s):wpAny (model prog w) A (getItem (.ref t) (.ref sl)) Q E s:=by
 obtain ⟨os,hos,hcs,hds⟩:=id hs
 have hTs:s.TypeIs (.ref sl) "slice" := ⟨os,hos,hcs⟩
 obtain ⟨o,ho,hc,n,hd⟩:=id ht
 unfold getItem
 try with_reducible refine wpAny_holding ?_
 first | refine wpAny_bind (wpAny_pure ?_) | skip
 refine wpAny_bind (wpAny_sequenceKey ht.typeIs (by decide) ?_)
 refine wpAny_bind (wpAny_callSpecial?_slot (name:=Str.ofString "__getitem__") ht.typeIs PyProof.Rows.slot_tuple_getitem
  (wpAny_call_entry PyProof.Rows.slot_tuple_getitem ht.typeIs entry_tuple_getitem ?_ (args_tuple_getitem _ _)))
 show wpAny _ _ (Builtin.Tuple.tupleItemsOf (.ref t) >>= _) _ _ s
 refine wpAny_bind (tupleItemsOf_ ht ?_)
 refine wpAny_bind (wpAny_typeOf hTs ?_)
 rw [if_pos (by decide)]
 refine wpAny_bind (dn hs pl pu ?_)
 have hyes:((((sIx items.size 0 lo:Nat):Int) == 0 && (1:Int) == 1 && (sIx items.size items.size hi - sIx items.size 0 lo) == items.size)=true):=by
  rw [hw.1,hw.2];simp
 show wpAny _ _ (if (((sIx items.size 0 lo:Nat):Int) == 0 && (1:Int) == 1 && (sIx items.size items.size hi - sIx items.size 0 lo) == items.size)=true then _ else _) _ _ s
 rw [if_pos hyes]
 have hT:s.TypeIs (.ref t) "tuple" := ht.typeIs
 first
  | (refine wpAny_bind (m:=Builtin.Tuple.tupleIsExact _) ?_
     unfold Builtin.Tuple.tupleIsExact
     refine wpAny_bind (wpAny_typeOf hT (wpAny_pure ?_))
     rw [if_pos (by decide)]
     exact wpAny_bind (wpAny_rule (wpAny_pure ⟨_,rfl,wpAny_pure h⟩)))
end
end HT
namespace L2
open PySem PySem.Spec PyProof.Rows
theorem oh {s:Shared} {h':Heap} {o:Obj} (hk:∀ b x,b ∉ [s.heap.objs.size]->(s.heap.push o).get? b=some x->h'.get? b=some x):∀ b x,s.heap.get? b=some x->h'.get? b=some x:=
 fun b x e=>hk b x (fun hm=>by rw [List.mem_singleton.mp hm] at e;exact Nat.lt_irrefl _ (Heap.lt_size e)) (Heap.get?_push_of_some _ e)
section
variable {X:Cx}
noncomputable def IV (K:PySem.W.Frag):R2:=fun x y H Q=>∃ a b xs ys,x = .ref a/\y = .ref b/\SqT K H a xs/\SqT K H b ys/\xs.length+ys.length<=sizeLine ∧
 (xs=[]->Q (.ref b) H)/\(xs ≠ []->ys=[]->Q (.ref a) H)/\(xs ≠ []->ys ≠ []->∀ p,H p=none->Q (.ref p) (upd H p (.tup (xs++ys))))
theorem zG:OpR X (binaryOp .Add) (IV X.K):=by
 intro pins s σ H x y v u Q I rx ry h
 obtain ⟨a,b,xs,ys,rfl,rfl,ha,hb,hz,q0,q1,q2⟩:=h
 by_cases hx:xs=[]
 ·subst hx
  cases rx
  cases ry
  obtain ⟨its,r1,p1,_⟩:=I.tuple ha
  obtain ⟨its2,r2,p2,_⟩:=I.tuple hb
  cases r1
  exact HT.v7 p1 p2 ⟨.ref b,H,I,rfl,q0 rfl⟩
 ·exact zr pins s σ H _ _ v u Q I rx ry ⟨a,b,xs,ys,rfl,rfl,ha,hb,hx,hz,q1 hx,q2 hx⟩
noncomputable def KS (K:PySem.W.Frag):V->Option Int->Option Int->Hp->VK->Prop:=fun x lo hi H Q=>∃ a xs,x = .ref a/\SqT K H a xs ∧
 ((HT.sIx xs.length 0 lo=0/\HT.sIx xs.length xs.length hi=xs.length)->Q (.ref a) H) ∧
 (¬ (HT.sIx xs.length 0 lo=0/\HT.sIx xs.length xs.length hi=xs.length)->∀ p,H p=none->Q (.ref p) (upd H p (.tup (jN xs lo hi))))
theorem zH:SlR X (KS X.K):=by
 intro pins s σ H x v vl vu lo hi sl Q I rx hs pl pu h
 obtain ⟨a,xs,rfl,hx,q1,q2⟩:=h
 by_cases hw:(HT.sIx xs.length 0 lo=0/\HT.sIx xs.length xs.length hi=xs.length)
 ·cases rx
  obtain ⟨its,r,ht,hz⟩:=I.tuple hx
  have hlen:its.toArray.size=xs.length:=by rw [List.size_toArray];exact r.length.symm
  refine ⟨"tuple", _,PyProof.Rows.slot_tuple_getitem.lookup,ht.typeIs,?_⟩
  exact HT.fT ht hs pl pu (by rw [hlen];exact hw) ⟨.ref a,H,I,rfl,q1 hw⟩
 ·exact D1 pins s σ H _ v vl vu lo hi sl Q I rx hs pl pu ⟨a,xs,rfl,hx,hw,q2 hw⟩
theorem oi:aN X (.builtin "isinstance") (fun xs H Q=>∃ x n t b,xs=[x,.ty n]/\TyOf X.K H x t/\PySem.W.kitOne X.K t (.type n)=some b/\Q (.bl b) H):=by
 intro pins s σ H xs us Q I r h
 obtain ⟨x,n,t,b,rfl,ty,e,q⟩:=h
 obtain ⟨u,w',rfl,rx,ry⟩:=rC r
 cases ry
 exact tN I rx ty e fun tk=>⟨.bl b,H,I.tok tk,rfl,q⟩
theorem gf:∀ {bs:List Bool} {us:List Value},aK (bs.map V.bl) us->us=bs.map Value.bool
 | [],_,.nil=>rfl
 | _::_,_,.cons r t=>by rw [List.map_cons,gf t];cases r;rfl
theorem tV (hc:X.calm=true):aN X (.builtin "all") (fun xs H Q=>∃ (l:Addr) (bs:List Bool),xs=[.ref l]/\SqL X.K H l (bs.map V.bl)/\Q (.bl (bs.all id)) H):=by
 intro pins s σ H xs us Q I r h
 obtain ⟨l,bs,rfl,hl,q⟩:=h
 obtain ⟨u,rfl,ru⟩:=cr r
 cases ru
 obtain ⟨its,rv,p,hz⟩:=I.list hl
 have e:=gf rv
 subst e
 have hL:=p.isList
 have hlt:l < s.heap.objs.size:=by obtain ⟨_,e,_⟩:=hL;exact Heap.lt_size e
 refine call_all_walk (wpAny_pyIter_list hL ?_)
 refine ⟨s.heap.objs.size,[s.heap.objs.size,l],[s.heap.objs.size],_,_,_,fun i=>(bs[i]?).getD true,rfl,Walks.list (A:=X.A.in1) (I.ok.hd hc) _ l (Nat.ne_of_lt hlt) _,
  ⟨⟨_,Heap.get?_push_size _ rfl,rfl,rfl⟩,hL.push _⟩,fun i v s' Q' E' hP hQ=>?_,fun h' tk hk=>?_⟩
 ·have hP':(bs.map Value.bool)[i]?=some v:=by simpa using hP
  rw [List.getElem?_map] at hP'
  cases hb:bs[i]? with
  | none=>rw [hb] at hP';cases hP'
  | some b=>
   rw [hb] at hP'
   have ev:Value.bool b=v:=Option.some.inj hP'
   subst ev
   simp only [hb,Option.getD_some] at hQ
   exact wpAny_truthy_bool hQ
 ·have e:((List.range (bs.map Value.bool).toArray.size).all fun i=>(bs[i]?).getD true)=bs.all id:=by
   rw [List.size_toArray,List.length_map,Bool.eq_iff_iff]
   simp only [List.all_eq_true,List.mem_range,id]
   constructor
   ·intro h b hb
    obtain ⟨i,hi,rfl⟩:=List.mem_iff_getElem.mp hb
    have:=h i hi
    rwa [gEG hi,Option.getD_some] at this
   ·intro h i hi
    rw [gEG hi,Option.getD_some]
    exact h _ (List.getElem_mem hi)
  rw [e]
  exact ⟨.bl (bs.all id),H,I.kept (t':=tk) (oh hk),rfl,q⟩
theorem tW (hc:X.calm=true):aN X (.builtin "any") (fun xs H Q=>∃ (l:Addr) (bs:List Bool),xs=[.ref l]/\SqL X.K H l (bs.map V.bl)/\Q (.bl (bs.any id)) H):=by
 intro pins s σ H xs us Q I r h
 obtain ⟨l,bs,rfl,hl,q⟩:=h
 obtain ⟨u,rfl,ru⟩:=cr r
 cases ru
 obtain ⟨its,rv,p,hz⟩:=I.list hl
 have e:=gf rv
 subst e
 have hL:=p.isList
 have hlt:l < s.heap.objs.size:=by obtain ⟨_,e,_⟩:=hL;exact Heap.lt_size e
 refine call_any_walk (wpAny_pyIter_list hL ?_)
 refine ⟨s.heap.objs.size,[s.heap.objs.size,l],[s.heap.objs.size],_,_,_,fun i=>(bs[i]?).getD false,rfl,Walks.list (A:=X.A.in1) (I.ok.hd hc) _ l (Nat.ne_of_lt hlt) _,
  ⟨⟨_,Heap.get?_push_size _ rfl,rfl,rfl⟩,hL.push _⟩,fun i v s' Q' E' hP hQ=>?_,fun h' tk hk=>?_⟩
 ·have hP':(bs.map Value.bool)[i]?=some v:=by simpa using hP
  rw [List.getElem?_map] at hP'
  cases hb:bs[i]? with
  | none=>rw [hb] at hP';cases hP'
  | some b=>
   rw [hb] at hP'
   have ev:Value.bool b=v:=Option.some.inj hP'
   subst ev
   simp only [hb,Option.getD_some] at hQ
   exact wpAny_truthy_bool hQ
 ·have e:((List.range (bs.map Value.bool).toArray.size).any fun i=>(bs[i]?).getD false)=bs.any id:=by
   rw [List.size_toArray,List.length_map,Bool.eq_iff_iff]
   simp only [List.any_eq_true,List.mem_range,id]
   constructor
   ·rintro ⟨i,hi,h⟩
    rw [gEG hi,Option.getD_some] at h
    exact ⟨_,List.getElem_mem hi,h⟩
   ·rintro ⟨b,hb,h⟩
    obtain ⟨i,hi,rfl⟩:=List.mem_iff_getElem.mp hb
    exact ⟨i,hi,by rw [gEG hi,Option.getD_some];exact h⟩
  rw [e]
  exact ⟨.bl (bs.any id),H,I.kept (t':=tk) (oh hk),rfl,q⟩
theorem Ea:OpR X (compareOp .Is) (fun x y H Q=>∃ b c,x = .bl b/\y = .bl c/\Q (.bl (b == c)) H):=by
 intro pins s σ H x y v u Q I rx ry h
 obtain ⟨b,c,rfl,rfl,q⟩:=h
 cases rx;cases ry
 exact is_bool ⟨.bl _,H,I,rfl,q⟩
theorem tX:OpR X (compareOp .IsNot) (fun x y H Q=>∃ b c,x = .bl b/\y = .bl c/\Q (.bl (b != c)) H):=by
 intro pins s σ H x y v u Q I rx ry h
 obtain ⟨b,c,rfl,rfl,q⟩:=h
 cases rx;cases ry
 exact isnot_bool ⟨.bl _,H,I,rfl,q⟩
theorem jS (hc:X.calm=true):∀ {pins:List (Addr × Obj)} {s:Shared} {σ:St} {H:Hp} {Q:VK} {r:Addr} {n:Nat} {t u v:Tok},Inv X pins σ H s->IsRange s.heap r 0 n 1 t u v->n<=1000->(∀ l,H l=none->Q (.ref l) (upd H l (.lst ((List.range n).map fun (i:Nat)=>V.int i)))) ->
  wpAny (model X.prog X.w) X.A (call (.type "list") [.ref r]) (EP X pins σ Q) X.xe s:=by
 intro pins s σ H Q r n t u v I hr hn q
 have hsm:Builtin.Range.small 0 n 1=true:=small_one (by omega) (by omega) (by omega) (by omega)
 refine call_list_range (n:=n) (I.ok.hd hc) hr hsm (by rw [rangeSize_one];split <;> omega) (by omega) fun h' tk acc' c' hk hS' hacc=>?_
 refine ⟨.ref s.heap.objs.size,_,I.laid (t':=tk) (o:=.lst ((List.range n).map fun (i:Nat)=>V.int i)) hk (Nat.le_refl _) ?_,rfl,q _ (I.hok.fresh (Nat.le_refl _))⟩
 have hsz:acc'.size=n:=hacc.1
 refine ⟨by rw [List.length_map,List.length_range];exact Nat.le_of_lt (tS hn),acc'.toList,c',?_,by simpa using hS'⟩
 have go:∀ (m:Nat) (k:Nat) (l:List Value),l.length=m->(∀ j x,l[j]?=some x->∃ tk,x=Value.int (((k+j:Nat):Nat):Int) tk)->aK ((List.range' k m).map fun (i:Nat)=>V.int i) l:=by
  intro m
  induction m with
  | zero=>intro k l hl _;cases l with | nil=>exact .nil | cons _ _=>cases hl
  | succ m ih=>
   intro k l hl hx
   cases l with
   | nil=>cases hl
   | cons x l=>
    rw [List.range'_succ,List.map_cons]
    obtain ⟨t,e⟩:=hx 0 x rfl
    refine .cons ⟨t,by simpa using e⟩ (ih (k+1) l (by simpa using hl) fun j y hy=>?_)
    obtain ⟨t',e'⟩:=hx (j+1) y (by simpa using hy)
    exact ⟨t',by rw [e',show ((k+(j+1):Nat):Int)=((k+1+j:Nat):Int) from by omega]⟩
 rw [List.range_eq_range']
 refine go n 0 acc'.toList (by simpa using hsz) fun j x hx=>?_
 obtain ⟨tk',e⟩:=hacc.2 j x (by simpa using hx)
 exact ⟨tk',by rw [e,show (0:Int)+(j:Nat) * 1=((0+j:Nat):Int) from by omega]⟩
end
end L2
namespace HT
open PySem PyProof.Rows
open AutoSeq1 (wpAny_loadPart')
section
variable {prog:Program} {w:World} {A:Around} {E:Value->Shared->Prop} {s:Shared}
theorem jr {it t:Addr} {i:Nat} {items:Array Value} {x:Value} {Q:Value->Shared->Prop} (hit:s.heap.IsTupleIter it t i) (ht:s.heap.IsTuple t items) (hx:items[i]?=some x)
  (hQ:∀ h',h'.IsTupleIter it t (i+1)->Heap.SameBut it s.heap h'->Q x { s with heap:=h' }):wpAny (model prog w) A (Builtin.SmallTypes.nextOf (.ref it)) Q E s:=by
 obtain ⟨o,ho,hc,hd⟩:=id hit
 obtain ⟨ol,hol,_,nl,hdl⟩:=ht
 unfold Builtin.SmallTypes.nextOf
 refine wpAny_bind (wpAny_callSpecial?_slot (name:=Str.ofString "__next__") hit.typeIs PySem.F.slot_tuple_iterator_next
  (wpAny_call_entry PySem.F.slot_tuple_iterator_next hit.typeIs PySem.F.entry_tuple_iterator_next ?_ (PySem.F.args_tuple_iterator_next_1 _)))
 show wpAny _ _ (field (.ref it) 0 >>= _) _ _ s
 refine wpAny_bind (wpAny_field ho hd (x:=.ref t) rfl ?_)
 show wpAny _ _ (if (Value.ref t == Value.none)=true then _ else _) _ _ s
 rw [if_neg (show ¬ ((Value.ref t == Value.none)=true) from Bool.false_ne_true)]
 show wpAny _ _ (field (.ref it) 1 >>= _) _ _ s
 refine wpAny_bind (wpAny_field ho hd (x:=.int i 0) rfl ?_)
 show wpAny _ _ (seqItems? (.ref t) >>= _) _ _ s
 refine wpAny_bind (wpAny_seqItems hol hdl ?_)
 simp only [Int.toNat_natCast,hx]
 refine wpAny_bind (wpAny_setField ho hd (by simp) (wpAny_pure ⟨x,rfl,wpAny_pure (hQ _ ?_ (Heap.SameBut.update ..))⟩))
 exact ⟨_,Heap.get?_update_self _ ho (Obj.isFreed_of_fields (Obj.data_mapFields hd _)),(Obj.cls_mapFields ..).trans hc,by
  rw [Obj.data_mapFields hd];simp [rawInt]⟩
theorem jT {it t:Addr} {i:Nat} {items:Array Value} {Q:Value->Shared->Prop} (hh:A.handled=none) (hit:s.heap.IsTupleIter it t i) (ht:s.heap.IsTuple t items) (hx:items[i]?=none)
  (hE:∀ h' e,Heap.ExtBut it s.heap h'->(∃ o,h'.get? e=some o/\o.cls = .type "StopIteration")->E (.ref e) { s with heap:=h' }):wpAny (model prog w) A (Builtin.SmallTypes.nextOf (.ref it)) Q E s:=by
 obtain ⟨o,ho,hc,hd⟩:=id hit
 obtain ⟨ol,hol,_,nl,hdl⟩:=ht
 unfold Builtin.SmallTypes.nextOf
 refine wpAny_bind (wpAny_callSpecial?_slot (name:=Str.ofString "__next__") hit.typeIs PySem.F.slot_tuple_iterator_next
  (wpAny_call_entry PySem.F.slot_tuple_iterator_next hit.typeIs PySem.F.entry_tuple_iterator_next ?_ (PySem.F.args_tuple_iterator_next_1 _)))
 show wpAny _ _ (field (.ref it) 0 >>= _) _ _ s
 refine wpAny_bind (wpAny_field ho hd (x:=.ref t) rfl ?_)
 show wpAny _ _ (if (Value.ref t == Value.none)=true then _ else _) _ _ s
 rw [if_neg (show ¬ ((Value.ref t == Value.none)=true) from Bool.false_ne_true)]
 show wpAny _ _ (field (.ref it) 1 >>= _) _ _ s
 refine wpAny_bind (wpAny_field ho hd (x:=.int i 0) rfl ?_)
 show wpAny _ _ (seqItems? (.ref t) >>= _) _ _ s
 refine wpAny_bind (wpAny_seqItems hol hdl ?_)
 simp only [Int.toNat_natCast,hx]
 refine wpAny_bind (wpAny_rule (wpAny_bind (wpAny_setField ho hd (by simp) ?_)))
 show wpAny _ _ (newExc (.type "StopIteration") [] >>= _) _ _ _
 refine wpAny_bind ?_
 simp only [newExc,newTuple]
 refine wpAny_bind (wpAny_newObj_type ?_ (by size_fits))
 refine wpAny_bind (m:=firstArgMember _ _) (wpAny_of_eq (a:=Value.none) (by first | rfl | (simp only [firstArgMember];rfl)) ?_)
 refine wpAny_newObj_type ?_ (by size_fits)
 simp only [raiseNew]
 refine wpAny_bind (wpAny_handled ?_)
 first | rw [show A.in1.handled=none from hh] | rw [hh]
 refine wpAny_bind (wpAny_pure (wpAny_throw ?_))
 exact hE _ _ (((Heap.SameBut.update ..).extBut.push _).push _) ⟨_,Heap.get?_push_size _ rfl,rfl⟩
end
theorem v8 {prog:Program} {w:World} {A:Around} (hh:A.handled=none) (it l:Addr) (hne:l ≠ it) (items:Array Value) :
  Draws prog w A it [it,l] items.size (fun i v=>items[i]?=some v) (fun i h=>h.IsTupleIter it l i/\h.IsTuple l items) where
 live:=fun _ _ st=>let ⟨o,ho,_⟩:=st.1;⟨o,ho⟩
 frame:=fun _ _ _ st hk=>⟨st.1.at fun o e=>hk it (by simp) o e,let ⟨o,e,r⟩:=st.2;⟨o,hk l (by simp) o e,r⟩⟩
 item:=fun i s Q E hi st hQ=>by
  refine jr st.1 st.2 (x:=items[i]) (by simp [hi]) fun h' hit' hs'=>?_
  exact hQ _ h' s.toks (by simp [hi]) ⟨hit',let ⟨o,e,r⟩:=st.2;⟨o,hs'.extBut l o hne e,r⟩⟩ hs'
 done:=fun s Q E st hE=>jT hh st.1 st.2 (by simp) hE
theorem oj (l:Addr) (items:Array Value) (n:Nat) (dct:Option Addr) (sl:Array (Option Value)) :
  Meets (Builtin.«enumerate.__new__» ⟨[.type "enumerate", .ref l],[]⟩) (fun _ R s=>s.heap.get? l=some { cls:=.type "tuple", dict:=dct,data:=.seq items n,slots:=sl } ∧
   R (.ok (.ret (.ref (s.heap.push { cls:=.type "tuple_iterator", data:=.fields #[.ref l,.int 0 0] }).objs.size)))
    { s with heap:=(s.heap.push { cls:=.type "tuple_iterator", data:=.fields #[.ref l,.int 0 0] }).push { cls:=.type "enumerate", data:=.fields #[.none,.bool false,.ref s.heap.objs.size,rawInt 0,.none,.none] } }):=
 .of_wp fun prog w A R s h=>by
  obtain ⟨hp,g,d,tk,os⟩:=s;obtain ⟨hl,h⟩:=h
  have hsub:=sub_enumerate
  have hL:Heap.IsTuple (Shared.heap ⟨hp,g,d,tk,os⟩) l items:=⟨_,hl,rfl,n,rfl⟩
  wp_walk using wpAny_loadPart' hl
  refine wpAny_stack_any fun st=>wpAny_pure ?_
  split
  ·rename_i c _ _ _ _ _
   cases (c == Value.type "enumerate")
   ·wp_walk using wpAny_loadPart' hl,wpAny_pyIter_tuple hL
    exact ⟨_,rfl,h⟩
   ·wp_walk using wpAny_loadPart' hl,wpAny_pyIter_tuple hL
    exact ⟨_,rfl,h⟩
  ·wp_walk using wpAny_loadPart' hl,wpAny_pyIter_tuple hL
   exact ⟨_,rfl,h⟩
theorem qc {prog:Program} {w:World} {A:Around} {E:Value->Shared->Prop} {s:Shared} {l:Addr} {items:Array Value} {Q:Value->Shared->Prop} (hL:IsTup s.heap l items)
  (h:∀ h',IsEnum h' (s.heap.objs.size+1) s.heap.objs.size 0 .none->h'.IsTupleIter s.heap.objs.size l 0->h'.objs.size=s.heap.objs.size+2 ->
   (∀ b o,s.heap.get? b=some o->h'.get? b=some o)->Q (.ref (s.heap.objs.size+1)) { s with heap:=h' }) :
  wpAny (model prog w) A (call (.type "enumerate") [.ref l]) Q E s:=by
 obtain ⟨⟨c,dct,dt,sl⟩,hl,hc,n,hd⟩:=hL
 replace hc:c = .type "tuple" := hc
 replace hd:dt = .seq items n:=hd
 subst hc hd
 refine callType_new PySem.F.called_enumerate (by decide) (PySem.F.typeCall_enumerate_1 _) (PySem.F.newCall_enumerate_1 _) (fun obj=>PySem.F.args_object_init_2 obj _) PySem.F.entry_enumerate_new
  (oj l items n dct sl) ⟨hl,?_⟩
 have hz:(s.heap.push { cls:=.type "tuple_iterator", data:=.fields #[.ref l,.int 0 0] }).objs.size=s.heap.objs.size+1:=Heap.size_push ..
 show _/\_
 rw [hz]
 have he:IsEnum ((s.heap.push { cls:=.type "tuple_iterator", data:=.fields #[.ref l,.int 0 0] }).push
   { cls:=.type "enumerate", data:=.fields #[.none,.bool false,.ref s.heap.objs.size,rawInt 0,.none,.none] }) (s.heap.objs.size+1) s.heap.objs.size 0 .none:=by
  have:=Heap.get?_push_size (s.heap.push { cls:=.type "tuple_iterator", data:=.fields #[.ref l,.int 0 0] })
   (o:={ cls:=.type "enumerate", data:=.fields #[.none,.bool false,.ref s.heap.objs.size,rawInt 0,.none,.none] }) rfl
  rw [hz] at this;exact this
 exact ⟨⟨_,he,rfl⟩,h _ he ⟨_,Heap.get?_push_of_some _ (Heap.get?_push_size _ rfl),rfl,rfl⟩ (by rw [Heap.size_push,hz]) fun b o x=>Heap.get?_push_of_some _ (Heap.get?_push_of_some _ x)⟩
end HT
namespace L2
open PySem PySem.Spec PyProof.Rows
noncomputable def Ite (K:PySem.W.Frag) (a:Addr) (sq:PySem.W.Frag->Hp->Addr->List V->Prop):It:=
 ⟨fun i H=>∃ xs x,sq K H a xs/\xs[i]?=some x,fun i H x H'=>∃ T,H T=none/\x = .ref T/\∀ xs v,sq K H a xs->xs[i]?=some v->H'=upd H T (.tup [.int i,v]),fun i H=>∃ xs,sq K H a xs/\xs.length=i⟩
theorem Inv.turnedLaid {X:Cx} {pins:List (Addr × Obj)} {σ:St} {H:Hp} {s:Shared} {h':Heap} {T:Addr} {o:HO} {t':Nat} {ch:List Addr} (I:Inv X pins σ H s) (hf:∀ b ∈ ch,fS X pins H b)
  (k:∀ b ob,b ∉ ch->s.heap.get? b=some ob->h'.get? b=some ob) (hp:s.heap.objs.size<=T) (new:bA X.prog X.w (upd H T o) h' T o):Inv X pins σ (upd H T o) { s with heap:=h',toks:=t' }:=by
 have fr:=I.hok.fresh hp
 have neT:∀ b ob,s.heap.get? b=some ob->b ≠ T:=fun b ob e=>Nat.ne_of_lt (Nat.lt_of_lt_of_le (Heap.lt_size e) hp)
 refine I.step (g':=s.gens) (d':=s.drawn) (ch:=ch) (fun b hb=>⟨(hf b hb).2.2.2.1,(hf b hb).2.1,(hf b hb).2.2.2.2.1,(hf b hb).2.2.2.2.2⟩) (fun b ob _ _ hc e _=>k b ob hc e) (fun b ob _ _ hc e _=>⟨ob.slots,k b ob hc e⟩)
  (fun b ob _ e n=>by rw [ax (neT b ob e)];exact n) (fun b ob hc e=>⟨ob,k b ob hc e⟩) (fun b xs q=>by rw [ax (aQ q fr)];exact q) (fun b u xs q=>by rw [ax (aQ q fr)];exact q)
  (fun b ps q=>⟨#[],by rw [ax (aQ q fr),q];simp⟩) (fun m hm=>?_) (fun b u q=>?_) I.bare
 ·obtain ⟨ob,es,ep,ho',r'⟩:=hm
  exact ⟨ob,es,ep,k _ ob (fun z=>(hf _ z).2.1 rfl) ho',r'⟩
 ·by_cases hb:b=T
  ·subst hb;rw [bj] at q;cases q;exact new
  ·rw [ax hb] at q
   refine (I.hok b u q).stay (fun c v hc q'=>k c v (fun z=>?_) q') (fun c q=>by rw [ax (aQ q fr)];exact q) fun c xs q=>by rw [ax (aQ q fr)];exact q
   have n:=(hf c z).1
   rcases hc with w | w
   ·rw [w,q] at n;cases n
   ·rw [w] at n;cases n
theorem Inv.turnedAll {X:Cx} {pins:List (Addr × Obj)} {σ:St} {H:Hp} {s:Shared} {h':Heap} {t':Nat} {ch:List Addr} (I:Inv X pins σ H s) (hf:∀ b ∈ ch,fS X pins H b)
  (k:∀ b ob,b ∉ ch->s.heap.get? b=some ob->h'.get? b=some ob):Inv X pins σ H { s with heap:=h',toks:=t' }:=by
 refine I.step (g':=s.gens) (d':=s.drawn) (ch:=ch) (fun b hb=>⟨(hf b hb).2.2.2.1,(hf b hb).2.1,(hf b hb).2.2.2.2.1,(hf b hb).2.2.2.2.2⟩) (fun b ob _ _ hc e _=>k b ob hc e) (fun b ob _ _ hc e _=>⟨ob.slots,k b ob hc e⟩)
  (fun b ob _ e n=>n) (fun b ob hc e=>⟨ob,k b ob hc e⟩) (fun b xs q=>q) (fun b u xs q=>q)
  (fun b ps q=>⟨#[],by rw [q];simp⟩) (fun m hm=>?_) (fun b u q=>?_) I.bare
 ·obtain ⟨ob,es,ep,ho',r'⟩:=hm
  exact ⟨ob,es,ep,k _ ob (fun z=>(hf _ z).2.1 rfl) ho',r'⟩
 ·refine (I.hok b u q).stay (fun c v hc q'=>k c v (fun z=>?_) q') (fun c q=>q) fun c xs q=>q
  have n:=(hf c z).1
  rcases hc with w | w
  ·rw [w,q] at n;cases n
  ·rw [w] at n;cases n
theorem qd {P:Program} {w:World} {K:PySem.W.Frag} {elts:List Expr} {x1:Nat} {tp:Pos} (a e it:Addr) (hei:e ≠ it) :
  Turn P w K (.Tuple elts x1 tp) (Ite K a SqL) [e,it] e (fun i h=>(∃ old,IsEnum h e it i old)/\h.IsListIter it a i) where
 mem:=by simp
 obj:=fun i h st b hb=>by
  obtain ⟨⟨old,he⟩,o,eo,c,d⟩:=st
  rcases List.mem_cons.mp hb with z | z
  ·subst z;exact ⟨_,he,fun v z=>by have z':Data.fields _=Data.cell v:=z;cases z'⟩
  ·have z':=List.mem_singleton.mp z;subst z';exact ⟨o,eo,fun v z=>by rw [d] at z;cases z⟩
 keep:=fun i h h' st k=>⟨let ⟨old,he⟩:=st.1;⟨old,k e (by simp) _ he⟩,st.2.at fun o eo=>k it (by simp) o eo⟩
 item:=by
  intro X hP hw hK hc i pins s σ H E I hf st hg
  subst hP hw hK
  obtain ⟨xs,x,hq,hx⟩:=hg
  obtain ⟨its,rv,p,hz⟩:=I.list hq
  obtain ⟨u,hu,ru⟩:=rv.get hx
  obtain ⟨⟨old,he⟩,hit⟩:=st
  have hL:s.heap.IsList a its.toArray:=p.isList
  have hae:e ≠ a:=fun z=>by
   subst z
   obtain ⟨o,ho,hc',n,hd'⟩:=id hL
   rw [he] at ho;cases ho
   have z':Data.fields _=Data.seq its.toArray n:=hd'
   cases z'
  have hai:a ≠ it:=fun z=>by
   subst z
   obtain ⟨o,ho,hc',n,hd'⟩:=id hL
   obtain ⟨o',ho',c',d'⟩:=id hit
   rw [ho'] at ho;cases ho;rw [d'] at hd';cases hd'
  have hi:i < its.toArray.size:=by
   have:=(List.getElem?_eq_some_iff.mp hu).1
   simpa using this
  refine wpAny_pyNext_enum_itemD (Draws.list (A:=X.A.in1) (I.ok.hd hc) it a hai its.toArray) he ⟨hit,hL⟩ hi hei (by simp [hei,hae]) fun y h' tk hP ho hs' hT hsz hk=>?_
  have ey:y=u:=by
   have z:its.toArray[i]?=some u:=by simpa using hu
   rw [z] at hP;exact (Option.some.inj hP).symm
  subst ey
  refine ⟨_,rfl,?_⟩
  refine wpAny_letOwnedTupleGo_enum ho fun h2 he2 hs2=>?_
  have helt:e < s.heap.objs.size:=Heap.lt_size he
  have hilt:it < s.heap.objs.size:=by obtain ⟨o,eo,_⟩:=hit;exact Heap.lt_size eo
  have hT2:h2.get? s.heap.objs.size=some { cls:=.type "tuple", data:=.seq #[.int i tk,y] }:=(hs2.2 _ (Nat.ne_of_gt helt)).trans hT
  have fresh:=I.hok.fresh (Nat.le_refl s.heap.objs.size)
  refine ⟨.ref s.heap.objs.size,upd H s.heap.objs.size (.tup [.int i,x]),?_,rfl,⟨_,fresh,rfl,fun ys v hy hv=>?_⟩,⟨⟨y,by simpa using he2⟩,hs'.1.at fun o eo=>(hs2.2 it (Ne.symm hei)).trans eo⟩,fun b hb=>?_⟩
  ·exact I.turnedLaid (t':=tk+1) hf (fun b ob hb eb=>(hs2.2 b fun z=>hb (by simp [z])).trans (hk b ob (fun z=>hb (by simp [z])) (fun z=>hb (by simp [z])) eb)) (Nat.le_refl _)
    ⟨by show 2<=sizeLine;decide,[.int i tk,y],.cons ⟨tk,rfl⟩ (.cons ru .nil),⟨_,hT2,rfl,_,rfl,rfl⟩⟩
  ·rw [I.list_inj hy hq,hx] at hv;cases hv;rfl
  ·rcases List.mem_cons.mp hb with z | z
   ·rw [z,ax (Nat.ne_of_lt helt)];exact (hf e (by simp)).1
   ·rw [List.mem_singleton.mp z,ax (Nat.ne_of_lt hilt)];exact (hf it (by simp)).1
 done:=by
  intro X hP hw hK hc i pins s σ H E I hf st hg
  subst hP hw hK
  obtain ⟨xs,hq,hx⟩:=hg
  obtain ⟨its,rv,p,hz⟩:=I.list hq
  obtain ⟨⟨old,he⟩,hit⟩:=st
  have hL:s.heap.IsList a its.toArray:=p.isList
  have hai:a ≠ it:=fun z=>by
   subst z
   obtain ⟨o,ho,hc',n,hd'⟩:=id hL
   obtain ⟨o',ho',c',d'⟩:=id hit
   rw [ho'] at ho;cases ho;rw [d'] at hd';cases hd'
  have hn:its.toArray.size=i:=by rw [List.size_toArray,<-rv.length,hx]
  subst hn
  refine wpAny_pyNext_enum_endD (Draws.list (A:=X.A.in1) (I.ok.hd hc) it a hai its.toArray) he ⟨hit,hL⟩ fun h' eb=>⟨rfl,?_⟩
  exact I.turnedAll (t':=s.toks) hf fun b ob hb q=>eb b ob (fun z=>hb (by simp [z])) q
 self:=fun _ _ _ _ _ st h=>let ⟨⟨old,he⟩,_⟩:=st;wpAny_pyIter_enum he h
theorem qe {P:Program} {w:World} {K:PySem.W.Frag} {elts:List Expr} {x1:Nat} {tp:Pos} (a e it:Addr) (hei:e ≠ it) :
  Turn P w K (.Tuple elts x1 tp) (Ite K a SqT) [e,it] e (fun i h=>(∃ old,IsEnum h e it i old)/\h.IsTupleIter it a i) where
 mem:=by simp
 obj:=fun i h st b hb=>by
  obtain ⟨⟨old,he⟩,o,eo,c,d⟩:=st
  rcases List.mem_cons.mp hb with z | z
  ·subst z;exact ⟨_,he,fun v z=>by have z':Data.fields _=Data.cell v:=z;cases z'⟩
  ·have z':=List.mem_singleton.mp z;subst z';exact ⟨o,eo,fun v z=>by rw [d] at z;cases z⟩
 keep:=fun i h h' st k=>⟨let ⟨old,he⟩:=st.1;⟨old,k e (by simp) _ he⟩,st.2.at fun o eo=>k it (by simp) o eo⟩
 item:=by
  intro X hP hw hK hc i pins s σ H E I hf st hg
  subst hP hw hK
  obtain ⟨xs,x,hq,hx⟩:=hg
  obtain ⟨its,rv,p,hz⟩:=I.tuple hq
  obtain ⟨u,hu,ru⟩:=rv.get hx
  obtain ⟨⟨old,he⟩,hit⟩:=st
  have hL:s.heap.IsTuple a its.toArray:=p
  have hae:e ≠ a:=fun z=>by
   subst z
   obtain ⟨o,ho,hc',n,hd'⟩:=id hL
   rw [he] at ho;cases ho
   have z':Data.fields _=Data.seq its.toArray n:=hd'
   cases z'
  have hai:a ≠ it:=fun z=>by
   subst z
   obtain ⟨o,ho,hc',n,hd'⟩:=id hL
   obtain ⟨o',ho',c',d'⟩:=id hit
   rw [ho'] at ho;cases ho;rw [d'] at hd';cases hd'
  have hi:i < its.toArray.size:=by
   have:=(List.getElem?_eq_some_iff.mp hu).1
   simpa using this
  refine wpAny_pyNext_enum_itemD (HT.v8 (A:=X.A.in1) (I.ok.hd hc) it a hai its.toArray) he ⟨hit,hL⟩ hi hei (by simp [hei,hae]) fun y h' tk hP ho hs' hT hsz hk=>?_
  have ey:y=u:=by
   have z:its.toArray[i]?=some u:=by simpa using hu
   rw [z] at hP;exact (Option.some.inj hP).symm
  subst ey
  refine ⟨_,rfl,?_⟩
  refine wpAny_letOwnedTupleGo_enum ho fun h2 he2 hs2=>?_
  have helt:e < s.heap.objs.size:=Heap.lt_size he
  have hilt:it < s.heap.objs.size:=by obtain ⟨o,eo,_⟩:=hit;exact Heap.lt_size eo
  have hT2:h2.get? s.heap.objs.size=some { cls:=.type "tuple", data:=.seq #[.int i tk,y] }:=(hs2.2 _ (Nat.ne_of_gt helt)).trans hT
  have fresh:=I.hok.fresh (Nat.le_refl s.heap.objs.size)
  refine ⟨.ref s.heap.objs.size,upd H s.heap.objs.size (.tup [.int i,x]),?_,rfl,⟨_,fresh,rfl,fun ys v hy hv=>?_⟩,⟨⟨y,by simpa using he2⟩,hs'.1.at fun o eo=>(hs2.2 it (Ne.symm hei)).trans eo⟩,fun b hb=>?_⟩
  ·exact I.turnedLaid (t':=tk+1) hf (fun b ob hb eb=>(hs2.2 b fun z=>hb (by simp [z])).trans (hk b ob (fun z=>hb (by simp [z])) (fun z=>hb (by simp [z])) eb)) (Nat.le_refl _)
    ⟨by show 2<=sizeLine;decide,[.int i tk,y],.cons ⟨tk,rfl⟩ (.cons ru .nil),⟨_,hT2,rfl,_,rfl,rfl⟩⟩
  ·rw [I.tuple_inj hy hq,hx] at hv;cases hv;rfl
  ·rcases List.mem_cons.mp hb with z | z
   ·rw [z,ax (Nat.ne_of_lt helt)];exact (hf e (by simp)).1
   ·rw [List.mem_singleton.mp z,ax (Nat.ne_of_lt hilt)];exact (hf it (by simp)).1
 done:=by
  intro X hP hw hK hc i pins s σ H E I hf st hg
  subst hP hw hK
  obtain ⟨xs,hq,hx⟩:=hg
  obtain ⟨its,rv,p,hz⟩:=I.tuple hq
  obtain ⟨⟨old,he⟩,hit⟩:=st
  have hL:s.heap.IsTuple a its.toArray:=p
  have hai:a ≠ it:=fun z=>by
   subst z
   obtain ⟨o,ho,hc',n,hd'⟩:=id hL
   obtain ⟨o',ho',c',d'⟩:=id hit
   rw [ho'] at ho;cases ho;rw [d'] at hd';cases hd'
  have hn:its.toArray.size=i:=by rw [List.size_toArray,<-rv.length,hx]
  subst hn
  refine wpAny_pyNext_enum_endD (HT.v8 (A:=X.A.in1) (I.ok.hd hc) it a hai its.toArray) he ⟨hit,hL⟩ fun h' eb=>⟨rfl,?_⟩
  exact I.turnedAll (t':=s.toks) hf fun b ob hb q=>eb b ob (fun z=>hb (by simp [z])) q
 self:=fun _ _ _ _ _ st h=>let ⟨⟨old,he⟩,_⟩:=st;wpAny_pyIter_enum he h
noncomputable def Eb (K:PySem.W.Frag) (ta:TA):TI:=fun σ H R=>ta σ H fun vs H1=>∃ a xs,vs=[.ref a]/\SqL K H1 a xs/\R (Ite K a SqL) H1
noncomputable def IW (K:PySem.W.Frag) (ta:TA):TI:=fun σ H R=>ta σ H fun vs H1=>∃ a xs,vs=[.ref a]/\SqT K H1 a xs/\R (Ite K a SqT) H1
section
variable {X:Cx} {elts:List Expr} {x1:Nat} {tp:Pos}
theorem v9 {a:Expr} {ta:TA} {p pos:Pos} (hg:Gl X "enumerate") (hm:X.mg "enumerate" = none) (ha:PA X [a] ta) (hs:starEach [a] X.env=[(false,eval a X.env)]:=by rfl):PI X (.Tuple elts x1 tp) (.Call (.Name "enumerate" p) [a] [] pos) (Eb X.K ta):=by
 intro pins s σ H R I h
 refine Call_ (ga I hg hm PyProof.Rows.boot_enumerate (PyProof.Rows.callWith_type1 (thn (ha pos pins s σ H _ I h) fun us s1 ⟨vs,H1,I1,r1,q1⟩=>?_) hs rfl))
 obtain ⟨l,xs,e,hl,q⟩:=q1
 subst e
 obtain ⟨u,rfl,ru⟩:=cr r1
 cases ru
 obtain ⟨its,rv,pl,hz⟩:=I1.list hl
 refine call_enumerate_list pl.isList fun h' he hit hsz hk=>wpAny_pyIter_enum he ?_
 have I2:Inv X pins σ H1 { s1 with heap:=h' }:=I1.kept (t':=s1.toks) hk
 have fr:∀ b,s1.heap.objs.size<=b->fS X pins H1 b:=fun b hb=>I1.fpOk hb (I1.hok.fresh hb)
 refine ⟨_,[s1.heap.objs.size+1,s1.heap.objs.size],_,_,H1,rfl,I2,qd l _ _ (Nat.succ_ne_self _),⟨⟨_,he⟩,hit⟩,fun b hb=>?_,q⟩
 rcases List.mem_cons.mp hb with z | z
 ·rw [z];exact fr _ (Nat.le_succ _)
 ·rw [List.mem_singleton.mp z];exact fr _ (Nat.le_refl _)
theorem Ec {a:Expr} {ta:TA} {p pos:Pos} (hg:Gl X "enumerate") (hm:X.mg "enumerate" = none) (ha:PA X [a] ta) (hs:starEach [a] X.env=[(false,eval a X.env)]:=by rfl):PI X (.Tuple elts x1 tp) (.Call (.Name "enumerate" p) [a] [] pos) (IW X.K ta):=by
 intro pins s σ H R I h
 refine Call_ (ga I hg hm PyProof.Rows.boot_enumerate (PyProof.Rows.callWith_type1 (thn (ha pos pins s σ H _ I h) fun us s1 ⟨vs,H1,I1,r1,q1⟩=>?_) hs rfl))
 obtain ⟨l,xs,e,hl,q⟩:=q1
 subst e
 obtain ⟨u,rfl,ru⟩:=cr r1
 cases ru
 obtain ⟨its,rv,pl,hz⟩:=I1.tuple hl
 refine HT.qc pl fun h' he hit hsz hk=>wpAny_pyIter_enum he ?_
 have I2:Inv X pins σ H1 { s1 with heap:=h' }:=I1.kept (t':=s1.toks) hk
 have fr:∀ b,s1.heap.objs.size<=b->fS X pins H1 b:=fun b hb=>I1.fpOk hb (I1.hok.fresh hb)
 refine ⟨_,[s1.heap.objs.size+1,s1.heap.objs.size],_,_,H1,rfl,I2,qe l _ _ (Nat.succ_ne_self _),⟨⟨_,he⟩,hit⟩,fun b hb=>?_,q⟩
 rcases List.mem_cons.mp hb with z | z
 ·rw [z];exact fr _ (Nat.le_succ _)
 ·rw [List.mem_singleton.mp z];exact fr _ (Nat.le_refl _)
end
section
variable {X:Cx}
theorem om:aN X (.type "range") (fun xs H Q=>∃ j:Int,xs=[.int j]/\∀ p,H p=none->Q (.ref p) (upd H p (.rng 0 j))):=by
 intro pins s σ H xs us Q I r h
 obtain ⟨j,rfl,q⟩:=h
 obtain ⟨u,rfl,ru⟩:=cr r
 obtain ⟨t,rfl⟩:=ru
 exact call_range_1 ⟨.ref s.heap.objs.size,_,I.laid (t':=s.toks+1+1) (o:=.rng 0 j) (fun b o e=>Heap.get?_push_of_some _ e) (Nat.le_refl _) ⟨_,_,_,Heap.get?_push_size _ rfl⟩,rfl,q _ (I.hok.fresh (Nat.le_refl _))⟩
theorem mv (hc:X.calm=true):aN X (.type "list") (fun xs H Q=>∃ (p:Addr) (n:Nat),xs=[.ref p]/\H p=some (.rng 0 n)/\n<=1000/\∀ l,H l=none->Q (.ref l) (upd H l (.lst ((List.range n).map fun (i:Nat)=>V.int i)))):=by
 intro pins s σ H xs us Q I r h
 obtain ⟨p,n,rfl,hp,hn,q⟩:=h
 obtain ⟨u,rfl,ru⟩:=cr r
 cases ru
 obtain ⟨t,u,v,e⟩:=(show bA X.prog X.w H s.heap p (.rng 0 n) from I.hok p _ hp)
 exact jS hc I e hn q
end
end L2
namespace L2
open PySem PySem.Spec PyProof.Rows
section
variable {X:Cx}
noncomputable def CY (i j k:Nat) (ta:TA):TS:=fun D σ H=>ta σ H fun vs H1=>∃ v w z,vs=[v,w,z]/\D.nx (((σ.set i (some v)).set j (some w)).set k (some z)) H1
theorem zI {i j k:Nat} {x y z:Str} {a b c:Expr} {ta:TA} {px py pz pt pos:Pos} {kt k2 pt2} (hc:X.calm=true) (hN:X.N.Nodup) (hi:X.N[i]?=some x) (hj:X.N[j]?=some y) (hk:X.N[k]?=some z) (hij:i ≠ j) (hik:i ≠ k) (hjk:j ≠ k)
  (hx:X.env.scope.names.lookup x=some .local) (hy:X.env.scope.names.lookup y=some .local) (hz:X.env.scope.names.lookup z=some .local) (ha:PA X [a,b,c] ta)
  (hw:swappedStores [.Tuple [.Name x px,.Name y py,.Name z pz] kt pt] (.Tuple [a,b,c] k2 pt2) X.env=pure (some [x,y,z]))
  (hs:swapsWithSole [.Tuple [.Name x px,.Name y py,.Name z pz] kt pt] (.Tuple [a,b,c] k2 pt2) pos.line X.env=pure false:=by rfl) :
  PS X (.Assign [.Tuple [.Name x px,.Name y py,.Name z pz] kt pt] (.Tuple [a,b,c] k2 pt2) pos) (CY i j k ta):=by
 intro pins s σ H D I h
 rw [exec_Assign_arm]
 refine wpAny_bind (wpAny_standAt ?_)
 rw [hs]
 refine wpAny_bind (wpAny_pure ?_)
 rw [if_neg (by decide)]
 refine wpAny_bind (Tuple_ (thn (ha _ pins s σ H _ I h) fun us s1 ⟨vs,H1,I1,r1,q1⟩=>?_))
 obtain ⟨v,w,z',e1,q1⟩:=q1
 subst e1
 obtain ⟨u1,u2,u3,rfl,rv,rw',rz⟩:∃ u1 u2 u3,us=[u1,u2,u3]/\aJ v u1/\aJ w u2/\aJ z' u3:=by
  cases r1 with
  | cons p q=>
   cases q with
   | cons p' q'=>
    cases q' with
    | cons p'' q''=>
     cases q''
     exact ⟨_,_,_,rfl,p,p',p''⟩
 refine wpAny_newObj_type ?_ (by show 3<=sizeLine;decide)
 have I2:Inv X pins σ H1 { s1 with heap:=s1.heap.push { cls:=.type "tuple", data:=.seq [u1,u2,u3].toArray } }:=I1.kept (t':=s1.toks) fun b o e=>Heap.get?_push_of_some _ e
 rw [hw]
 refine wpAny_bind (wpAny_pure ?_)
 show wpAny (model X.prog X.w) X.A (do rule "assign.swapped-stores"; let items <-unpackItems (.ref s1.heap.objs.size) 3 none;assignInOrder [fun v=>bindName X.env z v,fun v=>bindName X.env y v,fun v=>bindName X.env x v] items.reverse;pure Flow.next) _ _ _
 refine wpAny_bind (wpAny_rule (wpAny_bind (unpackItems_tuple (items:=#[u1,u2,u3]) (I.ok.hd hc) (IsTup.new s1.heap _) fun h' hx'=>?_)))
 have I3:=I2.kept (h':=h') (t':=s1.toks) fun b o e=>hx' b o (Nat.ne_of_lt (Heap.lt_size e)) e
 show wpAny _ _ (assignInOrder [fun v=>bindName X.env z v,fun v=>bindName X.env y v,fun v=>bindName X.env x v] [u3,u2,u1] >>= fun _=>pure Flow.next) _ _ _
 refine wpAny_bind (assignInOrder_cons (wpAny_bindName (cF I3 hN hk (.inl hz) rz (fun s2 I4=>?_) (.inr hz))))
 refine assignInOrder_cons (wpAny_bindName (cF I4 hN hj (.inl hy) rw' (fun s3 I5=>?_) (.inr hy)))
 refine assignInOrder_cons (wpAny_bindName (cF I5 hN hi (.inl hx) rv (fun s4 I6=>assignInOrder_nil (wpAny_pure ?_)) (.inr hx)))
 refine ⟨_,H1,?_,q1⟩
 rw [List.set_comm _ _ (Ne.symm hjk),List.set_comm _ _ (Ne.symm hik),List.set_comm (some w) (some v) (Ne.symm hij)] at I6
 exact I6
end
noncomputable def iA:List Str->Bool
 | []=>true
 | x::r=>!r.contains x && iA r
theorem gI:∀ {l:List Str},iA l=true->l.Nodup
 | [],_=>List.nodup_nil
 | x::r,h=>by
  unfold iA at h
  rw [bAE] at h
  refine List.nodup_cons.mpr ⟨fun m=>?_,gI h.2⟩
  have:=h.1
  simp [m] at this
noncomputable def cmB (own:List Str) (hs:List Nat) (N:List Str) (scope sc:Scope):Bool:=
 (scope.kind == .function) && iA (cG hs N++own) && iA (scope.names.map (·.1)) && ((cG hs N).all fun x=>scope.names.lookup x != some .local && scope.names.lookup x != some .cell) &&
 (scope.names.all fun y=>y.2 != .free || (sc.names.lookup y.1 == some .cell || sc.names.lookup y.1 == some .free)) && hs.all fun i=>(scope.names.lookup (vY i)).isNone
theorem wb {own:List Str} (hs:List Nat) {N:List Str} {scope sc:Scope} (h:cmB own hs N scope sc=true):CmScope own hs N scope sc:=by
 unfold cmB at h
 simp only [bAE,List.all_eq_true] at h
 obtain ⟨⟨⟨⟨⟨h1,h2⟩,h3⟩,h4⟩,h5⟩,h6⟩:=h
 refine ⟨by simpa using h1,gI h2,gI h3,fun x hx=>?_,fun y hy hk=>?_,fun i hi=>by simpa using h6 i hi⟩
 ·have:=h4 x hx
  simpa using this
 ·have:=h5 y hy
  rw [hk] at this
  simpa using this
end L2
namespace L2
open PySem PySem.Spec PyProof.Rows
section
variable {X:Cx} {tg l a:Expr} {tl:TE} {ta:TA} {es:List Expr} {t:TGs} {p pos:Pos} {n k:Nat} {elts:List Expr} {x1:Nat} {tp:Pos} {o e:Expr} {to:TE} {tt:TA} {name:Str} {apos cpos:Pos}
noncomputable def CZ (K:PySem.W.Frag):List V->Hp->VK->Prop:=fun xs H Q=>∃ x n t b,xs=[x,.ty n]/\TyOf K H x t/\PySem.W.kitOne K t (.type n)=some b/\Q (.bl b) H
theorem mw (K:PySem.W.Frag) (hK:X.K=K:=by rfl):aN X (.builtin "isinstance") (CZ K):=hK ▸ oi
end
end L2
namespace L2
open PySem PySem.Spec PyProof.Rows
theorem wc {X:Cx} {k v:Expr} {tk tv:TE} {pos:Pos} (hk:PE X k tk) (hv:PE X v tv):PE X (.Dict [some k] [v] pos) (vX [(tk,tv)]):=zx (vW hk hv zw) rfl rfl (by simp) (by simp)
end L2
namespace L2
open PySem PySem.Spec PyProof.Rows
theorem jU {x:V}:∀ {xs:List V} {us:List Value},aK xs us->xs.all dq=true->us.countP (eqU x)=xs.countP fun y=>eqV y x
 | _,_,.nil,_=>rfl
 | y::xs,u::us,.cons r t,f=>by
  rw [List.all_cons,bAE] at f
  rw [List.countP_cons,List.countP_cons,p9 r f.1,jU t f.2]
section
variable {X:Cx}
noncomputable def zJ (K:PySem.W.Frag):V->List V->Hp->VK->Prop:=fun x vs H Q=>∃ p xs y,x = .ref p/\vs=[y]/\SqT K H p xs/\dq y=true/\xs.all dq=true/\Q (.int ((xs.countP fun z=>eqV z y:Nat):Int)) H
theorem tY (K:PySem.W.Frag) (hK:X.K=K:=by rfl):MtR X "tuple.count" (zJ K):=by
 subst hK
 intro pins s σ H x vs v us Q I rx rv h
 obtain ⟨p,xs,y,rfl,rfl,hq,fy,fs,q⟩:=h
 cases rx
 obtain ⟨u,rfl,ru⟩:=rv.one
 obtain ⟨its,r,⟨⟨cls,dd,data,sl⟩,e,hc,n,hd⟩,hz⟩:=I.tuple hq
 simp only at hc hd
 subst hc hd
 refine call_meets F.slot_tuple_count ⟨_,e,rfl⟩ F.entry_tuple_count (F.args_tuple_count_2 _ _) (SeqAt.tuple_countAt p its.toArray n dd sl u (eqU y)) ⟨e,fun w hw=>dr ru fy r fs w (by simpa using hw),?_⟩
 refine ⟨.int _,H,I.tok _,⟨_,rfl⟩,?_⟩
 have z:(its.toArray.toList.countP (eqU y))=xs.countP fun z=>eqV z y:=by
  rw [List.toList_toArray];exact jU r fs
 rw [z]
 exact q
end
end L2
namespace Dw
open PySem PySem.Spec PyProof.Rows L2
inductive D where
 | non | bl (b:Bool) | int (i:Int) | str (x:Str) | tup (ds:List D) | lst (ds:List D) | dic (ks:List Key) (ds:List D)
mutual
noncomputable def Br (N:List Addr) (H:Hp):D->V->Prop
 | .non,v=>v = .non
 | .bl b,v=>v = .bl b
 | .int i,v=>v = .int i
 | .str x,v=>v = .str x
 | .tup ds,v=>∃ a xs,v = .ref a/\H a=some (.tup xs)/\BrL N H ds xs
 | .lst ds,v=>∃ a xs,v = .ref a/\a ∉ N/\H a=some (.lst xs)/\BrL N H ds xs
 | .dic ks ds,v=>∃ a xs,v = .ref a/\a ∉ N/\H a=some (.dK (ks.zip xs))/\ks.length=ds.length/\BrL N H ds xs
noncomputable def BrL (N:List Addr) (H:Hp):List D->List V->Prop
 | [],xs=>xs=[]
 | d::ds,xs=>∃ x r,xs=x::r/\Br N H d x/\BrL N H ds r
end
mutual
noncomputable def dep:D->Nat
 | .tup ds=>gJ ds+1
 | .lst ds=>gJ ds+1
 | .dic _ ds=>gJ ds+1
 | _=>0
noncomputable def gJ:List D->Nat
 | []=>0
 | d::ds=>max (dep d) (gJ ds)
end
mutual
noncomputable def wid:D->Nat
 | .tup ds=>max ds.length (my ds)
 | .lst ds=>max ds.length (my ds)
 | .dic _ ds=>max ds.length (my ds)
 | _=>0
noncomputable def my:List D->Nat
 | []=>0
 | d::ds=>max (wid d) (my ds)
end
theorem BrL.len {N:List Addr} {H:Hp}:∀ {ds:List D} {xs:List V},BrL N H ds xs->xs.length=ds.length
 | [],_,h=>by simp only [BrL] at h;rw [h];rfl
 | d::ds,_,h=>by
  simp only [BrL] at h
  obtain ⟨x,r,rfl,_,h2⟩:=h
  rw [List.length_cons,List.length_cons,BrL.len h2]
noncomputable def isB:D->Bool | .bl _=>true | _=>false
end Dw
namespace Dw
open PySem PySem.Spec PyProof.Rows L2
noncomputable def isW (d:D):Bool:=match d with | .int _=>true | _=>false
noncomputable def ae (d:D) (a b:Int):Bool:=match d with | .int i=>decide (a<=i) && decide (i<=b) | _=>false
noncomputable def isT (d:D) (a b:Int):Bool:=match d with | .tup ds=>decide (a<=(ds.length:Int)) && decide ((ds.length:Int)<=b) | _=>false
noncomputable def bE (n:Nat) (d:D):Bool:=match d with | .tup ds=>decide (ds.length=n) && ds.all (fun e=>ae e 1 99) | _=>false
noncomputable def jV (rows:List D) (a b:Nat):Int:=match rows[a]? with
 | some (.tup r)=>(match r[b]? with | some (.int i)=>i | _=>0)
 | _=>0
noncomputable def eL (rows:List D) (a b c:Nat):Bool:=decide (jV rows a b<=jV rows a c+jV rows c b)
noncomputable def kU (rows:List D) (n:Nat):List Bool:=(List.range n).flatMap fun a=>(List.range n).flatMap fun b=>(List.range n).map fun c=>eL rows a b c
noncomputable def aD (d:D):Bool:=match d with
 | .tup rows=>(decide (1<=rows.length) && decide (rows.length<=4)) && (rows.all (bE rows.length) && (kU rows rows.length).all id)
 | _=>false
noncomputable def ltD (x y:D):Bool:=match x,y with | .int i,.int j=>decide (i < j) | _,_=>false
noncomputable def au (d:D):Bool:=match d with | .tup [b,e]=>ae b 0 9999 && (ae e 0 9999 && ltD b e) | _=>false
noncomputable def dz (ds:List D) (i:Nat):Int:=match ds[i]? with | some (.tup [.int b,_])=>b | _=>0
noncomputable def cQ (ds:List D) (i:Nat):Int:=match ds[i]? with | some (.tup [_,.int e])=>e | _=>0
noncomputable def iB (ds:List D):List Bool:=(List.range (ds.length - 1)).map fun i=>decide (cQ ds i < dz ds (i+1))
noncomputable def aE (d:D):Bool:=match d with | .tup ds=>decide (ds.length<=4) && (ds.all au && (iB ds).all id) | _=>false
noncomputable def aV (d:D):Bool:=match d with
 | .tup [r,s,g,h]=>ae r 0 8 && (ae s 0 60 && (aD g && aE h))
 | _=>false
theorem mz (ds:List D) (n:Nat):isT (.tup ds) n n=decide (ds.length=n):=by
 unfold isT
 rw [Bool.eq_iff_iff];simp;omega
theorem ah {d:D} {a b:Int} (h:ae d a b=true):∃ i,d = .int i/\a<=i/\i<=b:=by
 cases d with
 | int i=>simp [ae] at h;exact ⟨i,rfl,h.1,h.2⟩
 | _=>simp [ae] at h
theorem dJ {rows:List D} {n a b:Nat} (h:rows.all (bE n)=true) (ha:a < rows.length) (hb:b < n):∃ r i,rows[a]?=some (.tup r)/\r[b]?=some (.int i)/\jV rows a b=i/\1<=i/\i<=99:=by
 have h1:=List.all_eq_true.mp h rows[a] (List.getElem_mem ha)
 have e1:rows[a]?=some rows[a]:=gEG ha
 generalize hd:rows[a]=d at h1 e1
 cases d with
 | tup r=>
  simp only [bE,bAE,decide_eq_true_eq] at h1
  have hb':b < r.length:=by omega
  obtain ⟨i,e2,l,u⟩:=ah (List.all_eq_true.mp h1.2 r[b] (List.getElem_mem hb'))
  have e3:r[b]?=some (.int i):=by rw [gEG hb',e2]
  exact ⟨r,i,e1,e3,by unfold jV;rw [e1];dsimp only;rw [e3],l,u⟩
 | _=>simp [bE] at h1
theorem fv {α:Type} (n:Nat) (f:Nat->List α):(List.range (n+1)).flatMap f=(List.range n).flatMap f++f n:=by
 rw [List.range_succ,List.flatMap_append];simp
theorem mB {α:Type} {n m:Nat} {f:Nat->List α} (h:∀ i,i < n->(f i).length<=m):((List.range n).flatMap f).length<=n * m:=by
 induction n with
 | zero=>simp
 | succ n ih=>
  rw [fv,List.length_append]
  have:=ih fun i hi=>h i (by omega)
  have:=h n (by omega)
  rw [Nat.succ_mul];omega
theorem Ed (ds:List D):isT (.tup ds) 1 4=(decide (1<=ds.length) && decide (ds.length<=4)):=by
 unfold isT
 rw [Bool.eq_iff_iff];simp;omega
theorem Ee (ds:List D):isT (.tup ds) 0 4=decide (ds.length<=4):=by
 unfold isT
 rw [Bool.eq_iff_iff];simp;omega
theorem wd (ds:List D):isT (.tup ds) 2 2=decide (ds.length=2):=mz ds 2
theorem we (ds:List D):isT (.tup ds) 4 4=decide (ds.length=4):=mz ds 4
theorem mD {ds:List D} (h:ds.length=2):∃ b e,ds=[b,e]:=by
 match ds,h with
 | [b,e],_=>exact ⟨b,e,rfl⟩
theorem jw {ds:List D} (h:ds.length=4):∃ a b c d,ds=[a,b,c,d]:=by
 match ds,h with
 | [a,b,c,d],_=>exact ⟨a,b,c,d,rfl⟩
theorem gg {d:D} (h:au d=true):∃ b e,d = .tup [.int b,.int e]/\0<=b/\b<=9999/\0<=e/\e<=9999/\b < e:=by
 unfold au at h
 split at h
 ·rename_i b e
  simp only [bAE] at h
  obtain ⟨h1,h2,h3⟩:=h
  obtain ⟨i,rfl,l1,u1⟩:=ah h1
  obtain ⟨j,rfl,l2,u2⟩:=ah h2
  simp [ltD] at h3
  exact ⟨i,j,rfl,l1,u1,l2,u2,h3⟩
 ·cases h
theorem rJ {ds:List D} {i:Nat} (h:ds.all au=true) (hi:i < ds.length):∃ b e,ds[i]?=some (.tup [.int b,.int e])/\dz ds i=b/\cQ ds i=e:=by
 obtain ⟨b,e,q,_⟩:=gg (List.all_eq_true.mp h ds[i] (List.getElem_mem hi))
 have e1:ds[i]?=some (.tup [.int b,.int e]):=by rw [gEG hi,q]
 exact ⟨b,e,e1,by unfold dz;rw [e1],by unfold cQ;rw [e1]⟩
noncomputable def aX (ds:List D) (lo hi:Option Int):List D:=(ds.drop (HT.sIx ds.length 0 lo)).take (HT.sIx ds.length ds.length hi - HT.sIx ds.length 0 lo)
theorem rK (ds:List D) (lo hi:Option Int):(aX ds lo hi).length<=ds.length:=by
 unfold aX
 rw [List.length_take,List.length_drop];omega
theorem oo {d:D}:∀ {ds:List D},d ∈ ds->dep d<=gJ ds
 | e::ds,h=>by
  rw [gJ]
  rcases List.mem_cons.mp h with z | z
  ·rw [z];omega
  ·have:=oo z;omega
theorem jW {d:D}:∀ {ds:List D},d ∈ ds->wid d<=my ds
 | e::ds,h=>by
  rw [my]
  rcases List.mem_cons.mp h with z | z
  ·rw [z];omega
  ·have:=jW z;omega
theorem rL {n:Nat}:∀ {ds:List D},(∀ d ∈ ds,dep d<=n)->gJ ds<=n
 | [],_=>by rw [gJ];omega
 | e::ds,h=>by
  rw [gJ]
  have:=h e List.mem_cons_self
  have:=rL (ds:=ds) fun d hd=>h d (List.mem_cons_of_mem _ hd)
  omega
theorem rN {n:Nat}:∀ {ds:List D},(∀ d ∈ ds,wid d<=n)->my ds<=n
 | [],_=>by rw [my];omega
 | e::ds,h=>by
  rw [my]
  have:=h e List.mem_cons_self
  have:=rN (ds:=ds) fun d hd=>h d (List.mem_cons_of_mem _ hd)
  omega
structure Fit (n m:Nat) (d:D):Prop where
 de:dep d<=n
 wi:wid d<=m
theorem Fit.up {n m n' m':Nat} {d:D} (h:Fit n m d) (hn:n<=n') (hm:m<=m'):Fit n' m' d:=⟨Nat.le_trans h.de hn,Nat.le_trans h.wi hm⟩
theorem Fit.tup {n m:Nat} {ds:List D} (hl:ds.length<=m) (h:∀ d ∈ ds,Fit n m d):Fit (n+1) m (.tup ds):=by
 refine ⟨?_,?_⟩
 ·rw [dep];have:=rL (n:=n) fun d hd=>(h d hd).de;omega
 ·rw [wid];have:=rN (n:=m) fun d hd=>(h d hd).wi;omega
theorem Fit.len {n m:Nat} {ds:List D} (h:Fit n m (.tup ds)):ds.length<=m:=by have:=h.wi;rw [wid] at this;omega
theorem Fit.mem {n m:Nat} {ds:List D} {d:D} (h:Fit (n+1) m (.tup ds)) (hd:d ∈ ds):Fit n m d:=by
 have h1:=h.de;have h2:=h.wi
 rw [dep] at h1;rw [wid] at h2
 have:=oo hd;have:=jW hd
 exact ⟨by omega,by omega⟩
theorem Fit.pos {n m:Nat} {ds:List D} (h:Fit n m (.tup ds)):1<=n:=by have h1:=h.de;rw [dep] at h1;omega
theorem bz {ds:List D} {lo hi:Option Int} {d:D} (h:d ∈ aX ds lo hi):d ∈ ds:=List.mem_of_mem_drop (List.mem_of_mem_take h)
theorem qf (n:Nat) (a:Int) (h0:0<=a):HT.sIx n 0 (some a)=min a.toNat n:=by
 show (if a < 0 then (a+(n:Int)).toNat else min a.toNat n)=_
 rw [if_neg (by omega)]
theorem jX (n:Nat) (a:Int) (h0:0<=a):HT.sIx n n (some a)=min a.toNat n:=by
 show (if a < 0 then (a+(n:Int)).toNat else min a.toNat n)=_
 rw [if_neg (by omega)]
theorem mE (ds:List D) (a:Int) (h:0<=a):(aX ds none (some a)).length<=a.toNat:=by
 unfold aX
 rw [jX _ _ h,List.length_take,List.length_drop];omega
theorem mF (ds:List D) (a:Int) (h:0<=a) (h1:a<=ds.length):(aX ds (some a) none).length+a.toNat<=ds.length:=by
 unfold aX
 rw [qf _ _ h,List.length_take,List.length_drop];omega
theorem zK (ds:List D) (a:Int) (h:0<=a):(aX ds (some a) (some (a+1))).length<=1:=by
 unfold aX
 rw [qf _ _ h,jX _ _ (by omega),List.length_take];omega
theorem zL (ds:List D):(aX ds (some (-1)) none).length<=1:=by
 unfold aX
 have e:HT.sIx ds.length 0 (some (-1))=((-1:Int)+(ds.length:Int)).toNat:=by
  show (if (-1:Int) < 0 then ((-1:Int)+(ds.length:Int)).toNat else min (-1:Int).toNat ds.length)=_
  rw [if_pos (by decide)]
 rw [e,List.length_take,List.length_drop]
 have e2:HT.sIx ds.length ds.length none=ds.length:=rfl
 rw [e2];omega
theorem dL {k m:Nat} {ds:List D} {lo hi:Option Int} (h:Fit (k+1) m (.tup ds)):Fit (k+1) m (.tup (aX ds lo hi)):=Fit.tup (Nat.le_trans (rK ds lo hi) h.len) fun d hd=>h.mem (bz hd)
theorem gK {k m:Nat} {ds es:List D} (h1:Fit (k+1) m (.tup ds)) (h2:Fit (k+1) m (.tup es)) (hl:(ds++es).length<=m):Fit (k+1) m (.tup (ds++es)):=Fit.tup hl fun d hd=>(List.mem_append.mp hd).elim (fun z=>h1.mem z) fun z=>h2.mem z
theorem zM {k m:Nat} {d:D} (h:Fit k m d) (hm:1<=m):Fit (k+1) m (.tup [d]):=Fit.tup hm fun e he=>by rw [List.mem_singleton.mp he];exact h
noncomputable def KU:D->Bool | .non=>true | .bl _=>true | .int _=>true | .str _=>true | _=>false
theorem wg {k m:Nat} {d:D} (h:KU d=true):Fit k m d:=by
 cases d with
 | tup ds=>cases h
 | lst ds=>cases h
 | dic ks ds=>cases h
 | _=>exact ⟨by simp [dep],by simp [wid]⟩
theorem Fit.lst {n m:Nat} {ds:List D} (h:Fit n m (.tup ds)):Fit n m (.lst ds):=⟨by have:=h.de;simp only [dep] at this ⊢;exact this,by have:=h.wi;simp only [wid] at this ⊢;exact this⟩
noncomputable def eT (q:Int × Int):D:=.tup [.int q.1,.int q.2]
structure Good (es:List (Int × Int)) (b:Int):Prop where
 each:∀ q ∈ es,0<=q.1/\q.1 < q.2/\q.2<=b
 rise:∀ (i:Nat) q q',es[i]?=some q->es[i+1]?=some q'->q.2 < q'.1
theorem Good.nil {b:Int}:Good [] b:=⟨(fun _ h=>nomatch h),fun i q q' h _=>by simp at h⟩
theorem Good.more {es:List (Int × Int)} {b x y:Int} (h:Good es b) (h0:0<=b) (h1:b < x) (h2:x < y):Good (es++[(x,y)]) y:=by
 refine ⟨fun q hq=>?_,fun i q q' e1 e2=>?_⟩
 ·rcases List.mem_append.mp hq with z | z
  ·have:=h.each q z;omega
  ·rw [List.mem_singleton.mp z];show 0<=x/\x < y/\y<=y;omega
 ·by_cases hi:i+1 < es.length
  ·rw [List.getElem?_append_left (by omega)] at e1
   rw [List.getElem?_append_left hi] at e2
   exact h.rise i q q' e1 e2
  ·have hl:=(List.getElem?_eq_some_iff.mp e2).1
   rw [List.length_append,List.length_singleton] at hl
   have hi2:i+1=es.length:=by omega
   rw [List.getElem?_append_right (by omega),hi2,Nat.sub_self] at e2
   cases e2
   rw [List.getElem?_append_left (by omega)] at e1
   have:=h.each q (List.mem_of_getElem? e1)
   show q.2 < x
   omega
theorem Good.shuts {es:List (Int × Int)} {b:Int} (h:Good es b) (hb:b<=9999) (hl:es.length<=4):aE (.tup (es.map eT))=true:=by
 have hs:(es.map eT).all au=true:=by
  rw [List.all_map,List.all_eq_true]
  intro q hq
  have:=h.each q hq
  show au (eT q)=true
  simp only [eT,au,ae,ltD,bAE,decide_eq_true_eq]
  omega
 unfold aE
 rw [bAE,bAE]
 refine ⟨decide_eq_true (by rw [List.length_map];exact hl),hs,?_⟩
 rw [List.all_eq_true]
 intro x hx
 unfold iB at hx
 obtain ⟨i,hi,rfl⟩:=List.mem_map.mp hx
 rw [List.mem_range,List.length_map] at hi
 have e1:es[i]?=some es[i]:=gEG (by omega)
 have e2:es[i+1]?=some es[i+1]:=gEG (by omega)
 have r:=h.rise i _ _ e1 e2
 have f1:cQ (es.map eT) i=es[i].2:=by unfold cQ;rw [List.getElem?_map,e1];rfl
 have f2:dz (es.map eT) (i+1)=es[i+1].1:=by unfold dz;rw [List.getElem?_map,e2];rfl
 show decide (cQ (es.map eT) i < dz (es.map eT) (i+1))=true
 rw [f1,f2]
 exact decide_eq_true r
noncomputable def mg2 (M:List (List Int)) (i j:Nat):Int:=(((M[i]?).getD [])[j]?).getD 0
structure Mat (n:Nat) (M:List (List Int)):Prop where
 len:M.length=n
 row:∀ r ∈ M,r.length=n
 ent:∀ r ∈ M,∀ x ∈ r,1<=x/\x<=99
theorem Mat.at {n:Nat} {M:List (List Int)} (h:Mat n M) {i j:Nat} (hi:i < n) (hj:j < n):∃ r,M[i]?=some r/\r.length=n/\r[j]?=some (mg2 M i j)/\1<=mg2 M i j/\mg2 M i j<=99:=by
 have hi':i < M.length:=by rw [h.len];exact hi
 have e1:M[i]?=some M[i]:=gEG hi'
 have hr:=h.row _ (List.getElem_mem hi')
 have hj':j < M[i].length:=by omega
 have e2:mg2 M i j=M[i][j]:=by unfold mg2;rw [e1,Option.getD_some,gEG hj',Option.getD_some]
 have:=h.ent _ (List.getElem_mem hi') _ (List.getElem_mem hj')
 exact ⟨M[i],e1,hr,by rw [e2,gEG hj'],by omega,by omega⟩
noncomputable def rO (n k:Nat) (M:List (List Int)):Prop:=∀ a b q,a < n->b < n->q < k->mg2 M a b<=mg2 M a q+mg2 M q b
theorem wk {n k:Nat} {M M':List (List Int)} (h:Mat n M) (hk:k < n) (ht:rO n k M) (hm:∀ i j,i < n->j < n->mg2 M' i j=min (mg2 M i j) (mg2 M i k+mg2 M k j)):rO n (k+1) M':=by
 intro a b q ha hb hq
 have hqn:q < n:=by omega
 obtain ⟨_,_,_,_,p1,_⟩:=h.at ha hb
 obtain ⟨_,_,_,_,p2,_⟩:=h.at ha hk
 obtain ⟨_,_,_,_,p3,_⟩:=h.at hk hb
 obtain ⟨_,_,_,_,p4,_⟩:=h.at hk hk
 obtain ⟨_,_,_,_,p5,_⟩:=h.at ha hqn
 obtain ⟨_,_,_,_,p6,_⟩:=h.at hqn hb
 obtain ⟨_,_,_,_,p7,_⟩:=h.at hk hqn
 obtain ⟨_,_,_,_,p8,_⟩:=h.at hqn hk
 rw [hm a b ha hb,hm a q ha hqn,hm q b hqn hb]
 by_cases e:q=k
 ·subst e;omega
 ·have hq':q < k:=by omega
  have t1:=ht a b q ha hb hq'
  have t2:=ht k b q hk hb hq'
  have t3:=ht a k q ha hk hq'
  omega
noncomputable def dA (M:List (List Int)):List D:=M.map fun r=>.tup (r.map .int)
theorem mG {n:Nat} {M:List (List Int)} (h:Mat n M) {i j:Nat} (hi:i < n) (hj:j < n):jV (dA M) i j=mg2 M i j:=by
 obtain ⟨r,e1,_,e2,_,_⟩:=h.at hi hj
 unfold jV dA
 rw [List.getElem?_map,e1]
 show (match (r.map D.int)[j]? with | some (.int i)=>i | _=>0)=_
 rw [List.getElem?_map,e2]
 rfl
theorem wm {n:Nat} {M:List (List Int)} (h:Mat n M) (h1:1<=n) (h4:n<=4) (ht:rO n n M):aD (.tup (dA M))=true:=by
 have hl:(dA M).length=n:=by unfold dA;rw [List.length_map,h.len]
 unfold aD
 dsimp only
 rw [hl]
 simp only [bAE,decide_eq_true_eq]
 refine ⟨⟨h1,h4⟩,?_,?_⟩
 ·rw [List.all_eq_true]
  intro d hd
  obtain ⟨r,hr,rfl⟩:=List.mem_map.mp hd
  unfold bE
  dsimp only
  rw [bAE]
  refine ⟨decide_eq_true (by rw [List.length_map];exact h.row r hr),?_⟩
  rw [List.all_map,List.all_eq_true]
  intro x hx
  have:=h.ent r hr x hx
  show ae (.int x) 1 99=true
  simp only [ae,bAE,decide_eq_true_eq]
  omega
 ·rw [List.all_eq_true]
  intro x hx
  unfold kU at hx
  obtain ⟨a,ha,hx⟩:=List.mem_flatMap.mp hx
  obtain ⟨b,hb,hx⟩:=List.mem_flatMap.mp hx
  obtain ⟨c,hc,rfl⟩:=List.mem_map.mp hx
  rw [List.mem_range] at ha hb hc
  show eL (dA M) a b c=true
  unfold eL
  rw [mG h ha hb,mG h ha hc,mG h hc hb]
  exact decide_eq_true (ht a b c ha hb hc)
noncomputable def bF (M:List (List Int)) (n c i:Nat):List Int:=(List.range n).map fun j=>if mg2 M i c+mg2 M c j < mg2 M i j then mg2 M i c+mg2 M c j else mg2 M i j
theorem jY (M:List (List Int)) (n c i:Nat):(bF M n c i).length=n:=by unfold bF;rw [List.length_map,List.length_range]
theorem oq (M:List (List Int)) {n c i j:Nat} (hj:j < n):(bF M n c i)[j]?=some (if mg2 M i c+mg2 M c j < mg2 M i j then mg2 M i c+mg2 M c j else mg2 M i j):=by
 unfold bF;rw [List.getElem?_map,List.getElem?_range hj];rfl
theorem zN {n c:Nat} {M:List (List Int)} (h:Mat n M) (hc:c < n):∀ i j,i < n->j < n->mg2 ((List.range n).map (bF M n c)) i j=min (mg2 M i j) (mg2 M i c+mg2 M c j):=fun i j hi hj=>by
 have e:mg2 ((List.range n).map (bF M n c)) i j=if mg2 M i c+mg2 M c j < mg2 M i j then mg2 M i c+mg2 M c j else mg2 M i j:=by
  show ((((List.range n).map (bF M n c))[i]?.getD [])[j]?).getD 0=_
  rw [List.getElem?_map,List.getElem?_range hi]
  show ((bF M n c i)[j]?).getD 0=_
  rw [oq M hj];rfl
 rw [e];split <;> omega
theorem wn {n c:Nat} {M:List (List Int)} (h:Mat n M) (hc:c < n):Mat n ((List.range n).map (bF M n c)):=by
 refine ⟨by rw [List.length_map,List.length_range],fun r hr=>?_,fun r hr x hx=>?_⟩
 ·obtain ⟨u,_,rfl⟩:=List.mem_map.mp hr
  exact jY M n c u
 ·obtain ⟨u,hu,rfl⟩:=List.mem_map.mp hr
  rw [List.mem_range] at hu
  unfold bF at hx
  obtain ⟨j,hj,rfl⟩:=List.mem_map.mp hx
  rw [List.mem_range] at hj
  obtain ⟨_,_,_,_,p1,q1⟩:=h.at hu hj
  obtain ⟨_,_,_,_,p2,q2⟩:=h.at hu hc
  obtain ⟨_,_,_,_,p3,q3⟩:=h.at hc hj
  split <;> omega
theorem rP (r s g h:D):aV (.tup [r,s,g,h])=(ae r 0 8 && (ae s 0 60 && (aD g && aE h))):=rfl
theorem mH {rows:List D} (h:¬ (1<=rows.length/\rows.length<=4)):aD (.tup rows)=false:=by
 have:(decide (1<=rows.length) && decide (rows.length<=4))=false:=by
  rw [Bool.eq_false_iff];intro z;simp at z;exact h ⟨z.1,z.2⟩
 simp only [aD,this,Bool.false_and]
theorem mI {rows:List D} {d:D} {i:Nat} (h:rows[i]?=some d) (hb:bE rows.length d=false):aD (.tup rows)=false:=by
 have:rows.all (bE rows.length)=false:=by
  rw [Bool.eq_false_iff];intro z
  have:=List.all_eq_true.mp z d (List.mem_of_getElem? h)
  rw [hb] at this;cases this
 simp only [aD,this,Bool.false_and,Bool.and_false]
theorem KI {rows:List D} {n:Nat} {x:Bool}:x ∈ kU rows n ↔ ∃ a b c,a < n/\b < n/\c < n/\x=eL rows a b c:=by
 unfold kU
 simp only [List.mem_flatMap,List.mem_map,List.mem_range]
 constructor
 ·rintro ⟨a,ha,b,hb,c,hc,rfl⟩;exact ⟨a,b,c,ha,hb,hc,rfl⟩
 ·rintro ⟨a,b,c,ha,hb,hc,rfl⟩;exact ⟨a,ha,b,hb,c,hc,rfl⟩
theorem mJ {rows:List D} {a b c:Nat} (ha:a < rows.length) (hb:b < rows.length) (hc:c < rows.length) (h:eL rows a b c=false):aD (.tup rows)=false:=by
 have:(kU rows rows.length).all id=false:=by
  rw [Bool.eq_false_iff];intro z
  have:=List.all_eq_true.mp z _ (KI.mpr ⟨a,b,c,ha,hb,hc,rfl⟩)
  rw [id,h] at this;cases this
 simp only [aD,this,Bool.and_false]
theorem tZ {rows:List D} (h1:1<=rows.length) (h4:rows.length<=4) (hr:rows.all (bE rows.length)=true) (ht:∀ a b c,a < rows.length->b < rows.length->c < rows.length->eL rows a b c=true):aD (.tup rows)=true:=by
 have:(kU rows rows.length).all id=true:=by
  rw [List.all_eq_true];intro x hx
  obtain ⟨a,b,c,ha,hb,hc,rfl⟩:=KI.mp hx
  exact ht a b c ha hb hc
 simp only [aD,this,hr,decide_eq_true h1,decide_eq_true h4,Bool.and_true]
theorem kW {hs:List D} (h:¬ hs.length<=4):aE (.tup hs)=false:=by
 simp only [aE,decide_eq_false h,Bool.false_and]
theorem t0 {hs:List D} {d:D} {i:Nat} (h:hs[i]?=some d) (hb:au d=false):aE (.tup hs)=false:=by
 have:hs.all au=false:=by
  rw [Bool.eq_false_iff];intro z
  have:=List.all_eq_true.mp z d (List.mem_of_getElem? h)
  rw [hb] at this;cases this
 simp only [aE,this,Bool.false_and,Bool.and_false]
theorem jZ {hs:List D} {i:Nat} (h:i+1 < hs.length) (hb:¬ cQ hs i < dz hs (i+1)):aE (.tup hs)=false:=by
 have:(iB hs).all id=false:=by
  rw [Bool.eq_false_iff];intro z
  have:=List.all_eq_true.mp z _ (List.mem_map.mpr ⟨i,List.mem_range.mpr (by omega),rfl⟩)
  exact hb (of_decide_eq_true this)
 simp only [aE,this,Bool.and_false]
theorem qg {hs:List D} (h4:hs.length<=4) (hr:∀ (j:Nat) d,hs[j]?=some d->au d=true) (ht:∀ (j:Nat),j+1 < hs.length->cQ hs j < dz hs (j+1)):aE (.tup hs)=true:=by
 have h1:hs.all au=true:=by
  rw [List.all_eq_true];intro d hd
  obtain ⟨i,hi,rfl⟩:=List.mem_iff_getElem.mp hd
  exact hr i _ (gEG hi)
 have:(iB hs).all id=true:=by
  rw [List.all_eq_true];intro x hx
  obtain ⟨i,hi,rfl⟩:=List.mem_map.mp hx
  rw [List.mem_range] at hi
  exact decide_eq_true (ht i (by omega))
 simp only [aE,this,h1,decide_eq_true h4,Bool.and_true]
theorem j3 {ds:List D} (h:¬ ds.length=2):au (.tup ds)=false:=by
 unfold au
 split
 ·rename_i b e heq
  cases heq
  exact absurd rfl h
 ·rfl
theorem qh {r s:Int} {rows hs:List D} (hg:aD (.tup rows)=true) (hh:aE (.tup hs)=true):Fit 3 4 (.tup [.int r,.int s,.tup rows,.tup hs]):=by
 simp only [aD,aE,bAE,decide_eq_true_eq] at hg hh
 refine Fit.tup (n:=2) (by show 4<=4;omega) fun d hd=>?_
 simp only [List.mem_cons,List.not_mem_nil,or_false] at hd
 rcases hd with rfl | rfl | rfl | rfl
 ·exact wg rfl
 ·exact wg rfl
 ·refine Fit.tup (n:=1) (by omega) fun d hd=>?_
  have z:=List.all_eq_true.mp hg.2.1 d hd
  cases d with
  | tup cs=>
   simp only [bE,bAE,decide_eq_true_eq] at z
   refine Fit.tup (n:=0) (by omega) fun d' hd'=>?_
   obtain ⟨i,rfl,_⟩:=ah (List.all_eq_true.mp z.2 d' hd')
   exact wg rfl
  | _=>simp [bE] at z
 ·refine Fit.tup (n:=1) (by omega) fun d hd=>?_
  obtain ⟨b,e,rfl,_⟩:=gg (List.all_eq_true.mp hh.2.1 d hd)
  refine Fit.tup (n:=0) (by show 2<=4;omega) fun d' hd'=>?_
  simp only [List.mem_cons,List.not_mem_nil,or_false] at hd'
  rcases hd' with rfl | rfl <;> exact wg rfl
end Dw
namespace Dw
open PySem PySem.Spec PyProof.Rows L2
noncomputable def intOf (d:D):Int:=match d with | .int i=>i | _=>0
noncomputable def aC (fs:List D):List Int:=fs.map intOf
theorem dM (fs:List D):(aC fs).length=fs.length:=by unfold aC;rw [List.length_map]
theorem cR:∀ (n:Nat) (l:List Int),l.Nodup->(∀ x ∈ l,0<=x/\x < (n:Int))->l.length<=n
 | 0,l,_,h=>by
  cases l with
  | nil=>exact Nat.le_refl _
  | cons x l=>have:=h x List.mem_cons_self;omega
 | n+1,l,nd,h=>by
  by_cases hm:(n:Int) ∈ l
  ·have ih:=cR n (l.erase n) (nd.erase _) fun x hx=>by
    have h1:=h x (List.mem_of_mem_erase hx)
    have h2:x ≠ (n:Int):=fun e=>(List.Nodup.not_mem_erase nd) (e ▸ hx)
    omega
   rw [List.length_erase_of_mem hm] at ih
   have:=List.length_pos_of_mem hm
   omega
  ·have ih:=cR n l nd fun x hx=>by
    have h1:=h x hx
    have h2:x ≠ (n:Int):=fun e=>hm (e ▸ hx)
    omega
   omega
noncomputable def fw (is:List Int):Bool:=decide is.Nodup
theorem ot (is:List Int):(is.map fun i=>decide (((is.count i:Nat):Int)=1)).all id=fw is:=by
 rw [Bool.eq_iff_iff,List.all_map]
 unfold fw
 rw [List.all_eq_true,decide_eq_true_eq,List.nodup_iff_count]
 constructor
 ·intro h a
  by_cases hm:a ∈ is
  ·have:=of_decide_eq_true (h a hm)
   omega
  ·rw [List.count_eq_zero_of_not_mem hm];omega
 ·intro h a ha
  have h1:=h a
  have h2:=List.count_pos_iff.mpr ha
  exact decide_eq_true (by omega)
noncomputable def bH (n:Nat) (d:D):Bool:=match d with
 | .tup fs=>decide (fs.length<=n) && (fs.all (fun e=>ae e 0 ((n:Int) - 1)) && fw (aC fs))
 | _=>false
noncomputable def bo (n:Nat) (d:D):Bool:=match d with
 | .non=>true
 | .tup [k,m]=>ae k 0 ((n:Int) - 1) && ae m 0 9999
 | _=>false
noncomputable def leD (j:D) (s:Int) (f:D):Bool:=match j,f with | .int a,.int b=>decide (a+s<=b) | _,_=>false
noncomputable def aA (n:Nat) (r s:Int) (d:D):Bool:=match d with
 | .tup [k,j,f,l,u,w,g]=>[j,f,l,u].all (fun e=>ae e 0 9999) && ((leD j s f && leD f 0 l) && (ae k 0 ((n:Int) - 1) && (ae w 0 99 && ae g 0 r)))
 | _=>false
noncomputable def aF (n:Nat) (r s:Int) (d:D):Bool:=match d with
 | .tup gs=>decide (gs.length<=7) && gs.all (aA n r s)
 | _=>false
noncomputable def Ef (d:D):Int:=match d with | .tup [_,_,_,_,_,_,.int g]=>g | _=>0
noncomputable def cH (gs:List D) (i:Nat):Int:=match gs[i]? with | some d=>Ef d | _=>0
noncomputable def t8 (gs:List D) (is:List Int):List Bool:=(List.range gs.length).map fun (i:Nat)=>decide (cH gs i=0) || decide (((i:Nat):Int) ∈ is)
noncomputable def bB (gs:List D) (d:D):Bool:=match d with
 | .tup fs=>bH gs.length (.tup fs) && (t8 gs (aC fs)).all id
 | _=>false
noncomputable def tupOf (d:D):List D:=match d with | .tup ds=>ds | _=>[]
noncomputable def cS (m:D):Nat:=match m with | .tup [_,_,.tup rows,_]=>rows.length | _=>0
noncomputable def fA (m:D):Int:=match m with | .tup [.int r,_,_,_]=>r | _=>0
noncomputable def iC (m:D):Int:=match m with | .tup [_,.int s,_,_]=>s | _=>0
noncomputable def fX (d:D):Bool:=match d with
 | .tup [m,a,g,f]=>aV m && (bo (cS m) a && (aF (cS m) (fA m) (iC m) g && bB (tupOf g) f))
 | _=>false
theorem dB {m:D} (h:aV m=true):∃ r s rows hs,m = .tup [.int r,.int s,.tup rows,.tup hs]/\0<=r/\r<=8/\0<=s/\s<=60/\aD (.tup rows)=true/\aE (.tup hs)=true:=by
 unfold aV at h
 split at h
 ·rename_i r s g hh
  simp only [bAE] at h
  obtain ⟨h1,h2,h3,h4⟩:=h
  obtain ⟨r,rfl,r0,r1⟩:=ah h1
  obtain ⟨s,rfl,s0,s1⟩:=ah h2
  cases g with
  | tup rows=>
   cases hh with
   | tup hs=>exact ⟨r,s,rows,hs,rfl,r0,r1,s0,s1,h3,h4⟩
   | _=>simp [aE] at h4
  | _=>simp [aD] at h3
 ·cases h
theorem ou {ds:List D} (h:ds.length=7):∃ a b c d e f g,ds=[a,b,c,d,e,f,g]:=by
 match ds,h with
 | [a,b,c,d,e,f,g],_=>exact ⟨a,b,c,d,e,f,g,rfl⟩
theorem iE {n:Nat} {r s:Int} {d:D} (h:aA n r s d=true):∃ k j f l u w g:Int,d = .tup [.int k,.int j,.int f,.int l,.int u,.int w,.int g]/\0<=k/\k < n/\0<=j/\j<=9999/\0<=f/\f<=9999/\0<=l/\l<=9999/\0<=u/\u<=9999/\j+s<=f/\f<=l/\0<=w/\w<=99/\0<=g/\g<=r:=by
 unfold aA at h
 split at h
 ·rename_i k j f l u w g
  simp only [bAE,List.all_cons,List.all_nil,Bool.and_true] at h
  obtain ⟨⟨a1,a2,a3,a4⟩,⟨b1,b2⟩,c1,c2,c3⟩:=h
  obtain ⟨j,rfl,j0,j1⟩:=ah a1
  obtain ⟨f,rfl,f0,f1⟩:=ah a2
  obtain ⟨l,rfl,l0,l1⟩:=ah a3
  obtain ⟨u,rfl,u0,u1⟩:=ah a4
  obtain ⟨k,rfl,k0,k1⟩:=ah c1
  obtain ⟨w,rfl,w0,w1⟩:=ah c2
  obtain ⟨g,rfl,g0,g1⟩:=ah c3
  simp only [leD,decide_eq_true_eq] at b1 b2
  exact ⟨k,j,f,l,u,w,g,rfl,k0,by omega,j0,j1,f0,f1,l0,l1,u0,u1,b1,by omega,w0,w1,g0,g1⟩
 ·cases h
theorem lC {n:Nat} {r s:Int} {ds:List D} (h:¬ ds.length=7):aA n r s (.tup ds)=false:=by
 unfold aA
 split
 ·rename_i heq;cases heq;exact absurd rfl h
 ·rfl
theorem ow {n:Nat} {ds:List D} (h:¬ ds.length=2):bo n (.tup ds)=false:=by
 unfold bo
 split
 ·rename_i heq;cases heq
 ·rename_i heq;cases heq;exact absurd rfl h
 ·rfl
theorem wo {ds:List D} (h:¬ ds.length=4):fX (.tup ds)=false:=by
 unfold fX
 split
 ·rename_i heq;cases heq;exact absurd rfl h
 ·rfl
theorem Eg (ds:List D):isT (.tup ds) 7 7=decide (ds.length=7):=mz ds 7
theorem wp (ds:List D) (n:Nat):isT (.tup ds) 0 n=decide (ds.length<=n):=by
 unfold isT
 rw [Bool.eq_iff_iff];simp
theorem mK (m a g f:D):fX (.tup [m,a,g,f])=(aV m && (bo (cS m) a && (aF (cS m) (fA m) (iC m) g && bB (tupOf g) f))):=rfl
end Dw
namespace Dw
open PySem PySem.Spec PyProof.Rows L2
theorem t9 {n:Nat} {d:D}:ae d 0 ((n:Int) - 1)=true->∃ i,d = .int i/\0<=i/\i < n:=fun h=>by
 obtain ⟨i,e,h0,h1⟩:=ah h
 exact ⟨i,e,h0,by omega⟩
theorem qi {n:Nat} {fs:List D} {i:Nat} {d:D} (h:fs[i]?=some d) (hb:ae d 0 ((n:Int) - 1)=false):bH n (.tup fs)=false:=by
 have:fs.all (fun e=>ae e 0 ((n:Int) - 1))=false:=by
  rw [Bool.eq_false_iff];intro z
  have:=List.all_eq_true.mp z d (List.mem_of_getElem? h)
  rw [hb] at this;cases this
 simp only [bH,this,Bool.false_and,Bool.and_false]
theorem qj {n:Nat} {fs:List D} (h:¬ (aC fs).Nodup):bH n (.tup fs)=false:=by
 have:fw (aC fs)=false:=decide_eq_false h
 simp only [bH,this,Bool.and_false]
theorem iY {n:Nat} {fs:List D} (h:fs.all (fun e=>ae e 0 ((n:Int) - 1))=true) (nd:(aC fs).Nodup):bH n (.tup fs)=true:=by
 have hl:fs.length<=n:=by
  have:=cR n (aC fs) nd fun x hx=>by
   obtain ⟨d,hd,rfl⟩:=List.mem_map.mp hx
   obtain ⟨i,rfl,h0,h1⟩:=t9 (List.all_eq_true.mp h d hd)
   exact ⟨h0,h1⟩
  rwa [dM] at this
 have:fw (aC fs)=true:=decide_eq_true nd
 simp only [bH,this,h,decide_eq_true hl,Bool.and_true]
theorem oz {n:Nat} {r s:Int} {gs:List D} {i:Nat} {d:D} (h:gs[i]?=some d) (hb:aA n r s d=false):aF n r s (.tup gs)=false:=by
 have:gs.all (aA n r s)=false:=by
  rw [Bool.eq_false_iff];intro z
  have:=List.all_eq_true.mp z d (List.mem_of_getElem? h)
  rw [hb] at this;cases this
 simp only [aF,this,Bool.and_false]
theorem mL {n:Nat} {r s:Int} {gs:List D} (h:gs.all (aA n r s)=true) {i:Nat} {d:D} (hi:gs[i]?=some d):∃ k j f l u w g:Int,d = .tup [.int k,.int j,.int f,.int l,.int u,.int w,.int g]/\cH gs i=g/\0<=g:=by
 obtain ⟨k,j,f,l,u,w,g,rfl,h1⟩:=iE (List.all_eq_true.mp h d (List.mem_of_getElem? hi))
 exact ⟨k,j,f,l,u,w,g,rfl,by unfold cH;rw [hi];rfl,by omega⟩
theorem ua (fs:List D) (k:Nat):aC (fs.take k)=(aC fs).take k:=by unfold aC;rw [List.map_take]
theorem gL (ds:List D) (k:Nat) (hk:k<=ds.length):aX ds none (some (k:Int))=ds.take k:=by
 unfold aX
 rw [jX _ _ (by omega)]
 show (ds.drop 0).take (min ((k:Int).toNat) ds.length - 0)=_
 rw [List.drop_zero,Nat.sub_zero,Int.toNat_natCast,Nat.min_eq_left hk]
end Dw
namespace Dw
open PySem PySem.Spec PyProof.Rows L2
noncomputable def aZ:Key->PyData
 | .inl i=>.int i
 | .inr x=>.str x
mutual
noncomputable def aW:D->PyData
 | .non=>.none
 | .bl b=>.bool b
 | .int i=>.int i
 | .str x=>.str x
 | .tup ds=>.tuple (aG ds)
 | .lst ds=>.list (aG ds)
 | .dic ks ds=>.dict ((ks.map aZ).zip (aG ds))
noncomputable def aG:List D->List PyData
 | []=>[]
 | d::ds=>aW d::aG ds
end
theorem bX:∀ ds:List D,(aG ds).length=ds.length
 | []=>by simp [aG]
 | d::ds=>by simp [aG,bX ds]
theorem fB {α β:Type}:∀ (ks:List α) (ds:List β),ks.length=ds.length->(ks.zip ds).map (·.1)=ks
 | [],[],_=>rfl
 | k::ks,d::ds,h=>by simp [fB ks ds (by simpa using h)]
 | [],_::_,h=>by simp at h
 | _::_,[],h=>by simp at h
theorem fC {α β:Type}:∀ (ks:List α) (ds:List β),ks.length=ds.length->(ks.zip ds).map (·.2)=ds
 | [],[],_=>rfl
 | k::ks,d::ds,h=>by simp [fC ks ds (by simpa using h)]
 | [],_::_,h=>by simp at h
 | _::_,[],h=>by simp at h
mutual
noncomputable def shw:D->Prop
 | .int i=>i.natAbs.log2 < 1920
 | .tup ds=>mM ds
 | .lst ds=>mM ds
 | .dic ks ds=>(∀ k ∈ ks,∀ i,k=Sum.inl i->i.natAbs.log2 < 1920)/\mM ds
 | _=>True
noncomputable def mM:List D->Prop
 | []=>True
 | d::ds=>shw d/\mM ds
end
section
variable {P:Program} {w:World} {N:List Addr} {H:Hp} {h:Heap}
theorem lD:∀ {ks:List Key} {kvs:List (Key × Value)} {es:List DictEntry},Pairs (bD P w) es kvs->kvs.map (·.1)=ks->ReadsAll h (es.map (·.key)) (ks.map aZ) []
 | [],[],_,.nil,_=>.nil
 | k::ks,_::_,_,.cons (e:=e) hk hv r,eq=>by
  simp only [List.map_cons,List.cons.injEq] at eq
  obtain ⟨e1,e2⟩:=eq
  have z:=lD (ks:=ks) r e2
  have hk':iW k e.key=true:=by rw [<-e1];exact hk
  have one:Reads h e.key (aZ k) []:=by
   rcases aU hk' with ⟨i,t,rfl,q⟩ | ⟨x,t,rfl,q⟩
   ·rw [q];exact .int _ _
   ·rw [q];exact .str _ _
  exact ReadsAll.cons one z
theorem ca:∀ {kvs:List (Key × Value)} {es:List DictEntry},Pairs (bD P w) es kvs->es.map (·.val)=kvs.map (·.2)
 | [],_,.nil=>rfl
 | _::_,_,.cons _ hv r=>by rw [List.map_cons,List.map_cons,hv,ca r]
theorem jx:∀ {ks:List Key} {xs:List V} {kvs:List (Key × Value)},ks.length=xs.length->KV (ks.zip xs) kvs->aK xs (kvs.map (·.2))/\kvs.map (·.1)=ks
 | [],[],_,_,.nil=>⟨.nil,rfl⟩
 | k::ks,x::xs,_,hl,.cons r t=>by
  obtain ⟨h1,h2⟩:=jx (ks:=ks) (xs:=xs) (by simpa using hl) t
  exact ⟨.cons r.2 h1,by rw [List.map_cons,h2,<-r.1]⟩
 | [],_::_,_,hl,_=>by simp at hl
 | _::_,[],_,hl,_=>by simp at hl
mutual
theorem cI (ok:HOk P w H h):∀ (d:D) {v:V} {u:Value},Br N H d v->aJ v u->∃ as,Reads h u (aW d) as
 | .non,v,u,b,r=>by simp only [Br] at b;subst b;cases r;exact ⟨_,by simp only [aW];exact .none⟩
 | .bl x,v,u,b,r=>by simp only [Br] at b;subst b;cases r;exact ⟨_,by simp only [aW];exact .bool _⟩
 | .int i,v,u,b,r=>by simp only [Br] at b;subst b;obtain ⟨t,rfl⟩:=r;exact ⟨_,by simp only [aW];exact .int _ _⟩
 | .str x,v,u,b,r=>by simp only [Br] at b;subst b;obtain ⟨t,rfl⟩:=r;exact ⟨_,by simp only [aW];exact .str _ _⟩
 | .tup ds,v,u,b,r=>by
  simp only [Br] at b
  obtain ⟨a,xs,rfl,ha,hx⟩:=b
  cases r
  obtain ⟨_,its,rv,o,e,c,n,q,_⟩:=ok a _ ha
  obtain ⟨as,z⟩:=fD ok ds hx rv
  simp only [aW]
  exact ⟨_,.tuple e c q (by simpa using z)⟩
 | .lst ds,v,u,b,r=>by
  simp only [Br] at b
  obtain ⟨a,xs,rfl,_,ha,hx⟩:=b
  cases r
  obtain ⟨_,its,n,rv,e⟩:=ok a _ ha
  obtain ⟨as,z⟩:=fD ok ds hx rv
  simp only [aW]
  exact ⟨_,.list e rfl rfl (by simpa using z)⟩
 | .dic ks ds,v,u,b,r=>by
  simp only [Br] at b
  obtain ⟨a,xs,rfl,_,ha,hl,hx⟩:=b
  cases r
  obtain ⟨_,_,kvs,rk,o,es,ep,e,ex,q,_,pr,_⟩:=ok a _ ha
  obtain ⟨rv,k1⟩:=jx (by rw [hl,hx.len]) rk
  obtain ⟨as,z⟩:=fD ok ds hx rv
  simp only [aW]
  refine ⟨_,.dict e ex.1 q (kvs:=(ks.map aZ).zip (aG ds)) (as:=[]) (bs:=as) ?_ ?_⟩
  ·rw [fB _ _ (by rw [List.length_map,bX,hl])]
   exact lD pr k1
  ·rw [fC _ _ (by rw [List.length_map,bX,hl]),ca pr]
   exact z
theorem fD (ok:HOk P w H h):∀ (ds:List D) {xs:List V} {us:List Value},BrL N H ds xs->aK xs us->∃ as,ReadsAll h us (aG ds) as
 | [],xs,us,b,r=>by simp only [BrL] at b;subst b;cases r;exact ⟨_,by simp only [aG];exact .nil⟩
 | d::ds,xs,us,b,r=>by
  simp only [BrL] at b
  obtain ⟨x,l,rfl,h1,h2⟩:=b
  cases r with
  | cons r1 r2=>
   obtain ⟨as,z1⟩:=cI ok d h1 r1
   obtain ⟨bs,z2⟩:=fD ok ds h2 r2
   simp only [aG]
   exact ⟨_,.cons z1 z2⟩
end
theorem j4 {es:List DictEntry}:∀ {ks:List Key} {kvs:List (Key × Value)} {es:List DictEntry} {d:Nat} {bs:List Addr},Pairs (bD P w) es kvs->kvs.map (·.1)=ks->(∀ k ∈ ks,∀ i,k=Sum.inl i->i.natAbs.log2 < 1920)->(∀ t ∈ PyData.shownAll (ks.map aZ),t.length<=sizeLine)->ReprAllK P w bs h d (es.map (·.key)) (PyData.shownAll (ks.map aZ))
 | [],[],_,_,_,.nil,_,_,_=>by simp only [List.map_nil,PyData.shownAll];exact .nil
 | k::ks,_::_,_,d,bs,.cons (e:=e) hk hv r,eq,hi,hz=>by
  simp only [List.map_cons,List.cons.injEq] at eq
  obtain ⟨e1,e2⟩:=eq
  have hk':iW k e.key=true:=by rw [<-e1];exact hk
  simp only [List.map_cons,PyData.shownAll] at hz ⊢
  refine .cons ?_ (j4 (es:=[]) r e2 (fun k' m=>hi k' (List.mem_cons_of_mem _ m)) fun t m=>hz t (List.mem_cons_of_mem _ m))
  rcases aU hk' with ⟨i,t,rfl,q⟩ | ⟨x,t,rfl,q⟩
  ·rw [q]
   simp only [aZ,PyData.shown]
   exact .of_is (ReprIs.int t (hi _ List.mem_cons_self i rfl)) _ _ _
  ·rw [q]
   have hs:=hz _ List.mem_cons_self
   simp only [aZ,PyData.shown] at hs ⊢
   exact .of_is (ReprIs.str x t hs) _ _ _
mutual
theorem zO (ok:HOk P w H h):∀ (d:D) {v:V} {u:Value},Br N H d v->aJ v u->shw d->(aW d).shown.length<=sizeLine->∃ bs,ReadAtMost h (aW d).depth bs/\ReprK P w bs h (aW d).depth u (aW d).shown
 | .non,v,u,b,r,_,_=>by simp only [Br] at b;subst b;cases r;exact ⟨[],(fun _ m=>nomatch m),by simp only [aW,PyData.shown];exact .of_is ReprIs.none _ _ _⟩
 | .bl x,v,u,b,r,_,_=>by simp only [Br] at b;subst b;cases r;exact ⟨[],(fun _ m=>nomatch m),by simp only [aW,PyData.shown];exact .of_is (ReprIs.bool _) _ _ _⟩
 | .int i,v,u,b,r,hs,_=>by simp only [Br] at b;subst b;obtain ⟨t,rfl⟩:=r;exact ⟨[],(fun _ m=>nomatch m),by simp only [aW,PyData.shown];exact .of_is (ReprIs.int t (by simpa only [shw] using hs)) _ _ _⟩
 | .str x,v,u,b,r,_,hz=>by simp only [Br] at b;subst b;obtain ⟨t,rfl⟩:=r;exact ⟨[],(fun _ m=>nomatch m),by simp only [aW,PyData.shown] at hz ⊢;exact .of_is (ReprIs.str x t hz) _ _ _⟩
 | .tup ds,v,u,b,r,hs,hz=>by
  obtain ⟨as,whole⟩:=cI ok (.tup ds) b r
  simp only [Br] at b
  obtain ⟨a,xs,rfl,ha,hx⟩:=b
  cases r
  obtain ⟨_,its,rv,o,e,c,n,q,_⟩:=ok a _ ha
  simp only [aW,PyData.shown,PyData.depth] at hz whole ⊢
  obtain ⟨bs,m,k⟩:=cJ ok ds hx rv (by simpa only [shw] using hs) fun t ht=>Nat.le_trans (tupleText_mem_le ht) hz
  have out:a ∉ bs:=not_mem_of_deeper whole (by simp only [PyData.depth];omega) m
  have mm:=ReadAtMost.cons whole (by simp only [PyData.depth];omega) m
  simp only [PyData.depth] at mm
  exact ⟨a::bs,mm,ReprK.tuple e c q out (by simpa using k)⟩
 | .lst ds,v,u,b,r,hs,hz=>by
  obtain ⟨as,whole⟩:=cI ok (.lst ds) b r
  simp only [Br] at b
  obtain ⟨a,xs,rfl,_,ha,hx⟩:=b
  cases r
  obtain ⟨_,its,n,rv,e⟩:=ok a _ ha
  simp only [aW,PyData.shown,PyData.depth] at hz whole ⊢
  obtain ⟨bs,m,k⟩:=cJ ok ds hx rv (by simpa only [shw] using hs) fun t ht=>Nat.le_trans (listText_mem_le ht) hz
  have out:a ∉ bs:=not_mem_of_deeper whole (by simp only [PyData.depth];omega) m
  have mm:=ReadAtMost.cons whole (by simp only [PyData.depth];omega) m
  simp only [PyData.depth] at mm
  refine ⟨a::bs,mm,?_⟩
  cases its with
  | nil=>
   cases k':PyData.shownAll (aG ds) with
   | nil=>simp only [listText_nil];exact ReprK.listEmpty e rfl rfl
   | cons _ _=>rw [k'] at k;cases k
  | cons y l=>exact ReprK.list e rfl rfl out (by simpa using k.length_eq) (fun i y' q'=>k.item i y' (by simpa using q'))
 | .dic ks ds,v,u,b,r,hs,hz=>by
  obtain ⟨as,whole⟩:=cI ok (.dic ks ds) b r
  simp only [Br] at b
  obtain ⟨a,xs,rfl,_,ha,hl,hx⟩:=b
  cases r
  obtain ⟨_,sys,kvs,rk,o,es,ep,e,ex,q,_,pr,_⟩:=ok a _ ha
  obtain ⟨rv,k1⟩:=jx (by rw [hl,hx.len]) rk
  simp only [shw] at hs
  have lz:(ks.map aZ).length=(aG ds).length:=by rw [List.length_map,bX,hl]
  simp only [aW,PyData.shown,PyData.depth] at hz whole ⊢
  have f1:=fB (ks.map aZ) (aG ds) lz
  have f2:=fC (ks.map aZ) (aG ds) lz
  have dk:=PyData.depthAll_keys_le ((ks.map aZ).zip (aG ds))
  have dv:=PyData.depthAll_vals_le ((ks.map aZ).zip (aG ds))
  rw [f1] at dk
  rw [f2] at dv
  obtain ⟨bs,m,k⟩:=cJ ok ds hx rv hs.2 fun t ht=>by
   obtain ⟨p,hp,hlen⟩:=PyData.shownKv_val_le ((ks.map aZ).zip (aG ds)) t (by rw [f2];exact ht)
   exact Nat.le_trans hlen (Nat.le_trans (dictText_mem_le hp) hz)
  have kk:=j4 (h:=h) (es:=[]) (d:=PyData.depthAll (ks.map aZ)) (bs:=bs) pr k1 hs.1 fun t ht=>by
   obtain ⟨p,hp,hlen⟩:=PyData.shownKv_key_le ((ks.map aZ).zip (aG ds)) t (by rw [f1];exact ht)
   exact Nat.le_trans hlen (Nat.le_trans (dictText_mem_le hp) hz)
  have m':=m.mono dv
  have out:a ∉ bs:=not_mem_of_deeper whole (by simp only [PyData.depth];omega) m'
  have mm:=ReadAtMost.cons whole (by simp only [PyData.depth];omega) m'
  simp only [PyData.depth] at mm
  refine ⟨a::bs,mm,?_⟩
  rw [PyData.shownKv_eq,f1,f2]
  refine ReprK.dict e ex.1 q sys out (ReprEntriesK.of_two es.toList _ _ (kk.more_le (fun _ z=>z) dk) ?_)
  rw [ca pr]
  exact k.more_le (fun _ z=>z) dv
theorem cJ (ok:HOk P w H h):∀ (ds:List D) {xs:List V} {us:List Value},BrL N H ds xs->aK xs us->mM ds->(∀ t ∈ PyData.shownAll (aG ds),t.length<=sizeLine)->∃ bs,ReadAtMost h (PyData.depthAll (aG ds)) bs/\ReprAllK P w bs h (PyData.depthAll (aG ds)) us (PyData.shownAll (aG ds))
 | [],xs,us,b,r,_,_=>by simp only [BrL] at b;subst b;cases r;exact ⟨[],(fun _ m=>nomatch m),by simp only [aG,PyData.shownAll];exact .nil⟩
 | d::ds,xs,us,b,r,hs,hz=>by
  simp only [BrL] at b
  obtain ⟨x,l,rfl,h1,h2⟩:=b
  cases r with
  | cons r1 r2=>
   simp only [aG,PyData.shownAll,PyData.depthAll,mM] at hz hs ⊢
   obtain ⟨b1,m1,k1⟩:=zO ok d h1 r1 hs.1 (hz _ List.mem_cons_self)
   obtain ⟨b2,m2,k2⟩:=cJ ok ds h2 r2 hs.2 fun t ht=>hz t (List.mem_cons_of_mem _ ht)
   refine ⟨b1++b2,(m1.mono (Nat.le_max_left _ _)).append (m2.mono (Nat.le_max_right _ _)),?_⟩
   exact .cons ((k1.more fun b z=>List.mem_append_left _ z).level_le (Nat.le_max_left _ _)) (k2.more_le (fun b z=>List.mem_append_right _ z) (Nat.le_max_right _ _))
end
end
end Dw
namespace Dw
open PySem PySem.Spec PyProof.Rows L2
section
variable {X:Cx}
structure Shn (d:D):Prop where
 sh:shw d
 sz:(aW d).shown.length<=sizeLine
 dp:(aW d).depth<=100
noncomputable def Eh:List V->Hp->VK->Prop:=fun xs H Q=>∃ x N d,xs=[x]/\Br N H d x/\Shn d/\Q (.str (aW d).shown) H
theorem qk {k:Nat} (hr:Room k X.A):aN X (.builtin "repr") Eh:=by
 intro pins s σ H xs us Q I r h
 obtain ⟨x,N,d,rfl,b,⟨hs,hz,hd⟩,q⟩:=h
 obtain ⟨u,rfl,ru⟩:=cr r
 have hun:=hr.un
 have hu1:X.A.units+1 < cLine:=by omega
 have gd1:X.A.in1.guards=some []:=hr.gd
 have fin:∀ h' t tk,(∀ b o,s.heap.get? b=some o->h'.get? b=some o)->∃ x' t',Value.str (aW d).shown t=Value.str x' t'/\EP X pins σ Q (Value.str (aW d).shown t) { s with heap:=h',toks:=tk }:=fun h' t tk hk=>⟨_,_,rfl,.str _,H,I.kept (t':=tk) hk,⟨t,rfl⟩,q⟩
 cases d with
 | non=>
  simp only [Br] at b;subst b;cases ru
  exact P.repr_of_none ⟨.str _,H,I.tok _,⟨_,rfl⟩,by simpa only [aW,PyData.shown] using q⟩
 | bl y=>
  simp only [Br] at b;subst b;cases ru
  exact P.repr_of_bool ⟨.str _,H,I.tok _,⟨_,rfl⟩,by simpa only [aW,PyData.shown] using q⟩
 | int i=>
  simp only [Br] at b;subst b;obtain ⟨t,rfl⟩:=ru
  exact P.repr_of_int (by simpa only [shw] using hs) ⟨.str _,H,I.tok _,⟨_,rfl⟩,by simpa only [aW,PyData.shown] using q⟩
 | str y=>
  simp only [Br] at b;subst b;obtain ⟨t,rfl⟩:=ru
  exact P.repr_of_str ⟨.str _,H,I.tok _,⟨_,rfl⟩,by simpa only [aW,PyData.shown] using q⟩ (by simpa only [aW,PyData.shown] using hz)
 | tup ds=>
  obtain ⟨as,whole⟩:=cI I.hok (.tup ds) b ru
  simp only [Br] at b
  obtain ⟨a,ys,rfl,ha,hx⟩:=b
  cases ru
  obtain ⟨_,its,rv,o,e,c,n,q',_⟩:=I.hok a _ ha
  simp only [aW,PyData.shown,PyData.depth] at hz whole hd fin
  obtain ⟨bs,m,k'⟩:=cJ I.hok ds hx rv (by simpa only [shw] using hs) fun t ht=>Nat.le_trans (tupleText_mem_le ht) hz
  have out:a ∉ bs:=not_mem_of_deeper whole (by simp only [PyData.depth];omega) m
  refine call_repr_slot hu1 ⟨o,e,c⟩ F.slot_tuple_repr ?_
  exact call_tuple_reprK e c q' out (by simpa using k') gd1 (fun b _=>Clear.nil b) (by show X.A.units+1+(_+1) < cLine;omega) (fun _ _ z=>z) (fun h' t tk hk=>fin h' t tk hk) hz
 | lst ds=>
  obtain ⟨as,whole⟩:=cI I.hok (.lst ds) b ru
  simp only [Br] at b
  obtain ⟨a,ys,rfl,_,ha,hx⟩:=b
  cases ru
  obtain ⟨_,its,n,rv,e⟩:=I.hok a _ ha
  simp only [aW,PyData.shown,PyData.depth] at hz whole hd fin
  obtain ⟨bs,m,k'⟩:=cJ I.hok ds hx rv (by simpa only [shw] using hs) fun t ht=>Nat.le_trans (listText_mem_le ht) hz
  have out:a ∉ bs:=not_mem_of_deeper whole (by simp only [PyData.depth];omega) m
  refine call_repr_slot hu1 ⟨_,e,rfl⟩ F.slot_list_repr.toG ?_
  cases its with
  | nil=>
   cases k2:PyData.shownAll (aG ds) with
   | nil=>
    rw [k2] at fin
    simp only [listText_nil] at fin
    exact call_list_repr_empty ⟨_,e,rfl⟩ e rfl (fin s.heap _ _ fun _ _ z=>z)
   | cons _ _=>rw [k2] at k';cases k'
  | cons y l=>
   exact call_list_reprK e rfl rfl out (by simpa using k'.length_eq) (fun i y' q2=>k'.item i y' (by simpa using q2)) gd1 (fun b _=>Clear.nil b) (by show X.A.units+1+(_+1) < cLine;omega) (fun _ _ z=>z) (fun h' t tk hk=>fin h' t tk hk) hz
 | dic ks ds=>
  have bb:=b
  obtain ⟨as,whole⟩:=cI I.hok (.dic ks ds) b ru
  simp only [Br] at b
  obtain ⟨a,ys,rfl,_,ha,hl,hx⟩:=b
  cases ru
  obtain ⟨_,sys,kvs,rk,o,es,ep,e,ex,q',_,pr,_⟩:=I.hok a _ ha
  obtain ⟨rv,k1⟩:=jx (by rw [hl,hx.len]) rk
  simp only [shw] at hs
  have lz:(ks.map aZ).length=(aG ds).length:=by rw [List.length_map,bX,hl]
  simp only [aW,PyData.shown,PyData.depth] at hz whole hd fin
  have f1:=fB (ks.map aZ) (aG ds) lz
  have f2:=fC (ks.map aZ) (aG ds) lz
  have dk:=PyData.depthAll_keys_le ((ks.map aZ).zip (aG ds))
  have dv:=PyData.depthAll_vals_le ((ks.map aZ).zip (aG ds))
  rw [f1] at dk
  rw [f2] at dv
  obtain ⟨bs,m,k'⟩:=cJ I.hok ds hx rv hs.2 fun t ht=>by
   obtain ⟨p,hp,hlen⟩:=PyData.shownKv_val_le ((ks.map aZ).zip (aG ds)) t (by rw [f2];exact ht)
   exact Nat.le_trans hlen (Nat.le_trans (dictText_mem_le hp) hz)
  have kk:=j4 (h:=s.heap) (es:=[]) (d:=PyData.depthAll (ks.map aZ)) (bs:=bs) pr k1 hs.1 fun t ht=>by
   obtain ⟨p,hp,hlen⟩:=PyData.shownKv_key_le ((ks.map aZ).zip (aG ds)) t (by rw [f1];exact ht)
   exact Nat.le_trans hlen (Nat.le_trans (dictText_mem_le hp) hz)
  have m':=m.mono dv
  have out:a ∉ bs:=not_mem_of_deeper whole (by simp only [PyData.depth];omega) m'
  refine call_repr_slot hu1 ⟨o,e,ex.1⟩ F.slot_dict_repr ?_
  have hE:ReprEntriesK X.prog X.w bs s.heap (PyData.depthKv ((ks.map aZ).zip (aG ds))) es.toList (PyData.shownKv ((ks.map aZ).zip (aG ds))):=by
   rw [PyData.shownKv_eq,f1,f2]
   refine ReprEntriesK.of_two es.toList _ _ (kk.more_le (fun _ z=>z) dk) ?_
   rw [ca pr]
   exact k'.more_le (fun _ z=>z) dv
  exact call_dict_reprK e ex.1 q' sys out hE gd1 (fun b _=>Clear.nil b) (by show X.A.units+1+(_+1) < cLine;omega) (fun _ _ z=>z) (fun h' t tk hk=>fin h' t tk hk) hz
end
mutual
noncomputable def sz:D->Nat
 | .non=>10
 | .bl _=>10
 | .int _=>60
 | .str x=>(reprText x).length
 | .tup ds=>szL ds+4
 | .lst ds=>szL ds+4
 | .dic ks ds=>szL ds+62 * ks.length+4
noncomputable def szL:List D->Nat
 | []=>0
 | d::ds=>sz d+2+szL ds
end
mutual
noncomputable def bnd (B:Nat):D->Prop
 | .int i=>i.natAbs < B
 | .tup ds=>dC B ds
 | .lst ds=>dC B ds
 | .dic ks ds=>(∀ k ∈ ks,∃ i,k=Sum.inl i/\i.natAbs < B)/\ks.length=ds.length/\dC B ds
 | _=>True
noncomputable def dC (B:Nat):List D->Prop
 | []=>True
 | d::ds=>bnd B d/\dC B ds
end
theorem wq {i:Int} (h:i.natAbs < 10 ^ 50):i.natAbs.log2 < 1920:=by
 by_cases z:i.natAbs=0
 ·rw [z];decide
 ·have:i.natAbs.log2 < 167:=(Nat.log2_lt z).mpr (Nat.lt_of_lt_of_le h (by decide))
  omega
mutual
theorem rQ:∀ (d:D),bnd (10 ^ 50) d->shw d
 | .non,_=>by simp only [shw]
 | .bl _,_=>by simp only [shw]
 | .str _,_=>by simp only [shw]
 | .int i,h=>by simp only [shw,bnd] at h ⊢;exact wq h
 | .tup ds,h=>by simp only [shw,bnd] at h ⊢;exact gM ds h
 | .lst ds,h=>by simp only [shw,bnd] at h ⊢;exact gM ds h
 | .dic ks ds,h=>by
  simp only [shw,bnd] at h ⊢
  refine ⟨fun k hk i e=>?_,gM ds h.2.2⟩
  obtain ⟨j,e2,hj⟩:=h.1 k hk
  rw [e] at e2;cases e2
  exact wq hj
theorem gM:∀ (ds:List D),dC (10 ^ 50) ds->mM ds
 | [],_=>by simp only [mM]
 | d::ds,h=>by simp only [mM,dC] at h ⊢;exact ⟨rQ d h.1,gM ds h.2⟩
end
end Dw
namespace Dw
open PySem PySem.Spec PyProof.Rows L2
theorem rR:∀ (ts:List Str) (k:Nat) (acc:Str),(textFrom k acc ts).length<=acc.length+piled ts
 | [],k,acc=>by show acc.length<=_;omega
 | t::r,k,acc=>by
  have ih:=rR r (k+1) (acc++(if k > 0 then ", " else "" : String)++t)
  show (textFrom (k+1) (acc++(if k > 0 then ", " else "" : String)++t) r).length<=_
  rw [piled_cons]
  have e:(acc++(if k > 0 then ", " else "" : String)++t).length<=acc.length+2+t.length:=by
   rw [strLen_append,strLen_append]
   have:(Str.ofString (if k > 0 then ", " else "" : String)).length<=2:=by split <;> decide
   omega
  omega
theorem rT (ts:List Str):(Str.join ", " ts).length<=piled ts:=by
 cases ts with
 | nil=>decide
 | cons t r=>have:=join_length_add (t::r) (by simp);omega
theorem zP (ts:List Str):(listText ts).length<=piled ts+4:=by
 unfold listText
 rw [strLen_append]
 have h1:=rR ts 0 "["
 have h2:(Str.ofString "[").length=1:=by decide
 have h3:(Str.ofString "]").length=1:=by decide
 have h1':(textFrom 0 (Str.ofString "[") ts).length<=(Str.ofString "[").length+piled ts:=h1
 show (textFrom 0 (Str.ofString "[") ts).length+(Str.ofString "]").length<=_
 omega
theorem wr (ts:List Str):(tupleText ts).length<=piled ts+4:=by
 unfold tupleText
 rw [strLen_append,strLen_append]
 have h1:=rT ts
 have h2:(Str.ofString "(").length=1:=by decide
 have h3:(Str.ofString (if ts.length == 1 then ",)" else ")" : String)).length<=2:=by split <;> decide
 show (Str.ofString "(").length+_+(Str.ofString (if ts.length == 1 then ",)" else ")" : String)).length<=_
 omega
theorem zQ (ts:List Str):(dictText ts).length<=piled ts+4:=by
 unfold dictText
 rw [strLen_append,strLen_append]
 have h1:=rT ts
 have h2:(Str.ofString "{").length=1:=by decide
 have h3:(Str.ofString "}").length=1:=by decide
 show (Str.ofString "{").length+_+(Str.ofString "}").length<=_
 omega
theorem wt {i:Int} (h:i.natAbs < 10 ^ 50):(Str.ofString (toString i)).length<=51:=by
 rw [ofString_len]
 exact int_text_length_le10 (by decide) h
theorem C0:∀ (ks:List Key) (ts:List Str) (hk:∀ k ∈ ks,∃ i,k=Sum.inl i/\i.natAbs < 10 ^ 50),ks.length=ts.length->piled (List.zipWith (fun k v:Str=>k ++ ": " ++ v) (PyData.shownAll (ks.map aZ)) ts)<=piled ts+53 * ks.length
 | [],[],_,_=>by simp [PyData.shownAll,piled]
 | k::ks,t::ts,hk,hl=>by
  have ih:=C0 ks ts (fun k' m=>hk k' (List.mem_cons_of_mem _ m)) (by simpa using hl)
  obtain ⟨i,rfl,hi⟩:=hk _ List.mem_cons_self
  simp only [List.map_cons,PyData.shownAll,List.zipWith_cons_cons,piled_cons,List.length_cons,aZ,PyData.shown]
  have h1:=wt hi
  rw [strLen_append,strLen_append]
  have h2:(Str.ofString ": ").length=2:=by decide
  show (Str.ofString (toString i)).length+(Str.ofString ": ").length+t.length+2+_<=_
  omega
 | [],_::_,_,hl=>by simp at hl
 | _::_,[],_,hl=>by simp at hl
theorem gO:∀ ds:List PyData,(PyData.shownAll ds).length=ds.length
 | []=>by simp [PyData.shownAll]
 | d::ds=>by simp [PyData.shownAll,gO ds]
mutual
theorem oA:∀ (d:D),bnd (10 ^ 50) d->(aW d).shown.length<=sz d
 | .non,_=>by simp only [aW,PyData.shown,sz];decide
 | .bl b,_=>by simp only [aW,PyData.shown,sz];cases b <;> decide
 | .int i,h=>by
  simp only [aW,PyData.shown,sz,bnd] at h ⊢
  have:=wt h
  show (Str.ofString (toString i)).length<=60
  omega
 | .str x,_=>by simp only [aW,PyData.shown,sz];exact Nat.le_refl _
 | .tup ds,h=>by
  simp only [aW,PyData.shown,sz,bnd] at h ⊢
  have:=fE ds h
  have:=wr (PyData.shownAll (aG ds))
  omega
 | .lst ds,h=>by
  simp only [aW,PyData.shown,sz,bnd] at h ⊢
  have:=fE ds h
  have:=zP (PyData.shownAll (aG ds))
  omega
 | .dic ks ds,h=>by
  simp only [aW,PyData.shown,sz,bnd] at h ⊢
  have h1:=fE ds h.2.2
  have lz:(ks.map aZ).length=(aG ds).length:=by rw [List.length_map,bX,h.2.1]
  have h2:=zQ (PyData.shownKv ((ks.map aZ).zip (aG ds)))
  rw [PyData.shownKv_eq,fB _ _ lz,fC _ _ lz] at h2
  have h3:=C0 ks (PyData.shownAll (aG ds)) h.1 (by rw [gO,bX,h.2.1])
  rw [PyData.shownKv_eq,fB _ _ lz,fC _ _ lz]
  omega
theorem fE:∀ (ds:List D),dC (10 ^ 50) ds->piled (PyData.shownAll (aG ds))<=szL ds
 | [],_=>by simp [aG,PyData.shownAll,piled,szL]
 | d::ds,h=>by
  simp only [aG,PyData.shownAll,szL,dC,piled_cons] at h ⊢
  have h1:=oA d h.1
  have h2:=fE ds h.2
  omega
end
theorem oB:∀ (ks:List Key) (ds:List PyData),PyData.depthKv ((ks.map aZ).zip ds)<=PyData.depthAll ds
 | [],ds=>by simp [PyData.depthKv]
 | k::ks,[]=>by simp [PyData.depthKv]
 | k::ks,d::ds=>by
  have ih:=oB ks ds
  simp only [List.map_cons,List.zip_cons_cons,PyData.depthKv,PyData.depthAll]
  have:(aZ k).depth=0:=by cases k <;> simp [aZ,PyData.depth]
  rw [this]
  omega
mutual
theorem oC:∀ (d:D),(aW d).depth<=dep d
 | .non=>by simp [aW,PyData.depth]
 | .bl _=>by simp [aW,PyData.depth]
 | .int _=>by simp [aW,PyData.depth]
 | .str _=>by simp [aW,PyData.depth]
 | .tup ds=>by simp only [aW,PyData.depth,dep];have:=fF ds;omega
 | .lst ds=>by simp only [aW,PyData.depth,dep];have:=fF ds;omega
 | .dic ks ds=>by
  simp only [aW,PyData.depth,dep]
  have:=fF ds
  have:=oB ks (aG ds)
  omega
theorem fF:∀ (ds:List D),PyData.depthAll (aG ds)<=gJ ds
 | []=>by simp [aG,PyData.depthAll,gJ]
 | d::ds=>by
  simp only [aG,PyData.depthAll,gJ]
  have:=oC d
  have:=fF ds
  omega
end
structure Bd (B s:Nat) (d:D):Prop where
 bn:bnd B d
 sz:sz d<=s
mutual
theorem cY {B B':Nat} (h:B<=B'):∀ (d:D),bnd B d->bnd B' d
 | .non,_=>by simp only [bnd]
 | .bl _,_=>by simp only [bnd]
 | .str _,_=>by simp only [bnd]
 | .int i,z=>by simp only [bnd] at z ⊢;omega
 | .tup ds,z=>by simp only [bnd] at z ⊢;exact jy h ds z
 | .lst ds,z=>by simp only [bnd] at z ⊢;exact jy h ds z
 | .dic ks ds,z=>by
  simp only [bnd] at z ⊢
  exact ⟨fun k hk=>let ⟨i,e,q⟩:=z.1 k hk;⟨i,e,by omega⟩,z.2.1,jy h ds z.2.2⟩
theorem jy {B B':Nat} (h:B<=B'):∀ (ds:List D),dC B ds->dC B' ds
 | [],_=>by simp only [dC]
 | d::ds,z=>by simp only [dC] at z ⊢;exact ⟨cY h d z.1,jy h ds z.2⟩
end
theorem Bd.up {B B' s s':Nat} {d:D} (h:Bd B s d) (hB:B<=B') (hs:s<=s'):Bd B' s' d:=⟨cY hB d h.bn,Nat.le_trans h.sz hs⟩
theorem Bd.shn {B s:Nat} {d:D} (h:Bd B s d) (hB:B<=10 ^ 50) (hs:s<=sizeLine) (hd:dep d<=100):Shn d:=
 have b:=cY hB d h.bn
 ⟨rQ d b,Nat.le_trans (oA d b) (Nat.le_trans h.sz hs),Nat.le_trans (oC d) hd⟩
theorem oD {B:Nat} {d:D}:∀ {ds:List D},dC B ds->d ∈ ds->bnd B d
 | e::ds,h,m=>by
  simp only [dC] at h
  rcases List.mem_cons.mp m with rfl | m
  ·exact h.1
  ·exact oD h.2 m
theorem rV {B:Nat}:∀ {ds:List D},(∀ d ∈ ds,bnd B d)->dC B ds
 | [],_=>by simp only [dC]
 | d::ds,h=>by simp only [dC];exact ⟨h d List.mem_cons_self,rV fun e m=>h e (List.mem_cons_of_mem _ m)⟩
theorem cv:∀ (ds es:List D),szL (ds++es)=szL ds+szL es
 | [],es=>by simp [szL]
 | d::ds,es=>by rw [List.cons_append];simp only [szL,cv ds es];omega
theorem rX {d:D}:∀ {ds:List D},d ∈ ds->sz d+2<=szL ds
 | e::ds,m=>by
  simp only [szL]
  rcases List.mem_cons.mp m with rfl | m
  ·omega
  ·have:=rX m;omega
theorem cT:∀ {ds es:List D},ds.Sublist es->szL ds<=szL es
 | _,_,.slnil=>Nat.le_refl _
 | _,_,.cons a s=>by have:=cT s;simp only [szL];omega
 | _,_,.cons₂ a s=>by have:=cT s;simp only [szL];omega
theorem fG (ds:List D) (lo hi:Option Int):(aX ds lo hi).Sublist ds:=(List.take_sublist _ _).trans (List.drop_sublist _ _)
end Dw
namespace Dw
open PySem PySem.Spec PyProof.Rows L2
theorem iG {B s:Nat} {ds:List D} (h:∀ d ∈ ds,bnd B d) (hs:szL ds+4<=s):Bd B s (.tup ds):=⟨by simp only [bnd];exact rV h,by simp only [sz];exact hs⟩
theorem iH {B s:Nat} {ds:List D} (h:Bd B s (.tup ds)):(∀ d ∈ ds,bnd B d)/\szL ds+4<=s:=by
 have h1:=h.bn;have h2:=h.sz
 simp only [bnd] at h1
 simp only [sz] at h2
 exact ⟨fun d m=>oD h1 m,h2⟩
theorem Ei {B s:Nat} {ds:List D} (h:Bd B s (.tup ds)):Bd B s (.lst ds):=by
 have h1:=h.bn;have h2:=h.sz
 exact ⟨by simp only [bnd] at h1 ⊢;exact h1,by simp only [sz] at h2 ⊢;exact h2⟩
theorem Ej {B s:Nat} {ds:List D} {d:D} (h:Bd B s (.tup ds)) (m:d ∈ ds):Bd B (sz d) d/\sz d+6<=s:=by
 obtain ⟨h1,h2⟩:=iH h
 have:=rX m
 exact ⟨⟨h1 d m,Nat.le_refl _⟩,by omega⟩
theorem zR {B s:Nat} {ds:List D} {e:D} (h:Bd B s (.tup ds)) (g:Bd (10 ^ 31) 300 e):Bd (B+10 ^ 31) (3 * s+400) (.tup (ds++[e])):=by
 obtain ⟨h1,h2⟩:=iH h
 have g2:=g.sz
 refine iG (fun d m=>?_) ?_
 ·rcases List.mem_append.mp m with z | z
  ·exact cY (by omega) d (h1 d z)
  ·rw [List.mem_singleton.mp z];exact cY (by omega) e g.bn
 ·rw [cv];simp only [szL];omega
theorem Ek {B s:Nat} {ds:List D} {lo hi:Option Int} (h:Bd B s (.tup ds)):Bd (B+10 ^ 31) (3 * s+400) (.tup (ds++aX ds lo hi)):=by
 obtain ⟨h1,h2⟩:=iH h
 have:=cT (fG ds lo hi)
 refine iG (fun d m=>?_) (by rw [cv];omega)
 exact cY (by omega) d (h1 d ((List.mem_append.mp m).elim id fun z=>bz z))
theorem zS {B s:Nat} {ds:List D} {lo hi lo' hi':Option Int} (h:Bd B s (.tup ds)):Bd (B+10 ^ 31) (3 * s+400) (.tup (aX ds lo hi++aX ds lo' hi')):=by
 obtain ⟨h1,h2⟩:=iH h
 have:=cT (fG ds lo hi)
 have:=cT (fG ds lo' hi')
 refine iG (fun d m=>?_) (by rw [cv];omega)
 exact cY (by omega) d (h1 d ((List.mem_append.mp m).elim bz fun z=>bz z))
theorem zT {B s:Nat} {ds:List D} {l1 h1 l2 h2 l3 h3:Option Int} (h:Bd B s (.tup ds)):Bd (B+10 ^ 31) (3 * s+400) (.tup ((aX ds l1 h1++aX ds l2 h2)++aX ds l3 h3)):=by
 obtain ⟨g1,g2⟩:=iH h
 have:=cT (fG ds l1 h1)
 have:=cT (fG ds l2 h2)
 have:=cT (fG ds l3 h3)
 refine iG (fun d m=>?_) (by rw [cv,cv];omega)
 refine cY (by omega) d (g1 d ?_)
 rcases List.mem_append.mp m with z | z
 ·exact (List.mem_append.mp z).elim bz fun z=>bz z
 ·exact bz z
theorem ub {ds:List D} {i:Nat} {d:D} (h:ds[i]?=some d):szL (aX ds none (some (i:Int)))+(sz d+2)+szL (aX ds (some ((i:Int)+1)) none)=szL ds:=by
 have hi:i < ds.length:=(List.getElem?_eq_some_iff.mp h).1
 have e0:aX ds none (some (i:Int))=ds.take i:=gL ds i (by omega)
 have e1:aX ds (some ((i:Int)+1)) none=ds.drop (i+1):=by
  unfold aX
  rw [qf _ _ (by omega)]
  have e2:HT.sIx ds.length ds.length none=ds.length:=rfl
  rw [e2]
  have e3:min ((i:Int)+1).toNat ds.length=i+1:=by omega
  rw [e3,List.take_of_length_le (by rw [List.length_drop];omega)]
 rw [e0,e1]
 have e4:ds=ds.take i++d::ds.drop (i+1):=by
  have hg:ds[i]=d:=(List.getElem?_eq_some_iff.mp h).2
  rw [<-hg,List.getElem_cons_drop,List.take_append_drop]
 have:szL ds=szL (ds.take i++d::ds.drop (i+1)):=by rw [<-e4]
 rw [this,cv]
 simp only [szL]
 omega
theorem El {B s i:Nat} {ds:List D} {d d':D} (h:Bd B s (.tup ds)) (hi:ds[i]?=some d) (g:Bd (B+10 ^ 31) (3 * sz d+400) d'):Bd (B+10 ^ 31) (3 * s+400) (.tup ((aX ds none (some (i:Int))++[d'])++aX ds (some ((i:Int)+1)) none)):=by
 obtain ⟨h1,h2⟩:=iH h
 have p:=ub hi
 have g2:=g.sz
 refine iG (fun e m=>?_) ?_
 ·rcases List.mem_append.mp m with z | z
  ·rcases List.mem_append.mp z with y | y
   ·exact cY (by omega) e (h1 e (bz y))
   ·rw [List.mem_singleton.mp y];exact g.bn
  ·exact cY (by omega) e (h1 e (bz z))
 ·rw [cv,cv];simp only [szL];omega
theorem Em {B s:Nat} {i:Int} (h:i.natAbs < B) (hs:60<=s):Bd B s (.int i):=⟨by simp only [bnd];exact h,by simp only [sz];exact hs⟩
mutual
noncomputable def ql:D->Bool
 | .int i=>decide (i.natAbs < 10 ^ 31)
 | .tup ds=>uc ds
 | .lst ds=>uc ds
 | .dic ks ds=>(ks.all fun k=>match k with | .inl i=>decide (i.natAbs < 10 ^ 31) | _=>false) && (decide (ks.length=ds.length) && uc ds)
 | _=>true
noncomputable def uc:List D->Bool
 | []=>true
 | d::ds=>ql d && uc ds
end
noncomputable def bdB (d:D):Bool:=ql d && decide (sz d<=300)
mutual
theorem rY:∀ (d:D),ql d=true->bnd (10 ^ 31) d
 | .non,_=>by simp only [bnd]
 | .bl _,_=>by simp only [bnd]
 | .str _,_=>by simp only [bnd]
 | .int i,h=>by simp only [ql,bnd,decide_eq_true_eq] at h ⊢;exact h
 | .tup ds,h=>by simp only [ql,bnd] at h ⊢;exact jz ds h
 | .lst ds,h=>by simp only [ql,bnd] at h ⊢;exact jz ds h
 | .dic ks ds,h=>by
  simp only [ql,bnd,bAE,decide_eq_true_eq] at h ⊢
  refine ⟨fun k hk=>?_,h.2.1,jz ds h.2.2⟩
  have z:=List.all_eq_true.mp h.1 k hk
  cases k with
  | inl i=>exact ⟨i,rfl,of_decide_eq_true z⟩
  | inr x=>cases z
theorem jz:∀ (ds:List D),uc ds=true->dC (10 ^ 31) ds
 | [],_=>by simp only [dC]
 | d::ds,h=>by simp only [uc,dC,bAE] at h ⊢;exact ⟨rY d h.1,jz ds h.2⟩
end
theorem En {d:D} (h:bdB d=true):Bd (10 ^ 31) 300 d:=by
 simp only [bdB,bAE,decide_eq_true_eq] at h
 exact ⟨rY d h.1,h.2⟩
end Dw
namespace Ev
open PySem PySem.Spec PyProof.Rows L2
inductive D where
 | non | bl (b:Bool) | int (i:Int) | str (x:Str) | tup (ds:List D) | ref (n:Nat)
inductive Ob where
 | lst (ds:List D) | frz (ds:List D) | dic (ks:List Key) (ds:List D)
noncomputable abbrev Sto:=List Ob
noncomputable abbrev Rho:=List (Option D)
mutual
noncomputable def VD (K:PySem.W.Frag) (m:List Addr) (H:Hp):D->V->Prop
 | .non,v=>v = .non
 | .bl b,v=>v = .bl b
 | .int i,v=>v = .int i
 | .str x,v=>v = .str x
 | .tup ds,v=>∃ a xs,v = .ref a/\H a=some (.tup xs)/\VDs K m H ds xs
 | .ref n,v=>∃ a,m[n]?=some a/\v = .ref a
noncomputable def VDs (K:PySem.W.Frag) (m:List Addr) (H:Hp):List D->List V->Prop
 | [],xs=>xs=[]
 | d::ds,xs=>∃ x r,xs=x::r/\VD K m H d x/\VDs K m H ds r
end
structure Ext (m:List Addr) (H:Hp) (m':List Addr) (H':Hp):Prop where
 pre:m <+: m'
 keep:∀ a o,H a=some o->a ∉ m->H' a=some o
 new:∀ a,a ∈ m'->a ∉ m->H a=none
noncomputable def ObR (K:PySem.W.Frag) (m:List Addr) (H:Hp) (a:Addr):Ob->Prop
 | .lst ds=>∃ vs,H a=some (.lst vs)/\VDs K m H ds vs
 | .frz ds=>∃ o vs,H a=some (.frz o (.lst vs))/\VDs K m H ds vs
 | .dic ks ds=>∃ vs,H a=some (.dK (ks.zip vs))/\ks.length=ds.length/\VDs K m H ds vs
structure Rel (K:PySem.W.Frag) (m:List Addr) (S:Sto) (H:Hp):Prop where
 len:m.length=S.length
 nd:m.Nodup
 ob:∀ (i:Nat) (o:Ob),S[i]?=some o->∃ a,m[i]?=some a/\ObR K m H a o
structure EnvR (K:PySem.W.Frag) (m:List Addr) (H:Hp) (ρ:Rho) (σ:L2.St):Prop where
 len:ρ.length=σ.length
 at_:∀ (i:Nat) (d:D),ρ[i]?=some (some d)->∃ v,σ[i]?=some (some v)/\VD K m H d v
theorem Ext.refl (m:List Addr) (H:Hp):Ext m H m H:=⟨List.prefix_refl m,fun _ _ h _=>h,fun _ h n=>absurd h n⟩
theorem Ext.trans {m m1 m2:List Addr} {H H1 H2:Hp} (x:Ext m H m1 H1) (y:Ext m1 H1 m2 H2):Ext m H m2 H2:=by
 refine ⟨x.pre.trans y.pre,fun a o h n=>?_,fun a h n=>?_⟩
 ·have n1:a ∉ m1:=fun z=>by have:=x.new a z n;rw [this] at h;cases h
  exact y.keep a o (x.keep a o h n) n1
 ·by_cases h1:a ∈ m1
  ·exact x.new a h1 n
  ·cases e:H a with
   | none=>rfl
   | some o=>
    have:=x.keep a o e n
    rw [y.new a h h1] at this;cases this
section
variable {K:PySem.W.Frag} {m m':List Addr} {S S':Sto} {H H':Hp} {a:Addr}
theorem Rel.ex (R:Rel K m S H) (ha:a ∈ m):∃ o ob,H a=some o/\ObR K m H a ob:=by
 obtain ⟨i,hi,e⟩:=List.getElem_of_mem ha
 have hi':i < S.length:=by rw [<-R.len];exact hi
 obtain ⟨b,hb,r⟩:=R.ob i S[i] (gEG hi')
 have:b=a:=by rw [gEG hi] at hb;rw [<-e];exact (Option.some.inj hb).symm
 subst this
 cases hS:S[i] with
 | lst ds=>rw [hS] at r;obtain ⟨vs,h,q⟩:=r;exact ⟨_,.lst ds,h,vs,h,q⟩
 | frz ds=>rw [hS] at r;obtain ⟨o,vs,h,q⟩:=r;exact ⟨_,.frz ds,h,o,vs,h,q⟩
 | dic ks ds=>rw [hS] at r;obtain ⟨vs,h,q⟩:=r;exact ⟨_,.dic ks ds,h,vs,h,q⟩
theorem Rel.no (R:Rel K m S H) (h:H a=none):a ∉ m:=fun z=>by
 obtain ⟨o,_,e,_⟩:=R.ex z
 rw [h] at e;cases e
theorem Rel.notTup (R:Rel K m S H) {xs:List V} (h:H a=some (.tup xs)):a ∉ m:=fun z=>by
 obtain ⟨o,ob,e,r⟩:=R.ex z
 cases ob with
 | lst ds=>obtain ⟨vs,q,_⟩:=r;rw [q] at h;cases h
 | frz ds=>obtain ⟨o,vs,q,_⟩:=r;rw [q] at h;cases h
 | dic ks ds=>obtain ⟨vs,q,_⟩:=r;rw [q] at h;cases h
theorem Tup.ext {xs:List V} (R:Rel K m S H) (x:Ext m H m' H') (h:H a=some (.tup xs)):H' a=some (.tup xs):=x.keep _ _ h (R.notTup h)
theorem jA {i:Nat} (h:m <+: m') (e:m[i]?=some a):m'[i]?=some a:=by
 obtain ⟨t,rfl⟩:=h
 have hi:i < m.length:=(List.getElem?_eq_some_iff.mp e).1
 rw [List.getElem?_append_left hi];exact e
mutual
theorem VD.mono0 (pre:m <+: m') (tk:∀ a xs,H a=some (.tup xs)->H' a=some (.tup xs)):∀ {d:D} {v:V},VD K m H d v->VD K m' H' d v
 | .non,v,h=>by rw [VD] at h ⊢;exact h
 | .bl _,v,h=>by rw [VD] at h ⊢;exact h
 | .int _,v,h=>by rw [VD] at h ⊢;exact h
 | .str _,v,h=>by rw [VD] at h ⊢;exact h
 | .tup ds,v,h=>by
  rw [VD] at h ⊢
  obtain ⟨a,xs,e,q,r⟩:=h
  exact ⟨a,xs,e,tk a xs q,VDs.mono0 pre tk r⟩
 | .ref n,v,h=>by
  rw [VD] at h ⊢
  obtain ⟨a,q,e⟩:=h
  exact ⟨a,jA pre q,e⟩
theorem VDs.mono0 (pre:m <+: m') (tk:∀ a xs,H a=some (.tup xs)->H' a=some (.tup xs)):∀ {ds:List D} {vs:List V},VDs K m H ds vs->VDs K m' H' ds vs
 | [],vs,h=>by rw [VDs] at h ⊢;exact h
 | d::ds,vs,h=>by
  rw [VDs] at h ⊢
  obtain ⟨y,r,e,p,q⟩:=h
  exact ⟨y,r,e,VD.mono0 pre tk p,VDs.mono0 pre tk q⟩
end
theorem VD.mono (R:Rel K m S H) (x:Ext m H m' H') {d:D} {v:V} (h:VD K m H d v):VD K m' H' d v:=VD.mono0 x.pre (fun _ _=>Tup.ext R x) h
theorem VDs.mono (R:Rel K m S H) (x:Ext m H m' H') {ds:List D} {vs:List V} (h:VDs K m H ds vs):VDs K m' H' ds vs:=VDs.mono0 x.pre (fun _ _=>Tup.ext R x) h
theorem EnvR.mono {ρ:Rho} {σ:L2.St} (R:Rel K m S H) (x:Ext m H m' H') (h:EnvR K m H ρ σ):EnvR K m' H' ρ σ:=
 ⟨h.len,fun i d e=>let ⟨v,p,q⟩:=h.at_ i d e;⟨v,p,VD.mono R x q⟩⟩
theorem VDs.length:∀ {ds:List D} {vs:List V},VDs K m H ds vs->ds.length=vs.length
 | [],vs,h=>by rw [VDs] at h;rw [h];rfl
 | d::ds,vs,h=>by
  rw [VDs] at h
  obtain ⟨y,r,e,_,q⟩:=h
  rw [e,List.length_cons,List.length_cons,VDs.length q]
theorem VDs.nil:VDs K m H [] []:=by rw [VDs]
theorem VDs.cons {d:D} {v:V} {ds:List D} {vs:List V} (h:VD K m H d v) (t:VDs K m H ds vs):VDs K m H (d::ds) (v::vs):=by rw [VDs];exact ⟨v,vs,rfl,h,t⟩
theorem VDs.get:∀ {ds:List D} {vs:List V} {i:Nat} {d:D},VDs K m H ds vs->ds[i]?=some d->∃ v,vs[i]?=some v/\VD K m H d v
 | [],_,_,_,_,e=>by simp at e
 | d::ds,vs,0,d',h,e=>by
  rw [VDs] at h
  obtain ⟨y,r,rfl,p,q⟩:=h
  simp at e;subst e
  exact ⟨y,rfl,p⟩
 | d::ds,vs,i+1,d',h,e=>by
  rw [VDs] at h
  obtain ⟨y,r,rfl,p,q⟩:=h
  obtain ⟨v,p1,p2⟩:=VDs.get (i:=i) q (by simpa using e)
  exact ⟨v,by simpa using p1,p2⟩
theorem VDs.append:∀ {ds es:List D} {vs ws:List V},VDs K m H ds vs->VDs K m H es ws->VDs K m H (ds++es) (vs++ws)
 | [],_,vs,_,h,t=>by rw [VDs] at h;subst h;exact t
 | d::ds,es,vs,ws,h,t=>by
  rw [VDs] at h
  obtain ⟨y,r,rfl,p,q⟩:=h
  exact .cons p (VDs.append q t)
theorem VDs.drop:∀ {ds:List D} {vs:List V} (n:Nat),VDs K m H ds vs->VDs K m H (ds.drop n) (vs.drop n)
 | ds,vs,0,h=>h
 | [],vs,n+1,h=>by rw [VDs] at h;subst h;exact .nil
 | d::ds,vs,n+1,h=>by
  rw [VDs] at h
  obtain ⟨y,r,rfl,p,q⟩:=h
  exact VDs.drop n q
theorem VDs.take:∀ {ds:List D} {vs:List V} (n:Nat),VDs K m H ds vs->VDs K m H (ds.take n) (vs.take n)
 | ds,vs,0,h=>by simp only [List.take_zero];exact .nil
 | [],vs,n+1,h=>by rw [VDs] at h;subst h;exact .nil
 | d::ds,vs,n+1,h=>by
  rw [VDs] at h
  obtain ⟨y,r,rfl,p,q⟩:=h
  exact .cons p (VDs.take n q)
theorem VDs.set:∀ {ds:List D} {vs:List V} {i:Nat} {d:D} {v:V},VDs K m H ds vs->VD K m H d v->VDs K m H (ds.set i d) (vs.set i v)
 | [],vs,_,_,_,h,_=>by rw [VDs] at h;subst h;exact .nil
 | _::ds,vs,0,d,v,h,p=>by
  rw [VDs] at h
  obtain ⟨y,r,rfl,_,q⟩:=h
  exact .cons p q
 | _::ds,vs,i+1,d,v,h,p=>by
  rw [VDs] at h
  obtain ⟨y,r,rfl,p',q⟩:=h
  exact .cons p' (VDs.set q p)
theorem Ext.beside (R:Rel K m S H) (h:H a=none) (o:HO):Ext m H m (upd H a o):=
 ⟨List.prefix_refl m,fun b u e _=>by rw [ax (aQ e h)];exact e,fun b z n=>absurd z n⟩
theorem Rel.ext_keep (R:Rel K m S H) (x:Ext m H m H') (k:∀ b ∈ m,H' b=H b):Rel K m S H':=by
 refine ⟨R.len,R.nd,fun i o e=>?_⟩
 obtain ⟨b,hb,r⟩:=R.ob i o e
 have hm:b ∈ m:=List.mem_of_getElem? hb
 refine ⟨b,hb,?_⟩
 cases o with
 | lst ds=>obtain ⟨vs,p,q⟩:=r;exact ⟨vs,(k b hm).trans p,VDs.mono R x q⟩
 | frz ds=>obtain ⟨o,vs,p,q⟩:=r;exact ⟨o,vs,(k b hm).trans p,VDs.mono R x q⟩
 | dic ks ds=>obtain ⟨vs,p,l,q⟩:=r;exact ⟨vs,(k b hm).trans p,l,VDs.mono R x q⟩
theorem Rel.beside (R:Rel K m S H) (h:H a=none) (o:HO):Rel K m S (upd H a o):=
 R.ext_keep (Ext.beside R h o) fun b hb=>ax fun z=>R.no h (z ▸ hb)
theorem Rel.adopt (R:Rel K m S H) (n:a ∉ m) {vs:List V} {ds:List D} (h:H a=some (.lst vs)) (q:VDs K m H ds vs):Rel K (m++[a]) (S++[.lst ds]) H:=by
 have p:=List.prefix_append m [a]
 have g:∀ {es:List D} {ws:List V},VDs K m H es ws->VDs K (m++[a]) H es ws:=fun z=>VDs.mono0 p (fun _ _ t=>t) z
 refine ⟨by simp [R.len],List.nodup_append.mpr ⟨R.nd,by simp,fun x hx y hy=>by simp at hy;subst hy;exact fun z=>n (z ▸ hx)⟩,fun i o e=>?_⟩
 by_cases hi:i < S.length
 ·rw [List.getElem?_append_left hi] at e
  obtain ⟨b,hb,r⟩:=R.ob i o e
  refine ⟨b,jA p hb,?_⟩
  cases o with
  | lst ds=>obtain ⟨vs,p,q⟩:=r;exact ⟨vs,p,g q⟩
  | frz ds=>obtain ⟨o,vs,p,q⟩:=r;exact ⟨o,vs,p,g q⟩
  | dic ks ds=>obtain ⟨vs,p,l,q⟩:=r;exact ⟨vs,p,l,g q⟩
 ·rw [List.getElem?_append_right (by omega)] at e
  have hz:i - S.length=0:=by
   have:=(List.getElem?_eq_some_iff.mp e).1
   simp at this;omega
  rw [hz] at e
  have e':Ob.lst ds=o:=by simpa using e
  subst e'
  refine ⟨a,?_,vs,h,g q⟩
  rw [List.getElem?_append_right (by rw [R.len];omega),R.len,hz];rfl
theorem Ext.adopt (x:Ext m H m H') (h:H a=none):Ext m H (m++[a]) H':=
 ⟨List.prefix_append m [a],x.keep,fun b hb nb=>by
  rcases List.mem_append.mp hb with z | z
  ·exact absurd z nb
  ·simp at z;subst z;exact h⟩
theorem Rel.write (R:Rel K m S H) {i:Nat} (hi:m[i]?=some a) {vs:List V} {ds:List D} (q:VDs K m H ds vs):Ext m H m (upd H a (.lst vs))/\Rel K m (S.set i (.lst ds)) (upd H a (.lst vs)):=by
 have hm:a ∈ m:=List.mem_of_getElem? hi
 have x:Ext m H m (upd H a (.lst vs)):=⟨List.prefix_refl m,fun b u e n=>by rw [ax (show b ≠ a from fun z=>n (by rw [z];exact hm))];exact e,fun b z n=>absurd z n⟩
 refine ⟨x,by simp [R.len],R.nd,fun j o e=>?_⟩
 rw [List.getElem?_set] at e
 by_cases hj:i=j
 ·subst hj
  rw [if_pos rfl] at e
  split at e
  ·have e':=Option.some.inj e
   subst e'
   exact ⟨a,hi,vs,bj,VDs.mono R x q⟩
  ·cases e
 ·rw [if_neg hj] at e
  obtain ⟨b,hb,r⟩:=R.ob j o e
  have ne:b ≠ a:=fun z=>by
   subst z
   have h1:=List.getElem?_eq_some_iff.mp hi
   have h2:=List.getElem?_eq_some_iff.mp hb
   exact hj ((List.getElem_inj R.nd).mp (h1.2.trans h2.2.symm))
  refine ⟨b,hb,?_⟩
  cases o with
  | lst es=>obtain ⟨ws,p,q⟩:=r;exact ⟨ws,by rw [ax ne];exact p,VDs.mono R x q⟩
  | frz es=>obtain ⟨o,ws,p,q⟩:=r;exact ⟨o,ws,by rw [ax ne];exact p,VDs.mono R x q⟩
  | dic ks es=>obtain ⟨ws,p,l,q⟩:=r;exact ⟨ws,by rw [ax ne];exact p,l,VDs.mono R x q⟩
theorem Rel.lst (R:Rel K m S H) {i:Nat} {ds:List D} (e:S[i]?=some (.lst ds)):∃ a vs,m[i]?=some a/\H a=some (.lst vs)/\VDs K m H ds vs:=by
 obtain ⟨a,ha,vs,p,q⟩:=R.ob i _ e
 exact ⟨a,vs,ha,p,q⟩
end
noncomputable def am (S:Sto) (n:Nat):Option (List D):=match S[n]? with
 | some (.lst ds)=>some ds
 | some (.frz ds)=>some ds
 | _=>none
theorem Rel.seq {K:PySem.W.Frag} {m:List Addr} {S:Sto} {H:Hp} (R:Rel K m S H) {i:Nat} {ds:List D} (e:am S i=some ds):∃ a vs,m[i]?=some a/\SqL K H a vs/\VDs K m H ds vs:=by
 unfold am at e
 cases h:S[i]? with
 | none=>rw [h] at e;cases e
 | some o=>
  rw [h] at e
  cases o with
  | lst es=>cases e;obtain ⟨a,ha,vs,p,q⟩:=R.ob i _ h;exact ⟨a,vs,ha,.inl (.inl p),q⟩
  | frz es=>cases e;obtain ⟨a,ha,o,vs,p,q⟩:=R.ob i _ h;exact ⟨a,vs,ha,.inl (.inr ⟨o,p⟩),q⟩
  | dic ks es=>cases e
end Ev
namespace Ev
open PySem PySem.Spec PyProof.Rows L2
noncomputable abbrev XE:=Rho->Sto->Option (D × Sto)
noncomputable abbrev XT:=Rho->Sto->Option (Bool × Sto)
noncomputable abbrev XA:=Rho->Sto->Option (List D × Sto)
noncomputable def bnd {α β:Type} (x:Option (α × Sto)) (f:α->Sto->Option (β × Sto)):Option (β × Sto):=match x with
 | none=>none
 | some (a,S)=>f a S
theorem aa {α β:Type} {x:Option (α × Sto)} {f:α->Sto->Option (β × Sto)} {r:β × Sto} (h:bnd x f=some r):∃ a S,x=some (a,S)/\f a S=some r:=by
 unfold bnd at h
 cases x with
 | none=>cases h
 | some p=>exact ⟨p.1,p.2,rfl,h⟩
structure Aft (K:PySem.W.Frag) (m:List Addr) (H:Hp) (S':Sto) (m':List Addr) (H':Hp):Prop where
 ext:Ext m H m' H'
 rel:Rel K m' S' H'
noncomputable def tE (K:PySem.W.Frag) (x:XE):TE:=fun σ H Q=>∃ m ρ S d S',EnvR K m H ρ σ/\Rel K m S H/\x ρ S=some (d,S')/\∀ m' H' v,Aft K m H S' m' H'->VD K m' H' d v->Q v H'
noncomputable def tT (K:PySem.W.Frag) (x:XT):TT:=fun σ H Q=>∃ m ρ S b S',EnvR K m H ρ σ/\Rel K m S H/\x ρ S=some (b,S')/\∀ m' H',Aft K m H S' m' H'->Q b H'
noncomputable def tAr (K:PySem.W.Frag) (x:XA):TA:=fun σ H Q=>∃ m ρ S ds S',EnvR K m H ρ σ/\Rel K m S H/\x ρ S=some (ds,S')/\∀ m' H' vs,Aft K m H S' m' H'->VDs K m' H' ds vs->Q vs H'
noncomputable def SqB (K:PySem.W.Frag) (tu:Bool) (H:Hp) (a:Addr) (vs:List V):Prop:=if tu=true then H a=some (.tup vs) else SqL K H a vs
noncomputable def dN (K:PySem.W.Frag) (x:XA):TE:=fun σ H Q=>∃ m ρ S ds S',EnvR K m H ρ σ/\Rel K m S H/\x ρ S=some (ds,S')/\∀ m' H' a vs,Aft K m H S' m' H'->H' a=some (.lst vs)->a ∉ m'->(∀ b,b ∈ m->b ≠ a)->H a=none->VDs K m' H' ds vs->Q (.ref a) H'
section
variable {X:Cx} {e:Expr} {K:PySem.W.Frag} {m m1 m2:List Addr} {H H1 H2:Hp} {S S1 S2:Sto}
theorem PE.imp {t t':TE} (h:PE X e t) (f:∀ σ H Q,t' σ H Q->t σ H Q):PE X e t':=fun pins s σ H Q I q=>h pins s σ H Q I (f σ H Q q)
theorem PT.imp {t t':TT} (h:PT X e t) (f:∀ σ H Q,t' σ H Q->t σ H Q):PT X e t':=fun pins s σ H Q I q=>h pins s σ H Q I (f σ H Q q)
theorem PA.imp {es:List Expr} {t t':TA} (h:PA X es t) (f:∀ σ H Q,t' σ H Q->t σ H Q):PA X es t':=fun p pins s σ H Q I q=>h p pins s σ H Q I (f σ H Q q)
theorem PS.imp {st:Stmt} {t t':TS} (h:PS X st t) (f:∀ D σ H,t' D σ H->t D σ H):PS X st t':=fun pins s σ H D I q=>h pins s σ H D I (f D σ H q)
theorem PSs.imp {st:List Stmt} {t t':TS} (h:PSs X st t) (f:∀ D σ H,t' D σ H->t D σ H):PSs X st t':=fun pins s σ H D I q=>h pins s σ H D I (f D σ H q)
theorem PI.imp {tg it:Expr} {t t':TI} (h:PI X tg it t) (f:∀ σ H Q,t' σ H Q->t σ H Q):PI X tg it t':=fun pins s σ H Q I q=>h pins s σ H Q I (f σ H Q q)
theorem PI.or {tg it:Expr} {t t':TI} (h:PI X tg it t) (h':PI X tg it t'):PI X tg it (fun σ H Q=>t σ H Q\/t' σ H Q):=fun pins s σ H Q I q=>q.elim (h pins s σ H Q I) (h' pins s σ H Q I)
theorem OpR.imp {f:Value->Value->Sem Value} {r r':R2} (h:OpR X f r) (g:∀ x y H Q,r' x y H Q->r x y H Q):OpR X f r':=fun pins s σ H x y v u Q I rx ry q=>h pins s σ H x y v u Q I rx ry (g _ _ _ _ q)
theorem OpR.or {f:Value->Value->Sem Value} {r r':R2} (h:OpR X f r) (h':OpR X f r'):OpR X f (fun x y H Q=>r x y H Q\/r' x y H Q):=fun pins s σ H x y v u Q I rx ry q=>
 q.elim (h pins s σ H x y v u Q I rx ry) (h' pins s σ H x y v u Q I rx ry)
theorem aN.imp {f:Value} {r r':List V->Hp->VK->Prop} (h:aN X f r) (g:∀ x H Q,r' x H Q->r x H Q):aN X f r':=fun pins s σ H xs us Q I rx q=>h pins s σ H xs us Q I rx (g _ _ _ q)
theorem aN.or {f:Value} {r r':List V->Hp->VK->Prop} (h:aN X f r) (h':aN X f r'):aN X f (fun x H Q=>r x H Q\/r' x H Q):=fun pins s σ H xs us Q I rx q=>
 q.elim (h pins s σ H xs us Q I rx) (h' pins s σ H xs us Q I rx)
theorem Aft.refl (R:Rel K m S H):Aft K m H S m H:=⟨Ext.refl m H,R⟩
theorem Aft.trans (x:Aft K m H S1 m1 H1) (y:Aft K m1 H1 S2 m2 H2):Aft K m H S2 m2 H2:=⟨x.ext.trans y.ext,y.rel⟩
noncomputable def rS (K:PySem.W.Frag) (f:D->D->Sto->Option (D × Sto)):R2:=fun v w H Q=>∃ m S a b d S',Rel K m S H/\VD K m H a v/\VD K m H b w/\f a b S=some (d,S')/\∀ m' H' u,Aft K m H S' m' H'->VD K m' H' d u->Q u H'
noncomputable def rS1 (K:PySem.W.Frag) (f:D->Sto->Option (D × Sto)):V->Hp->VK->Prop:=fun v H Q=>∃ m S a d S',Rel K m S H/\VD K m H a v/\f a S=some (d,S')/\∀ m' H' u,Aft K m H S' m' H'->VD K m' H' d u->Q u H'
noncomputable def rSA (K:PySem.W.Frag) (f:List D->Sto->Option (D × Sto)):List V->Hp->VK->Prop:=fun vs H Q=>∃ m S as d S',Rel K m S H/\VDs K m H as vs/\f as S=some (d,S')/\∀ m' H' u,Aft K m H S' m' H'->VD K m' H' d u->Q u H'
noncomputable def rSq (K:PySem.W.Frag) (f:Bool->List D->Sto->Option (D × Sto)):V->Hp->VK->Prop:=fun v H Q=>∃ m S tu ds a vs d S',Rel K m S H/\v = .ref a/\SqB K tu H a vs/\VDs K m H ds vs/\f tu ds S=some (d,S')/\∀ m' H' u,Aft K m H S' m' H'->VD K m' H' d u->Q u H'
noncomputable def oE (f:D->D->Sto->Option (D × Sto)) (x y:XE):XE:=fun ρ S=>bnd (x ρ S) fun a S1=>bnd (y ρ S1) fun b S2=>f a b S2
noncomputable def xUn (f:D->Sto->Option (D × Sto)) (x:XE):XE:=fun ρ S=>bnd (x ρ S) fun a S1=>f a S1
noncomputable def jt (f:List D->Sto->Option (D × Sto)) (x:XA):XE:=fun ρ S=>bnd (x ρ S) fun a S1=>f a S1
noncomputable def mN (f:Bool->List D->Sto->Option (D × Sto)) (x:XA):XE:=fun ρ S=>bnd (x ρ S) fun ds S1=>f false ds S1
noncomputable def aj (d:D) (S:Sto):Option (Bool × List D):=match d with
 | .tup ds=>some (true,ds)
 | .ref n=>(am S n).map fun ds=>(false,ds)
 | _=>none
noncomputable def aq (f:Bool->List D->Sto->Option (D × Sto)) (d:D) (S:Sto):Option (D × Sto):=match aj d S with
 | some r=>f r.1 r.2 S
 | none=>none
noncomputable def mO (f:Bool->List D->Sto->Option (D × Sto)) (x:XE):XE:=fun ρ S=>bnd (x ρ S) fun d S1=>aq f d S1
theorem mP {f:D->D->Sto->Option (D × Sto)} {x y:XE} {σ:L2.St} {H:Hp} {Q:VK} (h:tE K (oE f x y) σ H Q):tOp (rS K f) (tE K x) (tE K y) σ H Q:=by
 obtain ⟨m,ρ,S,d,S',E,R,e,q⟩:=h
 obtain ⟨a,S1,e1,e⟩:=aa e
 obtain ⟨b,S2,e2,e⟩:=aa e
 refine ⟨m,ρ,S,a,S1,E,R,e1,fun m1 H1 v A1 va=>⟨m1,ρ,S1,b,S2,E.mono R A1.ext,A1.rel,e2,fun m2 H2 w A2 vb=>?_⟩⟩
 exact ⟨m2,S2,a,b,d,S',A2.rel,va.mono A1.rel A2.ext,vb,e,fun m3 H3 u A3 vd=>q m3 H3 u ((A1.trans A2).trans A3) vd⟩
theorem ww {f:D->Sto->Option (D × Sto)} {x:XE} {σ:L2.St} {H:Hp} {Q:VK} (h:tE K (xUn f x) σ H Q):tUn (rS1 K f) (tE K x) σ H Q:=by
 obtain ⟨m,ρ,S,d,S',E,R,e,q⟩:=h
 obtain ⟨a,S1,e1,e⟩:=aa e
 exact ⟨m,ρ,S,a,S1,E,R,e1,fun m1 H1 v A1 va=>⟨m1,S1,a,d,S',A1.rel,va,e,fun m3 H3 u A3 vd=>q m3 H3 u (A1.trans A3) vd⟩⟩
theorem wx {f:List D->Sto->Option (D × Sto)} {x:XA} {σ:L2.St} {H:Hp} {Q:VK} (h:tE K (jt f x) σ H Q):tCB (rSA K f) (tAr K x) σ H Q:=by
 obtain ⟨m,ρ,S,d,S',E,R,e,q⟩:=h
 obtain ⟨a,S1,e1,e⟩:=aa e
 exact ⟨m,ρ,S,a,S1,E,R,e1,fun m1 H1 v A1 va=>⟨m1,S1,a,d,S',A1.rel,va,e,fun m3 H3 u A3 vd=>q m3 H3 u (A1.trans A3) vd⟩⟩
theorem Eo {f:Bool->List D->Sto->Option (D × Sto)} {x:XA} {σ:L2.St} {H:Hp} {Q:VK} (h:tE K (mN f x) σ H Q):tUn (rSq K f) (dN K x) σ H Q:=by
 obtain ⟨m,ρ,S,d,S',E,R,e,q⟩:=h
 obtain ⟨ds,S1,e1,e⟩:=aa e
 exact ⟨m,ρ,S,ds,S1,E,R,e1,fun m1 H1 a vs A1 sq _ _ _ vd=>⟨m1,S1,false,ds,a,vs,d,S',A1.rel,rfl,show SqL K H1 a vs from SqL.of sq,vd,e,fun m3 H3 u A3 vd=>q m3 H3 u (A1.trans A3) vd⟩⟩
noncomputable def ud (i:Nat):XE:=fun ρ S=>match ρ[i]? with
 | some (some d)=>some (d,S)
 | _=>none
noncomputable def xC (d:D):XE:=fun _ S=>some (d,S)
theorem Ep {i:Nat} {σ:L2.St} {H:Hp} {Q:VK} (h:tE K (ud i) σ H Q):Ib i σ H Q:=by
 obtain ⟨m,ρ,S,d,S',E,R,e,q⟩:=h
 unfold ud at e
 cases hr:ρ[i]? with
 | none=>rw [hr] at e;cases e
 | some o=>
  rw [hr] at e
  cases o with
  | none=>cases e
  | some d'=>
   cases e
   obtain ⟨v,e1,vd⟩:=E.at_ i d hr
   exact ⟨v,e1,q m H v (Aft.refl R) vd⟩
theorem wy {v:V} {d:D} {σ:L2.St} {H:Hp} {Q:VK} (hv:∀ m H,VD K m H d v) (h:tE K (xC d) σ H Q):tC v σ H Q:=by
 obtain ⟨m,ρ,S,d',S',E,R,e,q⟩:=h
 cases e
 exact q m H v (Aft.refl R) (hv m H)
theorem mQ:VD K m H .non .non:=by rw [VD]
theorem cf {b:Bool}:VD K m H (.bl b) (.bl b):=by rw [VD]
theorem bu {i:Int}:VD K m H (.int i) (.int i):=by rw [VD]
theorem mR {x:Str}:VD K m H (.str x) (.str x):=by rw [VD]
theorem mS {a:Addr} {vs:List V} {ds:List D} (h:H a=some (.tup vs)) (q:VDs K m H ds vs):VD K m H (.tup ds) (.ref a):=by rw [VD];exact ⟨a,vs,rfl,h,q⟩
theorem VD.ints {i:Int} {v:V} (h:VD K m H (.int i) v):v = .int i:=by rw [VD] at h;exact h
theorem VD.bls {i:Bool} {v:V} (h:VD K m H (.bl i) v):v = .bl i:=by rw [VD] at h;exact h
theorem VD.strs {i:Str} {v:V} (h:VD K m H (.str i) v):v = .str i:=by rw [VD] at h;exact h
theorem VD.nons {v:V} (h:VD K m H .non v):v = .non:=by rw [VD] at h;exact h
theorem VD.tups {ds:List D} {v:V} (h:VD K m H (.tup ds) v):∃ a vs,v = .ref a/\H a=some (.tup vs)/\VDs K m H ds vs:=by rw [VD] at h;exact h
theorem VD.refs {n:Nat} {v:V} (h:VD K m H (.ref n) v):∃ a,m[n]?=some a/\v = .ref a:=by rw [VD] at h;exact h
noncomputable def ue:XA:=fun _ S=>some ([],S)
noncomputable def rZ (x:XE) (y:XA):XA:=fun ρ S=>bnd (x ρ S) fun a S1=>bnd (y ρ S1) fun as S2=>some (a::as,S2)
theorem Er {σ:L2.St} {H:Hp} {Q:List V->Hp->Prop} (h:tAr K ue σ H Q):me σ H Q:=by
 obtain ⟨m,ρ,S,d',S',E,R,e,q⟩:=h
 cases e
 exact q m H [] (Aft.refl R) .nil
theorem zU {x:XE} {y:XA} {σ:L2.St} {H:Hp} {Q:List V->Hp->Prop} (h:tAr K (rZ x y) σ H Q):eD (tE K x) (tAr K y) σ H Q:=by
 obtain ⟨m,ρ,S,d',S',E,R,e,q⟩:=h
 obtain ⟨a,S1,e1,e⟩:=aa e
 obtain ⟨b,S2,e2,e⟩:=aa e
 cases e
 refine ⟨m,ρ,S,a,S1,E,R,e1,fun m1 H1 v A1 va=>⟨m1,ρ,S1,b,_,E.mono R A1.ext,A1.rel,e2,fun m2 H2 w A2 vb=>?_⟩⟩
 exact q m2 H2 _ (A1.trans A2) (.cons (va.mono A1.rel A2.ext) vb)
noncomputable def ju (ds:List D) (S:Sto):Option (D × Sto):=if ds.length<=1000 then some (.tup ds,S) else none
theorem gP {n:Nat} (h:n<=1000):n<=sizeLine:=by rw [sizeLine_eq];omega
theorem gQ {ds:List D} {vs:List V} {Q:VK} (R:Rel K m S H) (vd:VDs K m H ds vs) (q:∀ m' H' u,Aft K m H S m' H'->VD K m' H' (.tup ds) u->Q u H'):∀ p,H p=none->Q (.ref p) (upd H p (.tup vs)):=fun p hp=>
 q m _ _ ⟨Ext.beside R hp _,R.beside hp _⟩ (mS bj (vd.mono R (Ext.beside R hp _)))
theorem zV {ds:List D} {vs:List V} {Q:VK} (R:Rel K m S H) (vd:VDs K m H ds vs) (q:∀ m' H' u,Aft K m H (S++[.lst ds]) m' H'->VD K m' H' (.ref S.length) u->Q u H'):∀ p,H p=none->Q (.ref p) (upd H p (.lst vs)):=fun p hp=>by
 have x:=Ext.beside R hp (.lst vs)
 refine q (m++[p]) _ _ ⟨x.adopt hp,(R.beside hp _).adopt (R.no hp) bj (vd.mono R x)⟩ ?_
 rw [VD]
 exact ⟨p,by rw [List.getElem?_append_right (by rw [R.len];exact Nat.le_refl _),R.len,Nat.sub_self];rfl,rfl⟩
theorem jB {ds:List D} {vs:List V} {Q:VK} (R:Rel K m S H) (vd:VDs K m H ds vs) (q:∀ m' H' a vs,Aft K m H S m' H'->H' a=some (.lst vs)->a ∉ m'->(∀ b,b ∈ m->b ≠ a)->H a=none->VDs K m' H' ds vs->Q (.ref a) H'):∀ p,H p=none->Q (.ref p) (upd H p (.lst vs)):=fun p hp=>
 q m _ _ _ ⟨Ext.beside R hp _,R.beside hp _⟩ bj (R.no hp) (fun b hb z=>R.no hp (z ▸ hb)) hp (vd.mono R (Ext.beside R hp _))
theorem Es {x:XA} {σ:L2.St} {H:Hp} {Q:VK} (h:tE K (jt ju x) σ H Q):IE (tAr K x) σ H Q:=by
 obtain ⟨m,ρ,S,d',S',E,R,e,q⟩:=h
 obtain ⟨a,S1,e1,e⟩:=aa e
 unfold ju at e
 split at e
 ·rename_i hl
  cases e
  exact ⟨m,ρ,S,a,_,E,R,e1,fun m1 H1 vs A1 va=>⟨gP (by rw [<-va.length];exact hl),gQ A1.rel va fun m' H' u A2 vu=>q m' H' u (A1.trans A2) vu⟩⟩
 ·cases e
noncomputable def lF (x:XA):XA:=fun ρ S=>bnd (x ρ S) fun ds S1=>if ds.length<=1000 then some (ds,S1) else none
theorem zW {x:XA} {σ:L2.St} {H:Hp} {Q:VK} (h:dN K (lF x) σ H Q):IG (tAr K x) σ H Q:=by
 obtain ⟨m,ρ,S,ds,S',E,R,e,q⟩:=h
 obtain ⟨a,S1,e1,e⟩:=aa e
 split at e
 ·rename_i hl
  cases e
  refine ⟨m,ρ,S,_,_,E,R,e1,fun m1 H1 vs A1 va=>⟨gP (by rw [<-va.length];exact hl),jB A1.rel va fun m' H' u us A2 sq n1 n2 n3 vu=>?_⟩⟩
  have hn:H u=none:=by
   cases e:H u with
   | none=>rfl
   | some o=>
    by_cases hm:u ∈ m
    ·exact absurd rfl (n2 u (A1.ext.pre.subset hm))
    ·have:=A1.ext.keep u o e hm
     rw [this] at n3;cases n3
  exact q m' H' u us (A1.trans A2) sq n1 (fun b hb=>n2 b (A1.ext.pre.subset hb)) hn vu
 ·cases e
theorem dD {d:D} {v:V} {tu:Bool} {ds:List D} (R:Rel K m S H) (vd:VD K m H d v) (e:aj d S=some (tu,ds)):∃ a vs,v = .ref a/\SqB K tu H a vs/\VDs K m H ds vs:=by
 unfold aj at e
 cases d with
 | tup es=>
  cases e
  obtain ⟨a,vs,e,q,r⟩:=vd.tups
  exact ⟨a,vs,e,q,r⟩
 | ref n=>
  obtain ⟨a,ha,ev⟩:=vd.refs
  cases hs:am S n with
  | none=>simp [hs] at e
  | some es=>
   simp [hs] at e
   obtain ⟨rfl,rfl⟩:=e
   obtain ⟨b,vs,hb,q,r⟩:=R.seq hs
   rw [ha] at hb
   cases hb
   exact ⟨a,vs,ev,q,r⟩
 | _=>cases e
theorem Et {f:Bool->List D->Sto->Option (D × Sto)} {x:XE} {σ:L2.St} {H:Hp} {Q:VK} (h:tE K (mO f x) σ H Q):tUn (rSq K f) (tE K x) σ H Q:=by
 obtain ⟨m,ρ,S,d,S',E,R,e,q⟩:=h
 obtain ⟨a,S1,e1,e⟩:=aa e
 refine ⟨m,ρ,S,a,S1,E,R,e1,fun m1 H1 v A1 va=>?_⟩
 unfold aq at e
 split at e
 ·rename_i r hi
  obtain ⟨b,vs,ev,sq,vds⟩:=dD (tu:=r.1) (ds:=r.2) A1.rel va hi
  exact ⟨m1,S1,r.1,r.2,b,vs,d,S',A1.rel,ev,sq,vds,e,fun m3 H3 u A3 vd=>q m3 H3 u (A1.trans A3) vd⟩
 ·cases e
noncomputable def cZ (x:XA):XE:=fun ρ S=>bnd (x ρ S) fun ds S1=>some (.ref S1.length,S1++[.lst ds])
theorem oG {x:XA} {σ:L2.St} {H:Hp} {Q:VK} (h:tE K (cZ x) σ H Q):dN K x σ H Q:=by
 obtain ⟨m,ρ,S,d,S',E,R,e,q⟩:=h
 obtain ⟨ds,S1,e1,e⟩:=aa e
 cases e
 refine ⟨m,ρ,S,ds,S1,E,R,e1,fun m1 H1 a vs A1 sq n1 n2 n3 vd=>?_⟩
 refine q (m1++[a]) H1 _ ⟨⟨A1.ext.pre.trans (List.prefix_append _ _),A1.ext.keep,fun b hb nb=>?_⟩,A1.rel.adopt n1 sq vd⟩ ?_
 ·rcases List.mem_append.mp hb with z | z
  ·exact A1.ext.new b z nb
  ·simp at z;subst z;exact n3
 ·rw [VD]
  exact ⟨a,by rw [List.getElem?_append_right (by rw [A1.rel.len];exact Nat.le_refl _),A1.rel.len,Nat.sub_self];rfl,rfl⟩
end
end Ev
namespace Ev
open PySem PySem.Spec PyProof.Rows L2
noncomputable def eqL (f:D->D->Option Bool):List D->List D->Option Bool
 | [],[]=>some true
 | [],_::_=>some false
 | _::_,[]=>some false
 | x::xs,y::ys=>match f x y,eqL f xs ys with
  | some a,some b=>some (a && b)
  | _,_=>none
noncomputable def eqD:Nat->Sto->D->D->Option Bool
 | 0,_,_,_=>none
 | n+1,S,x,y=>match x,y with
  | .non,.non=>some true
  | .bl a,.bl b=>some (a == b)
  | .int a,.int b=>some (a == b)
  | .str a,.str b=>some (a == b)
  | .bl a,.int b=>some ((if a then 1 else 0) == b)
  | .int a,.bl b=>some (a == (if b then 1 else 0))
  | .tup xs,.tup ys=>eqL (eqD n S) xs ys
  | .ref a,.ref b=>match am S a,am S b with
   | some xs,some ys=>if a=b then some true else if xs.length=ys.length then eqL (eqD n S) xs ys else some false
   | _,_=>none
  | .tup _,.ref b=>match am S b with
   | some _=>some false
   | none=>none
  | .ref a,.tup _=>match am S a with
   | some _=>some false
   | none=>none
  | .ref a,_=>match am S a with
   | some _=>some false
   | none=>none
  | _,.ref a=>match am S a with
   | some _=>some false
   | none=>none
  | _,_=>some false
section
variable {X:Cx} {K:PySem.W.Frag} {m:List Addr} {H:Hp} {S:Sto}
theorem oH {f:D->D->Option Bool}:∀ {xs ys:List D} {b:Bool},eqL f xs ys=some b->∃ g:Nat->Bool,(∀ j x y,xs[j]?=some x->ys[j]?=some y->f x y=some (g j))/\b=((List.range (min xs.length ys.length)).all g && xs.length == ys.length)
 | [],[],b,h=>by simp [eqL] at h;exact ⟨fun _=>true,fun j x y e=>by simp at e,by simp [<-h]⟩
 | [],_::_,b,h=>by simp [eqL] at h;exact ⟨fun _=>true,fun j x y e=>by simp at e,by simp [<-h]⟩
 | _::_,[],b,h=>by simp [eqL] at h;exact ⟨fun _=>true,fun j x y _ e=>by simp at e,by simp [<-h]⟩
 | x::xs,y::ys,b,h=>by
  simp only [eqL] at h
  cases h1:f x y with
  | none=>simp [h1] at h
  | some a=>
   cases h2:eqL f xs ys with
   | none=>simp [h1,h2] at h
   | some c=>
    simp [h1,h2] at h
    obtain ⟨g,hg,hc⟩:=oH h2
    refine ⟨fun j=>match j with | 0=>a | j+1=>g j,fun j x' y' e1 e2=>?_,?_⟩
    ·cases j with
     | zero=>simp at e1 e2;subst e1 e2;exact h1
     | succ j=>simp at e1 e2;exact hg j x' y' e1 e2
    ·rw [<-h,hc]
     simp only [List.length_cons,Nat.succ_min_succ,List.range_succ_eq_map,List.all_cons,List.all_map]
     rw [Bool.and_assoc]
     congr 1
     rw [show (xs.length+1 == ys.length+1)=(xs.length == ys.length) by simp]
     rfl
theorem zX {pins:List (Addr × Obj)} {σ:L2.St} {s:Shared} {a:Addr} {xs ys:List V} (I:Inv X pins σ H s) (h1:H a=some (.tup xs)) (h2:H a=some (.tup ys)):xs=ys:=by
 rw [h1] at h2;cases h2;rfl
theorem uf {m:List Addr} (nd:m.Nodup) {i j:Nat} {a:Addr} (h1:m[i]?=some a) (h2:m[j]?=some a):i=j:=by
 obtain ⟨p1,q1⟩:=List.getElem?_eq_some_iff.mp h1
 obtain ⟨p2,q2⟩:=List.getElem?_eq_some_iff.mp h2
 exact (List.getElem_inj nd).mp (q1.trans q2.symm)
theorem oI {pins:List (Addr × Obj)} {σ:L2.St} {s:Shared} (I:Inv X pins σ H s) (R:Rel X.K m S H):∀ (n:Nat) {x y:D} {v:V} {b:Bool},VD X.K m H x v->VD X.K m H y v->eqD n S x y=some b->b=true
 | 0,_,_,_,_,_,_,h=>by simp [eqD] at h
 | n+1,x,y,v,b,h1,h2,h=>by
  have lists:∀ {xs ys:List D} {vs:List V} {b:Bool},VDs X.K m H xs vs->VDs X.K m H ys vs->eqL (eqD n S) xs ys=some b->b=true:=by
   intro xs
   induction xs with
   | nil=>
    intro ys vs b p q e
    have l1:=p.length
    have l2:=q.length
    cases ys with
    | nil=>simp [eqL] at e;simp_all
    | cons _ _=>simp at l1 l2;omega
   | cons x xs ih=>
    intro ys vs b p q e
    have l1:=p.length
    have l2:=q.length
    cases ys with
    | nil=>simp at l1 l2;omega
    | cons y ys=>
     rw [VDs] at p q
     obtain ⟨a,r,e1,p1,p2⟩:=p
     obtain ⟨a',r',e2,q1,q2⟩:=q
     rw [e1] at e2
     cases e2
     simp only [eqL] at e
     cases f1:eqD n S x y with
     | none=>simp [f1] at e
     | some c=>
      cases f2:eqL (eqD n S) xs ys with
      | none=>simp [f1,f2] at e
      | some d=>
       simp [f1,f2] at e
       rw [<-e,oI I R n p1 q1 f1,ih p2 q2 f2];rfl
  cases x with
  | non=>cases h1.nons;cases y <;> simp [VD] at h2 <;> simp [eqD] at h <;> simp [h]
  | bl a=>cases h1.bls;cases y <;> simp [VD] at h2 <;> simp [eqD] at h <;> simp_all
  | int a=>cases h1.ints;cases y <;> simp [VD] at h2 <;> simp [eqD] at h <;> simp_all
  | str a=>cases h1.strs;cases y <;> simp [VD] at h2 <;> simp [eqD] at h <;> simp_all
  | tup xs=>
   obtain ⟨a,vs,e,sq,p⟩:=h1.tups
   subst e
   cases y with
   | tup ys=>
    obtain ⟨a',vs',e',sq',q⟩:=h2.tups
    cases e'
    have:=zX I sq sq'
    subst this
    simp only [eqD] at h
    exact lists p q h
   | ref k=>
    obtain ⟨a',ha,e'⟩:=h2.refs
    cases e'
    have z:a ∈ m:=List.mem_of_getElem? ha
    exact absurd z (R.notTup sq)
   | non=>cases h2.nons
   | bl _=>cases h2.bls
   | int _=>cases h2.ints
   | str _=>cases h2.strs
  | ref k=>
   obtain ⟨a,ha,e⟩:=h1.refs
   subst e
   cases y with
   | ref k'=>
    obtain ⟨a',ha',e'⟩:=h2.refs
    cases e'
    have:=uf R.nd ha ha'
    subst this
    simp only [eqD] at h
    cases hs:am S k with
    | none=>rw [hs] at h;cases h
    | some es=>rw [hs] at h;simp at h;exact h.symm ▸ rfl
   | tup ys=>
    obtain ⟨a',vs',e',sq,q⟩:=h2.tups
    cases e'
    have z:a ∈ m:=List.mem_of_getElem? ha
    exact absurd z (R.notTup sq)
   | non=>cases h2.nons
   | bl _=>cases h2.bls
   | int _=>cases h2.ints
   | str _=>cases h2.strs
theorem r9 {vs:List V} {its:List Value} {xs:List D} (p:VDs K m H xs vs) (r:aK vs its) {j:Nat} (hj:j < its.toArray.size):∃ x v,xs[j]?=some x/\VD K m H x v/\aJ v its.toArray[j]:=by
 have hj':j < its.length:=by simpa using hj
 have l1:=p.length
 have l2:=r.length
 obtain ⟨v,hv,vd⟩:=p.get (i:=j) (d:=xs[j]'(by omega)) (gEG _)
 obtain ⟨u,hu,ru⟩:=r.get hv
 refine ⟨_,v,gEG (by omega),vd,?_⟩
 have e:its[j]?=some its[j]:=gEG hj'
 rw [e] at hu
 cases hu
 simpa using ru
noncomputable abbrev Eu (X:Cx) (m:List Addr) (H:Hp) (S:Sto) (s:Shared) (n:Nat):Prop:=∀ (A:Around) (x y:D) (v w:V) (u u':Value) (b:Bool),VD X.K m H x v->VD X.K m H y w->aJ v u->aJ w u'->eqD n S x y=some b->A.units+n < cLine->SeqAt.EqAt A s u u' b
theorem oJ {pins:List (Addr × Obj)} {σ:L2.St} {s:Shared} {n:Nat} (ih:Eu X m H S s n) {A:Around} {xs ys:List D} {vs ws:List V} {i1 i2:List Value} {b:Bool} (p:VDs X.K m H xs vs) (q:VDs X.K m H ys ws) (r1:aK vs i1) (r2:aK ws i2)
  (h:eqL (eqD n S) xs ys=some b) (hu:A.units+(n+1) < cLine):∃ g:Nat->Bool,(∀ j (h1:j < i1.toArray.size) (h2:j < i2.toArray.size),SeqAt.EqAt A.in1 s i1.toArray[j] i2.toArray[j] (g j))/\b=((List.range (min i1.toArray.size i2.toArray.size)).all g && i1.toArray.size == i2.toArray.size):=by
 obtain ⟨g,hg,hb⟩:=oH h
 have l1:i1.toArray.size=xs.length:=by rw [List.size_toArray,<-r1.length,<-p.length]
 have l2:i2.toArray.size=ys.length:=by rw [List.size_toArray,<-r2.length,<-q.length]
 refine ⟨g,fun j h1 h2=>?_,by rw [hb,l1,l2]⟩
 obtain ⟨x,v,e1,v1,ru1⟩:=r9 p r1 h1
 obtain ⟨y,w,e2,v2,ru2⟩:=r9 q r2 h2
 exact ih _ _ _ _ _ _ _ _ v1 v2 ru1 ru2 (hg j x y e1 e2) (by show A.units+1+n < cLine;omega)
theorem wz {n:Nat}:(List.range n).all (fun _=>true)=true:=by simp
theorem wD {pins:List (Addr × Obj)} {σ:L2.St} {s:Shared} (I:Inv X pins σ H s) (R:Rel X.K m S H) {n:Nat} (ih:Eu X m H S s n) {A:Around} {x y:D} {a a':Addr} {b:Bool} (hx:VD X.K m H x (.ref a)) (hy:VD X.K m H y (.ref a')) (h:eqD (n+1) S x y=some b) (hu:A.units+(n+1) < cLine) :
  SeqAt.RcAt A s (.ref a) (.ref a') b/\PySem.SeqAt.RcNeAt A s (.ref a) (.ref a') (!b):=by
 have hu0:A.units < cLine:=by omega
 cases x with
 | non=>cases hx.nons
 | bl _=>cases hx.bls
 | int _=>cases hx.ints
 | str _=>cases hx.strs
 | tup xs=>
  obtain ⟨_,vs,e,sq,p⟩:=hx.tups
  cases e
  obtain ⟨i1,r1,t1,_⟩:=I.tuple (.of sq)
  cases y with
  | non=>cases hy.nons
  | bl _=>cases hy.bls
  | int _=>cases hy.ints
  | str _=>cases hy.strs
  | tup ys=>
   obtain ⟨_,ws,e,sq',q⟩:=hy.tups
   cases e
   obtain ⟨i2,r2,t2,_⟩:=I.tuple (.of sq')
   simp only [eqD] at h
   obtain ⟨g,hg,hb⟩:=oJ (pins:=pins) (σ:=σ) ih p q r1 r2 h hu
   rw [hb]
   exact ⟨SeqAt.RcAt.tuples t1 t2 hu0 hg,PySem.SeqAt.RcNeAt.tuples t1 t2 hu0 hg⟩
  | ref k=>
   simp only [eqD] at h
   cases hs:am S k with
   | none=>rw [hs] at h;cases h
   | some es=>
    rw [hs] at h
    cases h
    obtain ⟨b',ws,hb,sq',q⟩:=R.seq hs
    obtain ⟨c,hc,ec⟩:=hy.refs
    cases ec
    rw [hb] at hc
    cases hc
    obtain ⟨i2,r2,t2,_⟩:=I.list sq'
    exact ⟨SeqAt.RcAt.tuple_list t1 t2.isList hu0,PySem.SeqAt.RcNeAt.tuple_list t1 t2.isList hu0⟩
 | ref k=>
  obtain ⟨c,hc,ec⟩:=hx.refs
  cases ec
  cases y with
  | non=>cases hy.nons
  | bl _=>cases hy.bls
  | int _=>cases hy.ints
  | str _=>cases hy.strs
  | tup ys=>
   obtain ⟨_,ws,e,sq',q⟩:=hy.tups
   cases e
   obtain ⟨i2,r2,t2,_⟩:=I.tuple (.of sq')
   simp only [eqD] at h
   cases hs:am S k with
   | none=>rw [hs] at h;cases h
   | some es=>
    rw [hs] at h
    cases h
    obtain ⟨b',vs,hb,sq,p⟩:=R.seq hs
    rw [hb] at hc
    cases hc
    obtain ⟨i1,r1,t1,_⟩:=I.list sq
    exact ⟨SeqAt.RcAt.list_tuple t1.isList t2 hu0,PySem.SeqAt.RcNeAt.list_tuple t1.isList t2 hu0⟩
  | ref k'=>
   obtain ⟨c',hc',ec'⟩:=hy.refs
   cases ec'
   simp only [eqD] at h
   cases hs:am S k with
   | none=>rw [hs] at h;cases h
   | some es=>
    cases hs':am S k' with
    | none=>rw [hs,hs'] at h;cases h
    | some es'=>
     rw [hs,hs'] at h
     dsimp only at h
     obtain ⟨b1,vs,hb,sq,p⟩:=R.seq hs
     rw [hb] at hc
     cases hc
     obtain ⟨b2,ws,hb',sq',q⟩:=R.seq hs'
     rw [hb'] at hc'
     cases hc'
     obtain ⟨i1,r1,t1,_⟩:=I.list sq
     obtain ⟨i2,r2,t2,_⟩:=I.list sq'
     split at h
     ·rename_i hk
      subst hk
      rw [hb] at hb'
      cases hb'
      cases h
      have z:=SeqAt.RcAt.lists (e:=fun _=>true) t1.isList t1.isList rfl hu0 fun j h1 h2=>SeqAt.EqAt.same _
      have z':=PySem.SeqAt.RcNeAt.lists (e:=fun _=>true) t1.isList t1.isList rfl hu0 fun j h1 h2=>SeqAt.EqAt.same _
      rw [wz] at z z'
      exact ⟨z,z'⟩
     ·have l1:i1.toArray.size=es.length:=by rw [List.size_toArray,<-r1.length,<-p.length]
      have l2:i2.toArray.size=es'.length:=by rw [List.size_toArray,<-r2.length,<-q.length]
      split at h
      ·rename_i hl
       obtain ⟨g,hg,hb3⟩:=oJ (pins:=pins) (σ:=σ) ih p q r1 r2 h hu
       have hsz:i1.toArray.size=i2.toArray.size:=by rw [l1,l2,hl]
       rw [hb3,<-hsz,Nat.min_self,beq_self_eq_true,Bool.and_true]
       exact ⟨SeqAt.RcAt.lists t1.isList t2.isList hsz hu0 hg,PySem.SeqAt.RcNeAt.lists t1.isList t2.isList hsz hu0 hg⟩
      ·rename_i hl
       cases h
       have hsz:(i1.toArray.size != i2.toArray.size)=true:=by rw [l1,l2];simpa using hl
       exact ⟨SeqAt.RcAt.lists_lengths t1.isList t2.isList hsz hu0,PySem.SeqAt.RcNeAt.lists_lengths t1.isList t2.isList hsz hu0⟩
theorem bt {pins:List (Addr × Obj)} {σ:L2.St} {s:Shared} (I:Inv X pins σ H s) (R:Rel X.K m S H) {k:Nat} {v:V} {es:List D} (h:VD X.K m H (.ref k) v) (hs:am S k=some es):∃ a i,v = .ref a/\s.heap.IsList a i:=by
 obtain ⟨c,hc,ec⟩:=h.refs
 obtain ⟨b1,vs,hb,sq,p⟩:=R.seq hs
 rw [hb] at hc
 cases hc
 obtain ⟨i1,r1,t1,_⟩:=I.list sq
 exact ⟨_,_,ec,t1.isList⟩
theorem bG {pins:List (Addr × Obj)} {σ:L2.St} {s:Shared} (I:Inv X pins σ H s) {v:V} {es:List D} (h:VD X.K m H (.tup es) v):∃ a i,v = .ref a/\s.heap.IsTuple a i:=by
 obtain ⟨a,vs,e,sq,p⟩:=h.tups
 obtain ⟨i1,r1,t1,_⟩:=I.tuple (.of sq)
 exact ⟨_,_,e,t1⟩
theorem wG {pins:List (Addr × Obj)} {σ:L2.St} {s:Shared} (I:Inv X pins σ H s) (R:Rel X.K m S H):∀ n,Eu X m H S s n
 | 0=>fun A x y v w u u' b h1 h2 r1 r2 h _=>by simp [eqD] at h
 | n+1=>fun A x y v w u u' b h1 h2 r1 r2 h hu=>by
  have hu0:A.units < cLine:=by omega
  have seq:∀ {a a':Addr},v = .ref a->w = .ref a'->SeqAt.EqAt A s u u' b:=by
   intro a a' e e'
   subst e e'
   cases r1;cases r2
   by_cases z:a=a'
   ·subst z
    have:=oI I R (n+1) h1 h2 h
    subst this
    exact SeqAt.EqAt.same _
   ·exact SeqAt.EqAt.of_refs z (wD I R (wG I R n) h1 h2 h hu).1
  cases x with
  | non=>
   cases h1.nons;cases r1
   cases y with
   | non=>cases h2.nons;cases r2;simp [eqD] at h;subst h;exact SeqAt.EqAt.same _
   | bl j=>cases h2.bls;cases r2;simp [eqD] at h;subst h;exact SeqAt.EqAt.none_bool _
   | int j=>cases h2.ints;obtain ⟨t,rfl⟩:=r2;simp [eqD] at h;subst h;exact SeqAt.EqAt.none_int _ _
   | str j=>cases h2.strs;obtain ⟨t,rfl⟩:=r2;simp [eqD] at h;subst h;exact SeqAt.EqAt.none_str _ _
   | tup ys=>obtain ⟨a,i,e,l⟩:=bG I h2;subst e;cases r2;simp [eqD] at h;subst h;exact SeqAt.EqAt.none_tuple l hu0
   | ref k=>
    simp only [eqD] at h
    cases hs:am S k with
    | none=>rw [hs] at h;cases h
    | some es=>rw [hs] at h;cases h;obtain ⟨a,i,e,l⟩:=bt I R h2 hs;subst e;cases r2;exact SeqAt.EqAt.none_list l hu0
  | bl i=>
   cases h1.bls;cases r1
   cases y with
   | non=>cases h2.nons;cases r2;simp [eqD] at h;subst h;exact SeqAt.EqAt.bool_none _
   | bl j=>cases h2.bls;cases r2;simp only [eqD] at h;cases h;exact SeqAt.EqAt.bool_bool _ _
   | int j=>cases h2.ints;obtain ⟨t,rfl⟩:=r2;simp only [eqD] at h;cases h;exact SeqAt.EqAt.bool_int _ _ _
   | str j=>cases h2.strs;obtain ⟨t,rfl⟩:=r2;simp [eqD] at h;subst h;exact SeqAt.EqAt.bool_str _ _ _
   | tup ys=>obtain ⟨a,i,e,l⟩:=bG I h2;subst e;cases r2;simp [eqD] at h;subst h;exact SeqAt.EqAt.bool_tuple _ l hu0
   | ref k=>
    simp only [eqD] at h
    cases hs:am S k with
    | none=>rw [hs] at h;cases h
    | some es=>rw [hs] at h;cases h;obtain ⟨a,i,e,l⟩:=bt I R h2 hs;subst e;cases r2;exact SeqAt.EqAt.bool_list _ l hu0
  | int i=>
   cases h1.ints;obtain ⟨t1,rfl⟩:=r1
   cases y with
   | non=>cases h2.nons;cases r2;simp [eqD] at h;subst h;exact SeqAt.EqAt.int_none _ _
   | bl j=>cases h2.bls;cases r2;simp only [eqD] at h;cases h;exact SeqAt.EqAt.int_bool _ _ _
   | int j=>cases h2.ints;obtain ⟨t,rfl⟩:=r2;simp only [eqD] at h;cases h;exact SeqAt.EqAt.int_int _ _ _ _
   | str j=>cases h2.strs;obtain ⟨t,rfl⟩:=r2;simp [eqD] at h;subst h;exact SeqAt.EqAt.int_str _ _ _ _
   | tup ys=>obtain ⟨a,i,e,l⟩:=bG I h2;subst e;cases r2;simp [eqD] at h;subst h;exact SeqAt.EqAt.int_tuple _ _ l hu0
   | ref k=>
    simp only [eqD] at h
    cases hs:am S k with
    | none=>rw [hs] at h;cases h
    | some es=>rw [hs] at h;cases h;obtain ⟨a,i,e,l⟩:=bt I R h2 hs;subst e;cases r2;exact SeqAt.EqAt.int_list _ _ l hu0
  | str i=>
   cases h1.strs;obtain ⟨t1,rfl⟩:=r1
   cases y with
   | non=>cases h2.nons;cases r2;simp [eqD] at h;subst h;exact SeqAt.EqAt.str_none _ _
   | bl j=>cases h2.bls;cases r2;simp [eqD] at h;subst h;exact SeqAt.EqAt.str_bool _ _ _
   | int j=>cases h2.ints;obtain ⟨t,rfl⟩:=r2;simp [eqD] at h;subst h;exact SeqAt.EqAt.str_int _ _ _ _
   | str j=>cases h2.strs;obtain ⟨t,rfl⟩:=r2;simp only [eqD] at h;cases h;exact SeqAt.EqAt.str_str _ _ _ _
   | tup ys=>obtain ⟨a,i,e,l⟩:=bG I h2;subst e;cases r2;simp [eqD] at h;subst h;exact SeqAt.EqAt.str_tuple _ _ l hu0
   | ref k=>
    simp only [eqD] at h
    cases hs:am S k with
    | none=>rw [hs] at h;cases h
    | some es=>rw [hs] at h;cases h;obtain ⟨a,i,e,l⟩:=bt I R h2 hs;subst e;cases r2;exact SeqAt.EqAt.str_list _ _ l hu0
  | tup xs=>
   obtain ⟨a,i,e,l⟩:=bG I h1
   subst e;cases r1
   cases y with
   | non=>cases h2.nons;cases r2;simp [eqD] at h;subst h;exact SeqAt.EqAt.tuple_none l hu0
   | bl j=>cases h2.bls;cases r2;simp [eqD] at h;subst h;exact SeqAt.EqAt.tuple_bool _ l hu0
   | int j=>cases h2.ints;obtain ⟨t,rfl⟩:=r2;simp [eqD] at h;subst h;exact SeqAt.EqAt.tuple_int _ _ l hu0
   | str j=>cases h2.strs;obtain ⟨t,rfl⟩:=r2;simp [eqD] at h;subst h;exact SeqAt.EqAt.tuple_str _ _ l hu0
   | tup ys=>obtain ⟨a',i',e',l'⟩:=bG I h2;exact seq rfl e'
   | ref k=>obtain ⟨c,hc,ec⟩:=h2.refs;exact seq rfl ec
  | ref k=>
   obtain ⟨c,hc,ec⟩:=h1.refs
   cases y with
   | tup ys=>obtain ⟨a',i',e',l'⟩:=bG I h2;exact seq ec e'
   | ref k=>obtain ⟨c,hc,ec'⟩:=h2.refs;exact seq ec ec'
   | non=>
    simp only [eqD] at h
    cases hs:am S k with
    | none=>rw [hs] at h;cases h
    | some es=>rw [hs] at h;cases h;obtain ⟨a,i,e,l⟩:=bt I R h1 hs;subst e;cases r1;cases h2.nons;cases r2;exact SeqAt.EqAt.list_none l hu0
   | bl j=>
    simp only [eqD] at h
    cases hs:am S k with
    | none=>rw [hs] at h;cases h
    | some es=>rw [hs] at h;cases h;obtain ⟨a,i,e,l⟩:=bt I R h1 hs;subst e;cases r1;cases h2.bls;cases r2;exact SeqAt.EqAt.list_bool _ l hu0
   | int j=>
    simp only [eqD] at h
    cases hs:am S k with
    | none=>rw [hs] at h;cases h
    | some es=>rw [hs] at h;cases h;obtain ⟨a,i,e,l⟩:=bt I R h1 hs;subst e;cases r1;cases h2.ints;obtain ⟨t,rfl⟩:=r2;exact SeqAt.EqAt.list_int _ _ l hu0
   | str j=>
    simp only [eqD] at h
    cases hs:am S k with
    | none=>rw [hs] at h;cases h
    | some es=>rw [hs] at h;cases h;obtain ⟨a,i,e,l⟩:=bt I R h1 hs;subst e;cases r1;cases h2.strs;obtain ⟨t,rfl⟩:=r2;exact SeqAt.EqAt.list_str _ _ l hu0
theorem IX {pins:List (Addr × Obj)} {σ:L2.St} {s:Shared} (I:Inv X pins σ H s) (R:Rel X.K m S H) (n:Nat) {A:Around} {x y:D} {v w:V} {u u':Value} {b:Bool} (h1:VD X.K m H x v) (h2:VD X.K m H y w) (r1:aJ v u) (r2:aJ w u') (h:eqD (n+1) S x y=some b) (hu:A.units+(n+1) < cLine) :
  SeqAt.RcAt A s u u' b/\PySem.SeqAt.RcNeAt A s u u' (!b):=by
 have hu0:A.units < cLine:=by omega
 have seq:∀ {a a':Addr},v = .ref a->w = .ref a'->SeqAt.RcAt A s u u' b/\PySem.SeqAt.RcNeAt A s u u' (!b):=by
  intro a a' e e'
  subst e e'
  cases r1;cases r2
  exact wD I R (wG I R n) h1 h2 h hu
 cases x with
 | non=>
  cases h1.nons;cases r1
  cases y with
  | non=>cases h2.nons;cases r2;simp [eqD] at h;subst h;exact ⟨SeqAt.RcAt.none_none,PySem.SeqAt.RcNeAt.none_none⟩
  | bl j=>cases h2.bls;cases r2;simp [eqD] at h;subst h;exact ⟨SeqAt.RcAt.none_bool _,PySem.SeqAt.RcNeAt.none_bool _⟩
  | int j=>cases h2.ints;obtain ⟨t2,rfl⟩:=r2;simp [eqD] at h;subst h;exact ⟨SeqAt.RcAt.none_int _ _,PySem.SeqAt.RcNeAt.none_int _ _⟩
  | str j=>cases h2.strs;obtain ⟨t2,rfl⟩:=r2;simp [eqD] at h;subst h;exact ⟨SeqAt.RcAt.none_str _ _,PySem.SeqAt.RcNeAt.none_str _ _⟩
  | tup ys=>obtain ⟨a,i,e,l⟩:=bG I h2;subst e;cases r2;simp [eqD] at h;subst h;exact ⟨SeqAt.RcAt.none_tuple l hu0,PySem.SeqAt.RcNeAt.none_tuple l hu0⟩
  | ref k=>
   simp only [eqD] at h
   cases hs:am S k with
   | none=>rw [hs] at h;cases h
   | some es=>rw [hs] at h;cases h;obtain ⟨a,i,e,l⟩:=bt I R h2 hs;subst e;cases r2;exact ⟨SeqAt.RcAt.none_list l hu0,PySem.SeqAt.RcNeAt.none_list l hu0⟩
 | bl i=>
  cases h1.bls;cases r1
  cases y with
  | non=>cases h2.nons;cases r2;simp [eqD] at h;subst h;exact ⟨SeqAt.RcAt.bool_none _,PySem.SeqAt.RcNeAt.bool_none _⟩
  | bl j=>cases h2.bls;cases r2;simp only [eqD] at h;cases h;exact ⟨SeqAt.RcAt.bool_bool _ _,PySem.SeqAt.RcNeAt.bool_bool _ _⟩
  | int j=>cases h2.ints;obtain ⟨t2,rfl⟩:=r2;simp only [eqD] at h;cases h;exact ⟨SeqAt.RcAt.bool_int _ _ _,PySem.SeqAt.RcNeAt.bool_int _ _ _⟩
  | str j=>cases h2.strs;obtain ⟨t2,rfl⟩:=r2;simp [eqD] at h;subst h;exact ⟨SeqAt.RcAt.bool_str _ _ _,PySem.SeqAt.RcNeAt.bool_str _ _ _⟩
  | tup ys=>obtain ⟨a,i,e,l⟩:=bG I h2;subst e;cases r2;simp [eqD] at h;subst h;exact ⟨SeqAt.RcAt.bool_tuple _ l hu0,PySem.SeqAt.RcNeAt.bool_tuple _ l hu0⟩
  | ref k=>
   simp only [eqD] at h
   cases hs:am S k with
   | none=>rw [hs] at h;cases h
   | some es=>rw [hs] at h;cases h;obtain ⟨a,i,e,l⟩:=bt I R h2 hs;subst e;cases r2;exact ⟨SeqAt.RcAt.bool_list _ l hu0,PySem.SeqAt.RcNeAt.bool_list _ l hu0⟩
 | int i=>
  cases h1.ints;obtain ⟨t1,rfl⟩:=r1
  cases y with
  | non=>cases h2.nons;cases r2;simp [eqD] at h;subst h;exact ⟨SeqAt.RcAt.int_none _ _,PySem.SeqAt.RcNeAt.int_none _ _⟩
  | bl j=>cases h2.bls;cases r2;simp only [eqD] at h;cases h;exact ⟨SeqAt.RcAt.int_bool _ _ _,PySem.SeqAt.RcNeAt.int_bool _ _ _⟩
  | int j=>cases h2.ints;obtain ⟨t2,rfl⟩:=r2;simp only [eqD] at h;cases h;exact ⟨SeqAt.RcAt.int_int _ _ _ _,PySem.SeqAt.RcNeAt.int_int _ _ _ _⟩
  | str j=>cases h2.strs;obtain ⟨t2,rfl⟩:=r2;simp [eqD] at h;subst h;exact ⟨SeqAt.RcAt.int_str _ _ _ _,PySem.SeqAt.RcNeAt.int_str _ _ _ _⟩
  | tup ys=>obtain ⟨a,i,e,l⟩:=bG I h2;subst e;cases r2;simp [eqD] at h;subst h;exact ⟨SeqAt.RcAt.int_tuple _ _ l hu0,PySem.SeqAt.RcNeAt.int_tuple _ _ l hu0⟩
  | ref k=>
   simp only [eqD] at h
   cases hs:am S k with
   | none=>rw [hs] at h;cases h
   | some es=>rw [hs] at h;cases h;obtain ⟨a,i,e,l⟩:=bt I R h2 hs;subst e;cases r2;exact ⟨SeqAt.RcAt.int_list _ _ l hu0,PySem.SeqAt.RcNeAt.int_list _ _ l hu0⟩
 | str i=>
  cases h1.strs;obtain ⟨t1,rfl⟩:=r1
  cases y with
  | non=>cases h2.nons;cases r2;simp [eqD] at h;subst h;exact ⟨SeqAt.RcAt.str_none _ _,PySem.SeqAt.RcNeAt.str_none _ _⟩
  | bl j=>cases h2.bls;cases r2;simp [eqD] at h;subst h;exact ⟨SeqAt.RcAt.str_bool _ _ _,PySem.SeqAt.RcNeAt.str_bool _ _ _⟩
  | int j=>cases h2.ints;obtain ⟨t2,rfl⟩:=r2;simp [eqD] at h;subst h;exact ⟨SeqAt.RcAt.str_int _ _ _ _,PySem.SeqAt.RcNeAt.str_int _ _ _ _⟩
  | str j=>cases h2.strs;obtain ⟨t2,rfl⟩:=r2;simp only [eqD] at h;cases h;exact ⟨SeqAt.RcAt.str_str _ _ _ _,PySem.SeqAt.RcNeAt.str_str _ _ _ _⟩
  | tup ys=>obtain ⟨a,i,e,l⟩:=bG I h2;subst e;cases r2;simp [eqD] at h;subst h;exact ⟨SeqAt.RcAt.str_tuple _ _ l hu0,PySem.SeqAt.RcNeAt.str_tuple _ _ l hu0⟩
  | ref k=>
   simp only [eqD] at h
   cases hs:am S k with
   | none=>rw [hs] at h;cases h
   | some es=>rw [hs] at h;cases h;obtain ⟨a,i,e,l⟩:=bt I R h2 hs;subst e;cases r2;exact ⟨SeqAt.RcAt.str_list _ _ l hu0,PySem.SeqAt.RcNeAt.str_list _ _ l hu0⟩
 | tup xs=>
  obtain ⟨a,i,e,l⟩:=bG I h1
  cases y with
  | non=>subst e;cases r1;cases h2.nons;cases r2;simp [eqD] at h;subst h;exact ⟨SeqAt.RcAt.tuple_none l hu0,PySem.SeqAt.RcNeAt.tuple_none l hu0⟩
  | bl j=>subst e;cases r1;cases h2.bls;cases r2;simp [eqD] at h;subst h;exact ⟨SeqAt.RcAt.tuple_bool _ l hu0,PySem.SeqAt.RcNeAt.tuple_bool _ l hu0⟩
  | int j=>subst e;cases r1;cases h2.ints;obtain ⟨t2,rfl⟩:=r2;simp [eqD] at h;subst h;exact ⟨SeqAt.RcAt.tuple_int _ _ l hu0,PySem.SeqAt.RcNeAt.tuple_int _ _ l hu0⟩
  | str j=>subst e;cases r1;cases h2.strs;obtain ⟨t2,rfl⟩:=r2;simp [eqD] at h;subst h;exact ⟨SeqAt.RcAt.tuple_str _ _ l hu0,PySem.SeqAt.RcNeAt.tuple_str _ _ l hu0⟩
  | tup ys=>obtain ⟨a',i',e',l'⟩:=bG I h2;exact seq e e'
  | ref k=>obtain ⟨c,hc,ec⟩:=h2.refs;exact seq e ec
 | ref k=>
  obtain ⟨c,hc,ec⟩:=h1.refs
  cases y with
  | tup ys=>obtain ⟨a',i',e',l'⟩:=bG I h2;exact seq ec e'
  | ref k=>obtain ⟨c,hc,ec'⟩:=h2.refs;exact seq ec ec'
  | non=>
   simp only [eqD] at h
   cases hs:am S k with
   | none=>rw [hs] at h;cases h
   | some es=>rw [hs] at h;cases h;obtain ⟨a,i,e,l⟩:=bt I R h1 hs;subst e;cases r1;cases h2.nons;cases r2;exact ⟨SeqAt.RcAt.list_none l hu0,PySem.SeqAt.RcNeAt.list_none l hu0⟩
  | bl j=>
   simp only [eqD] at h
   cases hs:am S k with
   | none=>rw [hs] at h;cases h
   | some es=>rw [hs] at h;cases h;obtain ⟨a,i,e,l⟩:=bt I R h1 hs;subst e;cases r1;cases h2.bls;cases r2;exact ⟨SeqAt.RcAt.list_bool _ l hu0,PySem.SeqAt.RcNeAt.list_bool _ l hu0⟩
  | int j=>
   simp only [eqD] at h
   cases hs:am S k with
   | none=>rw [hs] at h;cases h
   | some es=>rw [hs] at h;cases h;obtain ⟨a,i,e,l⟩:=bt I R h1 hs;subst e;cases r1;cases h2.ints;obtain ⟨t2,rfl⟩:=r2;exact ⟨SeqAt.RcAt.list_int _ _ l hu0,PySem.SeqAt.RcNeAt.list_int _ _ l hu0⟩
  | str j=>
   simp only [eqD] at h
   cases hs:am S k with
   | none=>rw [hs] at h;cases h
   | some es=>rw [hs] at h;cases h;obtain ⟨a,i,e,l⟩:=bt I R h1 hs;subst e;cases r1;cases h2.strs;obtain ⟨t2,rfl⟩:=r2;exact ⟨SeqAt.RcAt.list_str _ _ l hu0,PySem.SeqAt.RcNeAt.list_str _ _ l hu0⟩
noncomputable def eqS (x y:D) (S:Sto):Option (D × Sto):=(eqD 60 S x y).map fun b=>(.bl b,S)
noncomputable def neS (x y:D) (S:Sto):Option (D × Sto):=(eqD 60 S x y).map fun b=>(.bl (!b),S)
theorem Ew (hu:X.A.units+64 < cLine):OpR X (compareOp .Eq) (rS X.K eqS):=by
 intro pins s σ H x y v u Q I rx ry h
 obtain ⟨m,S,a,b,d,S',R,va,vb,e,q⟩:=h
 unfold eqS at e
 cases he:eqD 60 S a b with
 | none=>rw [he] at e;cases e
 | some c=>
  rw [he] at e
  cases e
  exact (IX I R 59 va vb rx ry he (by omega)).1 _ _ _ _ ⟨.bl c,H,I,rfl,q m H _ (Aft.refl R) cf⟩
theorem Ex (hu:X.A.units+64 < cLine):OpR X (compareOp .NotEq) (rS X.K neS):=by
 intro pins s σ H x y v u Q I rx ry h
 obtain ⟨m,S,a,b,d,S',R,va,vb,e,q⟩:=h
 unfold neS at e
 cases he:eqD 60 S a b with
 | none=>rw [he] at e;cases e
 | some c=>
  rw [he] at e
  cases e
  exact (IX I R 59 va vb rx ry he (by omega)).2 _ _ _ _ ⟨.bl (!c),H,I,rfl,q m H _ (Aft.refl R) cf⟩
end
end Ev
namespace Ev
open PySem PySem.Spec PyProof.Rows L2
theorem iI:fillsNumberSlot (.type "tuple") "mul" = pure false:=
 PySem.fillsNumberSlot_seq (id := "tuple.__mul__") (r:=some (.builtin "tuple.__rmul__")) F.slot_tuple_mul.lookup (by decide +kernel) F.slot_tuple_rmul.lookup (by decide +kernel)
theorem mT:seqRepeat? (.type "tuple")=pure (some (.builtin "tuple.__mul__")):=by
 unfold seqRepeat?
 rw [PySem.seqSlot_of (T := "tuple") (name := "__mul__") (id := "tuple.__mul__") F.slot_tuple_mul.lookup (by decide +kernel),PySem.seqSlot_of (T := "tuple") (name := "__rmul__") (id := "tuple.__rmul__") F.slot_tuple_rmul.lookup (by decide +kernel)]
 rfl
theorem j5 (a:Int) (t:Tok) (l:Addr) (items:Array Value) (n:Nat) (dd:Option Addr) (sl:Array (Option Value)) :
  Meets (Builtin.«int.__rmul__» ⟨[.int a t,.ref l],[]⟩) (fun _ R s=>s.heap.get? l=some { cls:=.type "tuple", dict:=dd,data:=.seq items n,slots:=sl }/\R (.ok (.ret Value.notImplemented)) s):=
 .of_wp fun prog w A R s h=>by
  obtain ⟨hp,g,d,tk,os⟩:=s
  obtain ⟨hl,h⟩:=h
  wp_walk
  exact ⟨_,rfl,h⟩
theorem ug (l:Addr) (items:Array Value) (n:Nat) (dd:Option Addr) (sl:Array (Option Value)) (x:Int) (u:Tok) (h2:2<=x) (h3:x<=1000) (hne:items.isEmpty=false) (hz:items.size * x.toNat<=1000) :
  Meets (Builtin.«tuple.__mul__» ⟨[.ref l,.int x u],[]⟩) (fun _ R s=>s.heap.get? l=some { cls:=.type "tuple", dict:=dd,data:=.seq items n,slots:=sl }/\R (.ok (.ret (Value.ref s.heap.objs.size))) { s with heap:=s.heap.push { cls:=Value.type "tuple", data:=Data.seq (List.foldl (fun x1 x2=>x1++x2) #[] (List.replicate x.toNat items)) },toks:=s.toks }):=
 .of_wp fun prog w A R s h=>by
  obtain ⟨hp,g,d,tk,os⟩:=s
  obtain ⟨hl,h⟩:=h
  have c1:(decide (x < -(2 ^ 63)) || decide (x ≥ 2 ^ 63))=false:=by simp;omega
  have c2:(items.isEmpty || (x == 1))=false:=by rw [hne];simp;omega
  have c3:(decide (x<=0) || items.isEmpty)=false:=by rw [hne];simp;omega
  have e0:(items.size:Int) * x=((items.size * x.toNat:Nat):Int):=by
   rw [Int.natCast_mul,Int.toNat_of_nonneg (by omega)]
  have c4:¬ (items.size:Int) * x > (2 ^ 63 - 1) / 8:=by rw [e0];omega
  have c5:Builtin.Tuple.tupleTooMany ((items.size:Int) * x)=false:=by
   unfold Builtin.Tuple.tupleTooMany
   rw [e0,sizeLine_eq]
   exact decide_eq_false (by omega)
  wp_walk
  refine wpAny_ite_false (decide_eq_false (by rw [c1];exact Bool.false_ne_true)) ?_
  refine wpAny_bind (wpAny_tupleItemsOf hl rfl ?_)
  refine wpAny_ite_false (decide_eq_false (by rw [c2];exact Bool.false_ne_true)) ?_
  refine wpAny_ite_false (decide_eq_false (by rw [c3];exact Bool.false_ne_true)) ?_
  dsimp only
  rw [if_neg c4]
  refine wpAny_ite_false (decide_eq_false (by rw [c5];exact Bool.false_ne_true)) ?_
  have hsz:(List.foldl (fun x1 x2=>x1++x2) #[] (List.replicate x.toNat items)).size<=sizeLine:=by
   have e1:=iu items.toList x.toNat []
   rw [List.nil_append] at e1
   have e2:items.toList.toArray=items:=by simp
   rw [e2] at e1
   rw [e1,List.size_toArray,rG,sizeLine_eq]
   have:items.toList.length=items.size:=by simp
   rw [this,Nat.mul_comm]
   omega
  wp_walk
  exact ⟨_,rfl,h⟩
section
variable {X:Cx}
noncomputable def IY (K:PySem.W.Frag):R2:=fun x y H Q=>∃ l k xs,x = .ref l/\y = .int k/\H l=some (.tup xs)/\2<=k/\k<=1000/\xs ≠ []/\xs.length * k.toNat<=1000/\∀ p,H p=none->Q (.ref p) (upd H p (.tup (List.replicate k.toNat xs).flatten))
theorem zY:OpR X (binaryOp .Mult) (IY X.K):=by
 intro pins s σ H x y v u Q I rx ry h
 obtain ⟨l,k,xs,rfl,rfl,hH,h1,h2,hne,hz,q⟩:=h
 cases rx
 obtain ⟨t,rfl⟩:=ry
 obtain ⟨its,r,⟨o,e,hc,n,hd⟩,_⟩:=I.tuple (SqT.of hH)
 obtain ⟨oc,od,da,sl⟩:=o
 dsimp only at hc hd
 subst hc hd
 have hl:=r.length
 have hnew:List.foldl (fun x1 x2=>x1++x2) #[] (List.replicate k.toNat its.toArray)=(List.replicate k.toNat its).flatten.toArray:=by
  have:=iu its k.toNat []
  rw [List.nil_append] at this
  exact this
 have hie:its.toArray.isEmpty=false:=by
  cases its with
  | nil=>exact absurd (List.length_eq_zero_iff.mp (by rw [hl];rfl)) hne
  | cons _ _=>rfl
 refine wpAny_binaryOp_repeat_ref (T := "tuple") (U := "int") (by decide) ⟨_,e,rfl⟩ (fun s'=>typeIs_int s' k t) iI F.fills_int_mul F.slot_int_rmul mT F.slot_int_index.lookup
  (call_meets F.slot_int_rmul (typeIs_int s k t) F.entry_int_rmul (F.args_int_rmul_2 _ _) (j5 k t l its.toArray n od sl)
   ⟨e,rfl,⟨_,e,rfl⟩,call_meets F.slot_tuple_mul ⟨_,e,rfl⟩ F.entry_tuple_mul (F.args_tuple_mul_2 _ _) (ug l its.toArray n od sl k t h1 h2 hie (by rw [List.size_toArray,<-hl];exact hz)) ⟨e,?_⟩⟩)
 rw [hnew]
 refine ⟨.ref s.heap.objs.size,_,I.laid (t':=s.toks) (o:=.tup (List.replicate k.toNat xs).flatten) (fun b ob q=>Heap.get?_push_of_some _ q) (Nat.le_refl _) ?_,rfl,q _ I.fresh⟩
 exact ⟨by rw [rG,Nat.mul_comm];exact gP hz,_,r.rep k.toNat,l9.new _ _⟩
end
end Ev
namespace Ev
open PySem PySem.Spec PyProof.Rows L2
noncomputable def mU:D->D->Sto->Option (D × Sto)
 | .int i,.int j,S=>some (.int (i+j),S)
 | .tup xs,.tup ys,S=>if xs.length+ys.length<=1000 then some (.tup (xs++ys),S) else none
 | .str x,.str y,S=>if x.length+y.length<=100000 then some (.str (x++y),S) else none
 | _,_,_=>none
noncomputable def IZ:D->D->Sto->Option (D × Sto)
 | .int i,.int j,S=>some (.int (i - j),S)
 | _,_,_=>none
noncomputable def gR (i j:Int):Bool:=(decide (-(2 ^ 64) < i) && decide (i < 2 ^ 64)) || (decide (-(2 ^ 64) < j) && decide (j < 2 ^ 64))
noncomputable def mV:D->D->Sto->Option (D × Sto)
 | .int i,.int j,S=>if gR i j=true then some (.int (i * j),S) else none
 | .tup xs,.int k,S=>if (2<=k/\k<=1000)/\(!xs.isEmpty)=true/\xs.length * k.toNat<=1000 then some (.tup (List.replicate k.toNat xs).flatten,S) else none
 | _,_,_=>none
noncomputable def Ey:D->D->Sto->Option (D × Sto)
 | .int i,.int j,S=>if 0 < j then some (.int (i % j),S) else none
 | _,_,_=>none
noncomputable def wH:D->D->Sto->Option (D × Sto)
 | .int i,.int j,S=>if 0 < j/\j < 1073741824 then some (.int (i / j),S) else none
 | _,_,_=>none
noncomputable def Ez:D->D->Sto->Option (D × Sto)
 | .int i,.int j,S=>if 0<=j/\j<=1000000/\i.natAbs < 2 ^ 64 then some (.int (i ^ j.toNat),S) else none
 | _,_,_=>none
inductive BOp where | add | sub | mul | mod | fdiv | pow
noncomputable def bP:BOp->D->D->Sto->Option (D × Sto)
 | .add=>mU | .sub=>IZ | .mul=>mV | .mod=>Ey | .fdiv=>wH | .pow=>Ez
noncomputable def BOp.op:BOp->Operator
 | .add=>.Add | .sub=>.Sub | .mul=>.Mult | .mod=>.Mod | .fdiv=>.FloorDiv | .pow=>.Pow
section
variable {X:Cx} {K:PySem.W.Frag} {m:List Addr} {H:Hp} {S:Sto}
theorem fH {op:Operator} {f:D->D->Sto->Option (D × Sto)} {C:Int->Int->Prop} {g:Int->Int->Int} (ho:OpR X (binaryOp op) (rI C fun i j=>.int (g i j)))
  (hf:∀ a b S d S',f a b S=some (d,S')->∃ i j,a = .int i/\b = .int j/\C i j/\d = .int (g i j)/\S'=S):OpR X (binaryOp op) (rS X.K f):=by
 refine OpR.imp ho fun x y H Q h=>?_
 obtain ⟨m,S,a,b,d,S',R,va,vb,e,q⟩:=h
 obtain ⟨i,j,rfl,rfl,c,rfl,rfl⟩:=hf _ _ _ _ _ e
 exact ⟨i,j,va.ints,vb.ints,c,q m H _ (Aft.refl R) bu⟩
theorem qm:OpR X (binaryOp .Add) (fun x y H Q=>∃ m S xs ys,Rel X.K m S H/\VD X.K m H (.tup xs) x/\VD X.K m H (.tup ys) y/\xs.length+ys.length<=1000/\∀ m' H' u,Aft X.K m H S m' H'->VD X.K m' H' (.tup (xs++ys)) u->Q u H'):=by
 refine OpR.imp zG fun x y H Q h=>?_
 obtain ⟨m,S,xs,ys,R,va,vb,hl,q⟩:=h
 obtain ⟨a,vs,rfl,sa,da⟩:=va.tups
 obtain ⟨b,ws,rfl,sb,db⟩:=vb.tups
 have l1:=da.length
 have l2:=db.length
 refine ⟨a,b,vs,ws,rfl,rfl,.of sa,.of sb,gP (by omega),fun e=>?_,fun _ e=>?_,fun _ _=>gQ R (da.append db) q⟩
 ·subst e
  have e:xs=[]:=List.length_eq_zero_iff.mp (by simpa using l1)
  subst e
  exact q m H _ (Aft.refl R) vb
 ·subst e
  have e:ys=[]:=List.length_eq_zero_iff.mp (by simpa using l2)
  subst e
  rw [List.append_nil] at q
  exact q m H _ (Aft.refl R) va
theorem zZ:OpR X (binaryOp .Add) (rS X.K mU):=by
 refine OpR.imp (OpR.or DP (OpR.or qm pV)) fun x y H Q h=>?_
 obtain ⟨m,S,a,b,d,S',R,va,vb,e,q⟩:=h
 cases a with
 | int i=>
  cases b with
  | int j=>cases e;exact .inl ⟨i,j,va.ints,vb.ints,q m H _ (Aft.refl R) bu⟩
  | _=>simp [mU] at e
 | tup xs=>
  cases b with
  | tup ys=>
   simp only [mU] at e
   split at e
   ·rename_i hl
    cases e
    exact .inr (.inl ⟨m,S,xs,ys,R,va,vb,hl,q⟩)
   ·cases e
  | _=>simp [mU] at e
 | str i=>
  cases b with
  | str j=>
   simp only [mU] at e
   split at e
   ·rename_i hl
    cases e
    exact .inr (.inr ⟨i,j,va.strs,vb.strs,by rw [sizeLine_eq];omega,q m H _ (Aft.refl R) mR⟩)
   ·cases e
  | _=>simp [mU] at e
 | _=>cases b <;> simp [mU] at e
theorem sd {ds:List D} {vs:List V} (h:VDs K m H ds vs):∀ n:Nat,VDs K m H (List.replicate n ds).flatten (List.replicate n vs).flatten
 | 0=>by rw [List.replicate_zero,List.replicate_zero,List.flatten_nil,List.flatten_nil,VDs]
 | n+1=>by rw [List.replicate_succ,List.replicate_succ,List.flatten_cons,List.flatten_cons];exact h.append (sd h n)
theorem z5:OpR X (binaryOp .Mult) (rS X.K mV):=by
 refine OpR.imp (OpR.or DR zY) fun x y H Q h=>?_
 obtain ⟨m,S,a,b,d,S',R,va,vb,e,q⟩:=h
 cases a with
 | int i=>
  cases b with
  | int j=>
   simp only [mV] at e
   split at e
   ·rename_i hc
    cases e
    simp only [gR,Bool.or_eq_true,bAE,decide_eq_true_eq] at hc
    exact .inl ⟨i,j,va.ints,vb.ints,hc,q m H _ (Aft.refl R) bu⟩
   ·cases e
  | _=>simp [mV] at e
 | tup xs=>
  cases b with
  | int k=>
   simp only [mV] at e
   split at e
   ·rename_i hc
    cases e
    obtain ⟨l,vs,rfl,hH,vd⟩:=va.tups
    have hl:=vd.length
    refine .inr ⟨l,k,vs,rfl,vb.ints,hH,hc.1.1,hc.1.2,fun z=>?_,by rw [<-hl];exact hc.2.2,gQ R (sd vd k.toNat) q⟩
    subst z
    have:xs=[]:=List.length_eq_zero_iff.mp hl
    subst this
    exact absurd hc.2.1 (by simp)
   ·cases e
  | _=>simp [mV] at e
 | _=>cases b <;> simp [mV] at e
theorem z6 (o:BOp):OpR X (binaryOp o.op) (rS X.K (bP o)):=by
 cases o with
 | add=>exact zZ
 | sub=>
  refine fH (C:=fun _ _=>True) (g:=fun i j=>i - j) (OpR.imp DQ fun x y H Q ⟨i,j,a,b,_,q⟩=>⟨i,j,a,b,q⟩) fun a b S d S' e=>?_
  cases a <;> cases b <;> simp [bP,IZ] at e
  exact ⟨_,_,rfl,rfl,trivial,e.1.symm,e.2.symm⟩
 | mul=>exact z5
 | mod=>
  refine fH DS fun a b S d S' e=>?_
  cases a <;> cases b <;> simp [bP,Ey] at e
  rename_i i j
  exact ⟨i,j,rfl,rfl,e.1,e.2.1.symm,e.2.2.symm⟩
 | fdiv=>
  refine fH zg fun a b S d S' e=>?_
  cases a <;> cases b <;> simp [bP,wH] at e
  rename_i i j
  exact ⟨i,j,rfl,rfl,e.1,e.2.1.symm,e.2.2.symm⟩
 | pow=>
  refine fH DT fun a b S d S' e=>?_
  cases a <;> cases b <;> simp [bP,Ez] at e
  rename_i i j
  exact ⟨i,j,rfl,rfl,e.1,e.2.1.symm,e.2.2.symm⟩
noncomputable def uh (p:Int->Int->Bool):D->D->Sto->Option (D × Sto)
 | .int i,.int j,S=>some (.bl (p i j),S)
 | _,_,_=>none
noncomputable def j6:D->Bool
 | .non=>true
 | _=>false
noncomputable def isB (neg:Bool):D->D->Sto->Option (D × Sto)
 | d,.non,S=>some (.bl (neg != j6 d),S)
 | .bl a,.bl b,S=>some (.bl (neg != (a == b)),S)
 | _,_,_=>none
noncomputable def cg:D->Bool
 | .non=>true | .bl _=>true | .int _=>true | .str _=>true | _=>false
noncomputable def eqF:D->D->Bool
 | .non,.non=>true
 | .bl a,.bl b=>a == b
 | .bl a,.int b=>(if a then 1 else 0) == b
 | .int a,.bl b=>a == (if b then 1 else 0)
 | .int a,.int b=>a == b
 | .str a,.str b=>a == b
 | _,_=>false
noncomputable def inF (x:D) (ds:List D):Bool:=ds.any fun y=>eqF y x
noncomputable def inS (neg:Bool) (x y:D) (S:Sto):Option (D × Sto):=match aj y S with
 | some (_,ds)=>if cg x=true/\ds.all cg=true then some (.bl (neg != inF x ds),S) else none
 | none=>none
inductive COp where | eq | ne | lt | le | gt | ge | is | isnot | isin | notin
noncomputable def av:COp->D->D->Sto->Option (D × Sto)
 | .eq=>eqS | .ne=>neS
 | .lt=>uh fun i j=>decide (i < j) | .le=>uh fun i j=>decide (i<=j) | .gt=>uh fun i j=>decide (j < i) | .ge=>uh fun i j=>decide (j<=i)
 | .is=>isB false | .isnot=>isB true | .isin=>inS false | .notin=>inS true
noncomputable def COp.op:COp->CmpOp
 | .eq=>.Eq | .ne=>.NotEq | .lt=>.Lt | .le=>.LtE | .gt=>.Gt | .ge=>.GtE | .is=>.Is | .isnot=>.IsNot | .isin=>.In | .notin=>.NotIn
theorem dP {op:CmpOp} {p:Int->Int->Bool} (ho:OpR X (compareOp op) (rI0 fun i j=>.bl (p i j))):OpR X (compareOp op) (rS X.K (uh p)):=by
 refine OpR.imp ho fun x y H Q h=>?_
 obtain ⟨m,S,a,b,d,S',R,va,vb,e,q⟩:=h
 cases a <;> cases b <;> simp [uh] at e
 obtain ⟨rfl,rfl⟩:=e
 exact ⟨_,_,va.ints,vb.ints,q m H _ (Aft.refl R) cf⟩
theorem jC {x:D} {v:V} (h:VD K m H x v) (f:cg x=true):dq v=true:=by
 cases x <;> simp [cg] at f
 ·cases h.nons;rfl
 ·cases h.bls;rfl
 ·cases h.ints;rfl
 ·cases h.strs;rfl
theorem wJ {x y:D} {v w:V} (h:VD K m H x v) (f:cg x=true) (h':VD K m H y w) (f':cg y=true):eqV v w=eqF x y:=by
 cases x <;> simp [cg] at f <;> cases y <;> simp [cg] at f' <;> simp [VD] at h h' <;> subst h <;> subst h' <;> rfl
theorem gS:∀ {ds:List D} {vs:List V},VDs K m H ds vs->ds.all cg=true->vs.all dq=true
 | [],vs,h,_=>by rw [VDs] at h;rw [h];rfl
 | d::ds,vs,h,f=>by
  rw [VDs] at h
  obtain ⟨x,r,rfl,p,q⟩:=h
  rw [List.all_cons,bAE] at f
  rw [List.all_cons,jC p f.1,gS q f.2];rfl
theorem qo {x:D} {v:V} (h:VD K m H x v) (f:cg x=true):∀ {ds:List D} {vs:List V},VDs K m H ds vs->ds.all cg=true->inV v vs=inF x ds
 | [],vs,h,_=>by rw [VDs] at h;rw [h];rfl
 | d::ds,vs,h',f'=>by
  rw [VDs] at h'
  obtain ⟨y,r,rfl,p,q⟩:=h'
  rw [List.all_cons,bAE] at f'
  have ih:=qo h f q f'.2
  unfold inV inF at ih ⊢
  rw [List.any_cons,List.any_cons,wJ p f'.1 h f,ih]
theorem lG {x:D} {v:V} (h:VD K m H x v) (f:cg x=true):∀ {ds:List D} {vs:List V},VDs K m H ds vs->ds.all cg=true->(vs.countP fun z=>eqV z v)=ds.countP fun z=>eqF z x
 | [],vs,h,_=>by rw [VDs] at h;rw [h];rfl
 | d::ds,vs,h',f'=>by
  rw [VDs] at h'
  obtain ⟨y,r,rfl,p,q⟩:=h'
  rw [List.all_cons,bAE] at f'
  rw [List.countP_cons,List.countP_cons,wJ p f'.1 h f,lG h f q f'.2]
theorem mW {tu:Bool} {a:Addr} {vs:List V} (h:SqB K tu H a vs):SqL K H a vs\/SqT K H a vs:=by
 cases tu with
 | false=>exact .inl h
 | true=>exact .inr (.of h)
theorem EA:OpR X (compareOp .In) (rS X.K (inS false)):=by
 refine OpR.imp tP fun x y H Q h=>?_
 obtain ⟨m,S,a,b,d,S',R,va,vb,e,q⟩:=h
 unfold inS at e
 split at e
 ·rename_i tu ds hi
  split at e
  ·rename_i hf
   cases e
   obtain ⟨p,vs,rfl,sq,vds⟩:=dD R vb hi
   refine ⟨p,vs,rfl,mW sq,jC va hf.1,gS vds hf.2,q m H _ (Aft.refl R) ?_⟩
   rw [if_neg (by decide),qo va hf.1 vds hf.2]
   simpa using cf
  ·cases e
 ·cases e
theorem ui:OpR X (compareOp .NotIn) (rS X.K (inS true)):=by
 refine OpR.imp ml fun x y H Q h=>?_
 obtain ⟨m,S,a,b,d,S',R,va,vb,e,q⟩:=h
 unfold inS at e
 split at e
 ·rename_i tu ds hi
  split at e
  ·rename_i hf
   cases e
   obtain ⟨p,vs,rfl,sq,vds⟩:=dD R vb hi
   refine ⟨p,vs,rfl,mW sq,jC va hf.1,gS vds hf.2,q m H _ (Aft.refl R) ?_⟩
   rw [if_pos rfl,qo va hf.1 vds hf.2]
   simpa using cf
  ·cases e
 ·cases e
theorem wK {d:D} {v:V} (h:VD K m H d v):decide (v=V.non)=j6 d:=by
 cases d with
 | non=>cases h.nons;rfl
 | bl _=>cases h.bls;rfl
 | int _=>cases h.ints;rfl
 | str _=>cases h.strs;rfl
 | tup _=>obtain ⟨_,_,e,_⟩:=h.tups;subst e;rfl
 | ref _=>obtain ⟨_,_,e⟩:=h.refs;subst e;rfl
theorem EB:OpR X (compareOp .Is) (rS X.K (isB false)):=by
 refine OpR.imp (OpR.or DV Ea) fun x y H Q h=>?_
 obtain ⟨m,S,a,b,d,S',R,va,vb,e,q⟩:=h
 cases b with
 | non=>
  simp [isB] at e
  obtain ⟨rfl,rfl⟩:=e
  exact .inl ⟨vb.nons,q m H _ (Aft.refl R) (by rw [wK va];exact cf)⟩
 | bl j=>
  cases a with
  | bl i=>
   simp [isB] at e
   obtain ⟨rfl,rfl⟩:=e
   exact .inr ⟨i,j,va.bls,vb.bls,q m H _ (Aft.refl R) cf⟩
  | _=>simp [isB] at e
 | _=>cases a <;> simp [isB] at e
theorem uj:OpR X (compareOp .IsNot) (rS X.K (isB true)):=by
 refine OpR.imp (OpR.or zh tX) fun x y H Q h=>?_
 obtain ⟨m,S,a,b,d,S',R,va,vb,e,q⟩:=h
 cases b with
 | non=>
  simp [isB] at e
  obtain ⟨rfl,rfl⟩:=e
  exact .inl ⟨vb.nons,q m H _ (Aft.refl R) (by rw [wK va];exact cf)⟩
 | bl j=>
  cases a with
  | bl i=>
   simp [isB] at e
   obtain ⟨rfl,rfl⟩:=e
   exact .inr ⟨i,j,va.bls,vb.bls,q m H _ (Aft.refl R) (by simpa [bne] using cf)⟩
  | _=>simp [isB] at e
 | _=>cases a <;> simp [isB] at e
theorem fI (hu:X.A.units+64 < cLine) (o:COp):OpR X (compareOp o.op) (rS X.K (av o)):=by
 cases o with
 | eq=>exact Ew hu
 | ne=>exact Ex hu
 | lt=>exact dP Iz
 | le=>exact dP IA
 | gt=>exact dP IB
 | ge=>exact dP IC
 | is=>exact EB
 | isnot=>exact uj
 | isin=>exact EA
 | notin=>exact ui
end
end Ev
namespace Ev
open PySem PySem.Spec PyProof.Rows L2
section
variable {X:Cx} {K:PySem.W.Frag} {m:List Addr} {H:Hp} {S:Sto}
noncomputable def ixS (d i:D) (S:Sto):Option (D × Sto):=match i with
 | .int k=>(match d with
  | .str z=>if z.length<=100000 then (atI z.cps.toList k).map fun c=>(.str ⟨#[c]⟩,S) else none
  | d=>(match aj d S with
   | some (_,ds)=>(atI ds k).map fun x=>(x,S)
   | none=>none))
 | _=>none
theorem EC {ds:List D} {vs:List V} {k:Int} {d:D} (h:VDs K m H ds vs) (e:atI ds k=some d):∃ v,atI vs k=some v/\VD K m H d v:=by
 unfold atI at e ⊢
 rw [<-h.length]
 cases hi:ixN ds.length k with
 | none=>rw [hi] at e;cases e
 | some j=>
  rw [hi] at e
  exact h.get e
theorem wL {ds:List D} {tu:Bool} {a:Addr} {vs:List V} {k:Int} {d:D} {Q:VK} (sq:SqB K tu H a vs) (vd:VDs K m H ds vs) (e:atI ds k=some d) (q:∀ v,VD K m H d v->Q v H):rIx K (.ref a) (.int k) H Q:=by
 obtain ⟨v,ev,vv⟩:=EC vd e
 cases tu with
 | false=>exact .inl ⟨a,vs,k,v,rfl,rfl,sq,ev,q v vv⟩
 | true=>exact .inr (.inl ⟨a,vs,k,v,rfl,rfl,.of sq,ev,q v vv⟩)
theorem KW:IxR X (rS X.K ixS):=by
 intro value slice pins s σ H x y v u Q I rx ry h hs
 refine vO value slice pins s σ H x y v u Q I rx ry ?_ hs
 obtain ⟨m,S,a,b,d,S',R,va,vb,e,q⟩:=h
 cases b with
 | int k=>
  cases vb.ints
  have main:∀ r,aj a S=some r->(atI r.2 k).map (fun x=>(x,S))=some (d,S')->rIx X.K x (.int k) H Q:=by
   intro r hi e
   cases ha:atI r.2 k with
   | none=>rw [ha] at e;cases e
   | some z=>
    rw [ha] at e
    cases e
    obtain ⟨p,vs,rfl,sq,vds⟩:=dD (tu:=r.1) (ds:=r.2) R va hi
    exact wL sq vds ha fun v vv=>q m H v (Aft.refl R) vv
  cases a with
  | str z=>
   simp only [ixS] at e
   split at e
   ·rename_i hl
    cases hc:atI z.cps.toList k with
    | none=>rw [hc] at e;cases e
    | some c=>
     rw [hc] at e
     cases e
     exact .inr (.inr ⟨z,k,c,va.strs,rfl,by rw [sizeLine_eq];omega,hc,q m H _ (Aft.refl R) mR⟩)
   ·cases e
  | tup ds=>exact main (true,ds) rfl e
  | ref n=>
   simp only [ixS] at e
   cases hi:aj (.ref n) S with
   | none=>rw [hi] at e;cases e
   | some r=>rw [hi] at e;exact main r hi e
  | _=>simp [ixS,aj] at e
 | _=>simp [ixS] at e
noncomputable def qp (x:XA) (y:XE):XE:=fun ρ S=>bnd (x ρ S) fun ds S1=>bnd (y ρ S1) fun i S2=>match i with
 | .int k=>(atI ds k).map fun d=>(d,S2)
 | _=>none
theorem ED {x:XA} {y:XE} {σ:L2.St} {H:Hp} {Q:VK} (h:tE K (qp x y) σ H Q):tOp (rIx K) (dN K x) (tE K y) σ H Q:=by
 obtain ⟨m,ρ,S,d,S',E,R,e,q⟩:=h
 obtain ⟨ds,S1,e1,e⟩:=aa e
 obtain ⟨i,S2,e2,e⟩:=aa e
 refine ⟨m,ρ,S,ds,S1,E,R,e1,fun m1 H1 a vs A1 sq n1 n2 n3 vd=>⟨m1,ρ,S1,i,S2,E.mono R A1.ext,A1.rel,e2,fun m2 H2 w A2 vb=>?_⟩⟩
 cases i with
 | int k=>
  cases vb.ints
  dsimp only at e
  cases ha:atI ds k with
  | none=>rw [ha] at e;cases e
  | some z=>
   rw [ha] at e
   cases e
   exact wL (tu:=false) (show SqL K H2 a vs from SqL.of (A2.ext.keep _ _ sq n1)) (vd.mono A1.rel A2.ext) ha fun v vv=>q m2 H2 v (A1.trans A2) vv
 | _=>cases e
noncomputable def aX (ds:List D) (lo hi:Option Int):List D:=(ds.drop (HT.sIx ds.length 0 lo)).take (HT.sIx ds.length ds.length hi - HT.sIx ds.length 0 lo)
theorem qq {ds:List D} {vs:List V} (h:VDs K m H ds vs) (lo hi:Option Int):VDs K m H (aX ds lo hi) (jN vs lo hi):=by
 unfold aX jN
 rw [<-h.length]
 exact (h.drop _).take _
noncomputable def slS (lo hi:Option Int) (d:D) (S:Sto):Option (D × Sto):=match d with
 | .tup ds=>some (.tup (aX ds lo hi),S)
 | .ref n=>(match am S n with
  | some ds=>some (.ref S.length,S++[.lst (aX ds lo hi)])
  | none=>none)
 | _=>none
noncomputable def rSl (K:PySem.W.Frag):V->Option Int->Option Int->Hp->VK->Prop:=fun v lo hi H Q=>∃ m S a d S',Rel K m S H/\VD K m H a v/\slS lo hi a S=some (d,S')/\∀ m' H' u,Aft K m H S' m' H'->VD K m' H' d u->Q u H'
theorem qr {vs:List V} {lo hi:Option Int} (h:HT.sIx vs.length 0 lo=0/\HT.sIx vs.length vs.length hi=vs.length):jN vs lo hi=vs:=by
 unfold jN
 rw [h.1,h.2];simp
theorem KY:SlR X (rSl X.K):=by
 intro pins s σ H x v vl vu lo hi sl Q I rx hs pl pu h
 refine (SlR.or zH zt) pins s σ H x v vl vu lo hi sl Q I rx hs pl pu ?_
 obtain ⟨m,S,a,d,S',R,va,e,q⟩:=h
 cases a with
 | tup ds=>
  cases e
  obtain ⟨p,vs,rfl,sq,vds⟩:=va.tups
  refine .inl ⟨p,vs,rfl,.of sq,fun hw=>?_,fun _=>gQ R (qq vds lo hi) q⟩
  have:=qq vds lo hi
  rw [qr hw] at this
  exact q m H _ (Aft.refl R) (mS sq this)
 | ref n=>
  simp only [slS] at e
  cases hn:am S n with
  | none=>rw [hn] at e;cases e
  | some ds=>
   rw [hn] at e
   cases e
   obtain ⟨p,vs,hp,sq,vds⟩:=R.seq hn
   obtain ⟨p',hp',rfl⟩:=va.refs
   rw [hp] at hp'
   cases hp'
   exact .inr ⟨p,vs,rfl,sq,zV R (qq vds lo hi) q⟩
 | _=>cases e
noncomputable abbrev XO:=Rho->Sto->Option (Option Int × Sto)
noncomputable def tOI (K:PySem.W.Frag) (x:XO):TO:=fun σ H Q=>∃ m ρ S o S',EnvR K m H ρ σ/\Rel K m S H/\x ρ S=some (o,S')/\∀ m' H',Aft K m H S' m' H'->Q o H'
noncomputable def qt:XO:=fun _ S=>some (none,S)
noncomputable def qu (x:XE):XO:=fun ρ S=>bnd (x ρ S) fun d S1=>match d with
 | .int i=>some (some i,S1)
 | _=>none
theorem z7 {σ:L2.St} {H:Hp} {Q:Option Int->Hp->Prop} (h:tOI K qt σ H Q):rE σ H Q:=by
 obtain ⟨m,ρ,S,o,S',E,R,e,q⟩:=h
 cases e
 exact q m H (Aft.refl R)
theorem z8 {x:XE} {σ:L2.St} {H:Hp} {Q:Option Int->Hp->Prop} (h:tOI K (qu x) σ H Q):CU (tE K x) σ H Q:=by
 obtain ⟨m,ρ,S,o,S',E,R,e,q⟩:=h
 obtain ⟨d,S1,e1,e⟩:=aa e
 refine ⟨m,ρ,S,d,S1,E,R,e1,fun m1 H1 v A1 vd=>?_⟩
 cases d with
 | int i=>cases e;exact ⟨i,vd.ints,q m1 H1 A1⟩
 | _=>cases e
theorem PO.imp {e:Option Expr} {t t':TO} (h:PO X e t) (f:∀ σ H Q,t' σ H Q->t σ H Q):PO X e t':=fun pins s σ H Q I q=>h pins s σ H Q I (f σ H Q q)
noncomputable def xSl (x:XE) (lo hi:XO):XE:=fun ρ S=>bnd (x ρ S) fun d S1=>bnd (lo ρ S1) fun l S2=>bnd (hi ρ S2) fun h S3=>slS l h d S3
theorem I0 {x:XE} {lo hi:XO} {σ:L2.St} {H:Hp} {Q:VK} (h:tE K (xSl x lo hi) σ H Q):tSl (rSl K) (tE K x) (tOI K lo) (tOI K hi) σ H Q:=by
 obtain ⟨m,ρ,S,d,S',E,R,e,q⟩:=h
 obtain ⟨a,S1,e1,e⟩:=aa e
 obtain ⟨l,S2,e2,e⟩:=aa e
 obtain ⟨u,S3,e3,e⟩:=aa e
 refine ⟨m,ρ,S,a,S1,E,R,e1,fun m1 H1 v A1 vd=>⟨m1,ρ,S1,l,S2,E.mono R A1.ext,A1.rel,e2,fun m2 H2 A2=>⟨m2,ρ,S2,u,S3,E.mono R (A1.trans A2).ext,A2.rel,e3,fun m3 H3 A3=>?_⟩⟩⟩
 exact ⟨m3,S3,a,d,S',A3.rel,vd.mono A1.rel (A2.trans A3).ext,e,fun m4 H4 w A4 vw=>q m4 H4 w (((A1.trans A2).trans A3).trans A4) vw⟩
noncomputable def mX (d:D) (S:Sto):Option (Bool × Sto):=match d with
 | .non=>some (false,S)
 | .bl b=>some (b,S)
 | .int i=>some (i != 0,S)
 | .str y=>if y.length<=100000 then some ((y.length:Int) != 0,S) else none
 | .tup ds=>some (!ds.isEmpty,S)
 | .ref n=>(match am S n with
  | some ds=>some (!ds.isEmpty,S)
  | none=>none)
theorem j7 {ds:List D} {vs:List V} (h:VDs K m H ds vs):ds.isEmpty=vs.isEmpty:=by
 have:=h.length
 cases ds <;> cases vs <;> simp at this ⊢
theorem EF {d:D} {v:V} {b:Bool} {S':Sto} (R:Rel K m S H) (vd:VD K m H d v) (e:mX d S=some (b,S')):S'=S/\zk K v H b:=by
 cases d with
 | non=>cases e;cases vd.nons;exact ⟨rfl,rfl⟩
 | bl _=>cases e;cases vd.bls;exact ⟨rfl,rfl⟩
 | int _=>cases e;cases vd.ints;exact ⟨rfl,rfl⟩
 | str y=>
  simp only [mX] at e
  split at e
  ·rename_i hl
   cases e
   cases vd.strs
   exact ⟨rfl,by rw [sizeLine_eq];omega,rfl⟩
  ·cases e
 | tup ds=>
  cases e
  obtain ⟨a,vs,rfl,sq,vds⟩:=vd.tups
  exact ⟨rfl,.inr (.inl ⟨vs,.of sq,by rw [j7 vds]⟩)⟩
 | ref n=>
  simp only [mX] at e
  cases hn:am S n with
  | none=>rw [hn] at e;cases e
  | some ds=>
   rw [hn] at e
   cases e
   obtain ⟨p,vs,hp,sq,vds⟩:=R.seq hn
   obtain ⟨p',hp',rfl⟩:=vd.refs
   rw [hp] at hp'
   cases hp'
   exact ⟨rfl,.inl ⟨vs,sq,by rw [j7 vds]⟩⟩
noncomputable def z9 (x:XE):XT:=fun ρ S=>bnd (x ρ S) fun d S1=>mX d S1
theorem EG {x:XE} {σ:L2.St} {H:Hp} {Q:Bool->Hp->Prop} (h:tT K (z9 x) σ H Q):(tE K x) σ H fun v H'=>∃ k,zk K v H' k/\Q k H':=by
 obtain ⟨m,ρ,S,b,S',E,R,e,q⟩:=h
 obtain ⟨d,S1,e1,e⟩:=aa e
 refine ⟨m,ρ,S,d,S1,E,R,e1,fun m1 H1 v A1 vd=>?_⟩
 obtain ⟨rfl,t⟩:=EF A1.rel vd e
 exact ⟨b,t,q m1 H1 A1⟩
noncomputable def xB (x:XE):XT:=fun ρ S=>bnd (x ρ S) fun d S1=>match d with
 | .bl b=>some (b,S1)
 | _=>none
theorem I8 {x:XE} {t:TE} {σ:L2.St} {H:Hp} {Q:Bool->Hp->Prop} (h:tT K (xB x) σ H Q):(tE K x) σ H fun v H'=>∃ k,v = .bl k/\Q k H':=by
 obtain ⟨m,ρ,S,b,S',E,R,e,q⟩:=h
 obtain ⟨d,S1,e1,e⟩:=aa e
 refine ⟨m,ρ,S,d,S1,E,R,e1,fun m1 H1 v A1 vd=>?_⟩
 cases d with
 | bl k=>cases e;exact ⟨b,vd.bls,q m1 H1 A1⟩
 | _=>cases e
noncomputable def dQ (_:Bool) (ds:List D) (S:Sto):Option (D × Sto):=some (.int ds.length,S)
noncomputable def iJ (_:Bool) (ds:List D) (S:Sto):Option (D × Sto):=some (.tup ds,S)
noncomputable def uk:D->Bool
 | .bl _=>true
 | _=>false
noncomputable def kY:D->Bool
 | .bl b=>b
 | _=>false
noncomputable def kZ (tu:Bool) (ds:List D) (S:Sto):Option (D × Sto):=if tu=false/\ds.all uk=true then some (.bl (ds.all kY),S) else none
noncomputable def oK (tu:Bool) (ds:List D) (S:Sto):Option (D × Sto):=if tu=false/\ds.all uk=true then some (.bl (ds.any kY),S) else none
noncomputable def r1 (r:V->Hp->VK->Prop):List V->Hp->VK->Prop
 | [x],H,Q=>r x H Q
 | _,_,_=>False
theorem cb {r:V->Hp->VK->Prop} {xs:List V} {H:Hp} {Q:VK} (h:r1 r xs H Q):∃ x,xs=[x]/\r x H Q:=by
 match xs,h with
 | [x],h=>exact ⟨x,rfl,h⟩
theorem ul:aN X (.builtin "len") (r1 (rSq X.K dQ)):=by
 refine aN.imp mo fun xs H Q h=>?_
 obtain ⟨_,rfl,m,S,tu,ds,a,vs,d,S',R,rfl,sq,vd,e,q⟩:=cb h
 cases e
 exact ⟨a,vs,rfl,mW sq,q m H _ (Aft.refl R) (by rw [vd.length];exact bu)⟩
theorem um:aN X (.type "tuple") (r1 (rSq X.K iJ)):=by
 refine aN.imp kS fun xs H Q h=>?_
 obtain ⟨_,rfl,m,S,tu,ds,a,vs,d,S',R,rfl,sq,vd,e,q⟩:=cb h
 cases e
 cases tu with
 | false=>exact ⟨a,vs,rfl,.inl ⟨sq,gQ R vd q⟩⟩
 | true=>exact ⟨a,vs,rfl,.inr ⟨.of sq,q m H _ (Aft.refl R) (mS sq vd)⟩⟩
theorem qv:∀ {ds:List D} {vs:List V},VDs K m H ds vs->ds.all uk=true->vs=(ds.map kY).map V.bl
 | [],vs,h,_=>by rw [VDs] at h;rw [h];rfl
 | d::ds,vs,h,f=>by
  rw [VDs] at h
  obtain ⟨x,r,rfl,p,q⟩:=h
  rw [List.all_cons,bAE] at f
  cases d with
  | bl b=>rw [p.bls,qv q f.2];rfl
  | _=>simp [uk] at f
theorem EH (ds:List D):(ds.map kY).all id=ds.all kY:=by rw [List.all_map];rfl
theorem EI (ds:List D):(ds.map kY).any id=ds.any kY:=by rw [List.any_map];rfl
theorem uo (hc:X.calm=true):aN X (.builtin "all") (r1 (rSq X.K kZ)):=by
 refine aN.imp (tV hc) fun xs H Q h=>?_
 obtain ⟨_,rfl,m,S,tu,ds,a,vs,d,S',R,rfl,sq,vd,e,q⟩:=cb h
 unfold kZ at e
 split at e
 ·rename_i hf
  cases e
  obtain ⟨rfl,hf⟩:=hf
  refine ⟨a,ds.map kY,rfl,?_,q m H _ (Aft.refl R) (by rw [EH];exact cf)⟩
  rw [<-qv vd hf];exact sq
 ·cases e
theorem uq (hc:X.calm=true):aN X (.builtin "any") (r1 (rSq X.K oK)):=by
 refine aN.imp (tW hc) fun xs H Q h=>?_
 obtain ⟨_,rfl,m,S,tu,ds,a,vs,d,S',R,rfl,sq,vd,e,q⟩:=cb h
 unfold oK at e
 split at e
 ·rename_i hf
  cases e
  obtain ⟨rfl,hf⟩:=hf
  refine ⟨a,ds.map kY,rfl,?_,q m H _ (Aft.refl R) (by rw [EI];exact cf)⟩
  rw [<-qv vd hf];exact sq
 ·cases e
noncomputable def rTm (K:PySem.W.Frag) (f:Bool->List D->Option (List D)):V->Hp->VK->Prop:=fun v H Q=>∃ m S tu ds a vs es,Rel K m S H/\v = .ref a/\SqB K tu H a vs/\VDs K m H ds vs/\f tu ds=some es ∧
 ∀ m' H' p ws,Aft K m H S m' H'->H' p=some (.lst ws)->p ∉ m'->(∀ b,b ∈ m->b ≠ p)->H p=none->VDs K m' H' es ws->Q (.ref p) H'
theorem j8:aN X (.type "list") (r1 (rTm X.K fun _ ds=>some ds)):=by
 refine aN.imp mq fun xs H Q h=>?_
 obtain ⟨_,rfl,m,S,tu,ds,a,vs,es,R,rfl,sq,vd,e,q⟩:=cb h
 cases e
 exact ⟨a,vs,rfl,mW sq,jB R vd q⟩
noncomputable def wM:D->D->Sto->Option (D × Sto)
 | .int i,.int j,S=>some (.int (if j > i then j else i),S)
 | _,_,_=>none
noncomputable def wN:D->D->Sto->Option (D × Sto)
 | .int i,.int j,S=>some (.int (if j < i then j else i),S)
 | _,_,_=>none
noncomputable def two (f:D->D->Sto->Option (D × Sto)):List D->Sto->Option (D × Sto)
 | [a,b],S=>f a b S
 | _,_=>none
theorem wP {a b:D} {vs:List V} (h:VDs K m H [a,b] vs):∃ v w,vs=[v,w]/\VD K m H a v/\VD K m H b w:=by
 rw [VDs] at h
 obtain ⟨v,r,rfl,p,q⟩:=h
 rw [VDs] at q
 obtain ⟨w,r',rfl,p',q'⟩:=q
 rw [VDs] at q'
 subst q'
 exact ⟨v,w,rfl,p,p'⟩
theorem EJ {a:D} {vs:List V} (h:VDs K m H [a] vs):∃ v,vs=[v]/\VD K m H a v:=by
 rw [VDs] at h
 obtain ⟨v,r,rfl,p,q⟩:=h
 rw [VDs] at q
 subst q
 exact ⟨v,rfl,p⟩
theorem oM {f:D->D->Sto->Option (D × Sto)} {as:List D} {r:D × Sto} (h:two f as S=some r):∃ a b,as=[a,b]/\f a b S=some r:=by
 match as,h with
 | [a,b],h=>exact ⟨a,b,rfl,h⟩
theorem qw (hc:X.calm=true):aN X (.builtin "max") (rSA X.K (two wM)):=by
 refine aN.imp (tJ hc) fun xs H Q h=>?_
 obtain ⟨m,S,as,d,S',R,vd,e,q⟩:=h
 obtain ⟨a,b,rfl,e2⟩:=oM e
 obtain ⟨v,w,rfl,p,p'⟩:=wP vd
 cases a <;> cases b <;> simp [wM] at e2
 obtain ⟨rfl,rfl⟩:=e2
 exact ⟨_,_,by rw [p.ints,p'.ints],q m H _ (Aft.refl R) bu⟩
theorem qx (hc:X.calm=true):aN X (.builtin "min") (rSA X.K (two wN)):=by
 refine aN.imp (tK hc) fun xs H Q h=>?_
 obtain ⟨m,S,as,d,S',R,vd,e,q⟩:=h
 obtain ⟨a,b,rfl,e2⟩:=oM e
 obtain ⟨v,w,rfl,p,p'⟩:=wP vd
 cases a <;> cases b <;> simp [wN] at e2
 obtain ⟨rfl,rfl⟩:=e2
 exact ⟨_,_,by rw [p.ints,p'.ints],q m H _ (Aft.refl R) bu⟩
inductive Ty where | int | bool | tuple | list | str
noncomputable def Ty.nm:Ty->String
 | .int => "int" | .bool => "bool" | .tuple => "tuple" | .list => "list" | .str => "str"
noncomputable def tyN (d:D) (S:Sto):Option String:=match d with
 | .non=>some "NoneType" | .bl _=>some "bool" | .int _=>some "int" | .str _=>some "str" | .tup _=>some "tuple"
 | .ref n=>(match S[n]? with
  | some (.lst _)=>some "list"
  | some (.frz _)=>some "list"
  | some (.dic _ _)=>some "dict"
  | none=>none)
noncomputable def eU (t:Ty) (n:String):Bool:=n == t.nm || (match t with | .int=>n == "bool" | _=>false)
noncomputable def iZ (t:Ty) (d:D) (S:Sto):Option (D × Sto):=(tyN d S).map fun n=>(.bl (eU t n),S)
theorem Aa (K:PySem.W.Frag) (t:Ty):(PySem.W.kitOne K (.type "NoneType") (.type t.nm)=some (eU t "NoneType"))/\(PySem.W.kitOne K (.type "bool") (.type t.nm)=some (eU t "bool"))/\(PySem.W.kitOne K (.type "int") (.type t.nm)=some (eU t "int")) ∧
  (PySem.W.kitOne K (.type "str") (.type t.nm)=some (eU t "str"))/\(PySem.W.kitOne K (.type "tuple") (.type t.nm)=some (eU t "tuple"))/\(PySem.W.kitOne K (.type "list") (.type t.nm)=some (eU t "list"))/\(PySem.W.kitOne K (.type "dict") (.type t.nm)=some (eU t "dict")):=by
 cases t <;> exact ⟨by kernel_rfl,by kernel_rfl,by kernel_rfl,by kernel_rfl,by kernel_rfl,by kernel_rfl,by kernel_rfl⟩
theorem Ja {d:D} {v:V} {n:String} (R:Rel K m S H) (vd:VD K m H d v) (e:tyN d S=some n):TyOf K H v (.type n):=by
 cases d with
 | non=>cases e;cases vd.nons;exact .non
 | bl _=>cases e;cases vd.bls;exact .bl _
 | int _=>cases e;cases vd.ints;exact .int _
 | str _=>cases e;cases vd.strs;exact .str _
 | tup ds=>cases e;obtain ⟨a,vs,rfl,sq,_⟩:=vd.tups;exact .tup sq
 | ref k=>
  simp only [tyN] at e
  obtain ⟨a,ha,rfl⟩:=vd.refs
  cases hk:S[k]? with
  | none=>rw [hk] at e;cases e
  | some o=>
   rw [hk] at e
   obtain ⟨a',ha',r⟩:=R.ob k o hk
   rw [ha] at ha'
   cases ha'
   cases o with
   | lst ds=>cases e;obtain ⟨vs,h,_⟩:=r;exact .lst h
   | frz ds=>cases e;obtain ⟨o,vs,h,_⟩:=r;exact .frz h
   | dic ks ds=>cases e;obtain ⟨vs,h,_⟩:=r;exact .dK h
theorem wQ {d:D} {n:String} (e:tyN d S=some n):n = "NoneType"\/n = "bool"\/n = "int"\/n = "str"\/n = "tuple"\/n = "list"\/n = "dict" := by
 cases d with
 | ref k=>
  simp only [tyN] at e
  cases hk:S[k]? with
  | none=>rw [hk] at e;cases e
  | some o=>rw [hk] at e;cases o <;> cases e <;> simp
 | _=>cases e <;> simp
theorem EK {n:String} (K:PySem.W.Frag) (t:Ty) (h:n = "NoneType"\/n = "bool"\/n = "int"\/n = "str"\/n = "tuple"\/n = "list"\/n = "dict"):PySem.W.kitOne K (.type n) (.type t.nm)=some (eU t n):=by
 obtain ⟨a,b,c,d,e,f,g⟩:=Aa K t
 rcases h with rfl | rfl | rfl | rfl | rfl | rfl | rfl <;> assumption
noncomputable def Jb (K:PySem.W.Frag) (t:Ty) (te:TE):TE:=tCB (CZ K) (eD te (eD (tC (.ty t.nm)) me))
theorem Ab {t:Ty} {x:XE} {σ:L2.St} {H:Hp} {Q:VK} (h:tE K (xUn (iZ t) x) σ H Q):Jb K t (tE K x) σ H Q:=by
 obtain ⟨m,ρ,S,d,S',E,R,e,q⟩:=h
 obtain ⟨a,S1,e1,e⟩:=aa e
 refine ⟨m,ρ,S,a,S1,E,R,e1,fun m1 H1 v A1 va=>?_⟩
 unfold iZ at e
 cases hn:tyN a S1 with
 | none=>rw [hn] at e;cases e
 | some n=>
  rw [hn] at e
  cases e
  exact ⟨v,t.nm,_,_,rfl,Ja A1.rel va hn,EK K t (wQ hn),q m1 H1 _ A1 cf⟩
end
end Ev
namespace Ev
open PySem PySem.Spec PyProof.Rows L2
open PySem.W (KasT kas_sort kas_asc kas_desc kas_tail3 kas_descPart kas_count kas_place kas_bin kas_rev kas_ask KatTups)
noncomputable def dR {α:Type} (lt:Nat->Nat->Bool):KasT α->α
 | .ret a=>a
 | .ask i j k=>dR lt (k (lt i j))
noncomputable def KT {α:Type} (n:Nat) (P:α->Prop):KasT α->Prop
 | .ret a=>P a
 | .ask i j k=>i < n/\j < n/\∀ b,KT n P (k b)
theorem KT.bind {α β:Type} {n:Nat} {P:α->Prop} {R:β->Prop} {f:α->KasT β} (hf:∀ a,P a->KT n R (f a)):∀ {t:KasT α},KT n P t->KT n R (t.bind f)
 | .ret a,h=>hf a h
 | .ask i j k,h=>⟨h.1,h.2.1,fun b=>KT.bind hf (h.2.2 b)⟩
theorem KT.run {α:Type} {n:Nat} {P:α->Prop} {lt:Nat->Nat->Bool}:∀ {t:KasT α},KT n P t->P (dR lt t)
 | .ret a,h=>h
 | .ask i j k,h=>KT.run (t:=k (lt i j)) (h.2.2 (lt i j))
theorem oO {α:Type} {n:Nat} {P:α->Prop} {lt:Nat->Nat->Bool} {cmp:Nat->Nat->(Bool->Shared->Prop)->Shared->Prop} {s:Shared} (hc:∀ i j,i < n->j < n->∀ C:Bool->Shared->Prop,C (lt i j) s->cmp i j C s) {Q:α->Shared->Prop} :
  ∀ {t:KasT α},KT n P t->Q (dR lt t) s->t.kasWp cmp Q s
 | .ret a,_,q=>q
 | .ask i j k,h,q=>hc i j h.1 h.2.1 _ (oO hc (h.2.2 (lt i j)) q)
noncomputable def Pm (n:Nat) (p:Array Nat):Prop:=p.Perm (List.toArray (List.range n))
theorem Pm.at {n i:Nat} {p:Array Nat} (h:Pm n p) (hn:0 < n):p.getD i 0 < n:=by
 by_cases hi:i < p.size
 ·have e:p.getD i 0=p[i]:=by simp [Array.getD,hi]
  rw [e]
  have hm:p[i] ∈ p:=Array.getElem_mem hi
  have:=h.mem_iff.mp hm
  simpa using this
 ·have e:p.getD i 0=0:=by simp [Array.getD,hi]
  omega
theorem Pm.rev {n i j:Nat} {p:Array Nat} (h:Pm n p):Pm n (kas_rev p i j):=(mirror_perm p i j _).trans h
theorem qy {n:Nat} {p:Array Nat} (h:Pm n p) (hn:0 < n):∀ f m,KT n (fun _=>True) (kas_asc p f m)
 | 0,_=>trivial
 | f+1,m=>⟨h.at hn,h.at hn,fun b=>by
  cases b with
  | true=>exact trivial
  | false=>exact qy h hn f (m+1)⟩
theorem jD {n:Nat} (hn:0 < n):∀ f (p:Array Nat) m q,Pm n p->KT n (fun r:Array Nat × Nat × Nat=>Pm n r.1) (kas_desc f p m q)
 | 0,p,m,q,h=>h
 | f+1,p,m,q,h=>⟨h.at hn,h.at hn,fun b=>by
  cases b with
  | true=>
   show KT n _ (if q > 0 then kas_desc f (kas_rev p (m - (q+1)) m) (m+1) 0 else kas_desc f p (m+1) 0)
   split
   ·exact jD hn f _ _ _ h.rev
   ·exact jD hn f _ _ _ h
  | false=>exact ⟨h.at hn,h.at hn,fun d=>by
   cases d with
   | true=>exact h
   | false=>exact jD hn f _ _ _ h⟩⟩
theorem oP {n:Nat} {p:Array Nat} (hn:0 < n) (h:Pm n p) (m r:Nat):KT n (fun r:Nat × Array Nat=>Pm n r.2) (kas_tail3 m r p):=KT.bind (P:=fun _=>True) (f:=fun m=>KasT.ret (m,kas_rev p 0 _)) (fun _ _=>(show KT n (fun r:Nat × Array Nat=>Pm n r.2) (KasT.ret (_,kas_rev p 0 _)) from h.rev)) (qy h.rev hn _ _)
theorem i0 {n:Nat} {p:Array Nat} (hn:0 < n) (h:Pm n p) (m r:Nat):KT n (fun r:Nat × Array Nat=>Pm n r.2) (kas_descPart m r p):=KT.bind (fun a ha=>by
 show KT n _ (if a.2.2 > 0 then _ else _)
 split
 ·exact oP hn (Pm.rev ha) _ _
 ·exact oP hn ha _ _) (jD hn _ _ _ _ h)
theorem wR {n:Nat} {p:Array Nat} (hn:0 < n) (h:Pm n p) (r:Nat):KT n (fun r:Nat × Array Nat=>Pm n r.2) (kas_count r p):=KT.bind (fun a _=>by
 show KT n _ (if (a == r)=true then _ else if a > 1 then _ else _)
 split
 ·exact h
 ·split
  ·exact ⟨h.at hn,h.at hn,fun b=>by
    cases b with
    | true=>exact h
    | false=>exact i0 hn h.rev _ _⟩
  ·exact i0 hn h _ _) (qy h hn _ _)
theorem j9 {n:Nat} {p:Array Nat} (hn:0 < n) (h:Pm n p) (m:Nat):∀ f l r,KT n (fun _=>True) (kas_place p m f l r)
 | 0,_,_=>trivial
 | f+1,l,r=>by
  show KT n _ (if l ≥ r then _ else _)
  split
  ·exact trivial
  ·exact ⟨h.at hn,h.at hn,fun b=>by
    cases b with
    | true=>exact j9 hn h m f _ _
    | false=>exact j9 hn h m f _ _⟩
theorem wU {n:Nat} (hn:0 < n):∀ f (p:Array Nat) m,Pm n p->KT n (Pm n) (kas_bin f p m)
 | 0,p,_,h=>h
 | f+1,p,m,h=>KT.bind (fun l _=>wU hn f _ _ ((bubble_perm p m _).trans h)) (j9 hn h m _ _ _)
theorem mY {n:Nat} (hn:0 < n):KT n (Pm n) (kas_sort n):=KT.bind (fun r hr=>by
 show KT n _ (if r.1 < n then _ else _)
 split
 ·exact wU hn _ _ _ hr
 ·exact hr) (wR hn (Array.Perm.refl _) n)
section
variable {prog:Program} {w:World} {A:Around} {E:Value->Shared->Prop} {s:Shared}
theorem mZ {a:Addr} {vs:List Value} {n:Nat} {P:PySem.Fin->Shared->Prop} (ho:s.heap.get? a=some (seqObj "list" vs.toArray n)) (h64:vs.length < 64) (κ:SortKind) (lt:Nat->Nat->Bool)
  (hk:2<=vs.length->∀ (Q:SortKind->Shared->Prop),Q κ { s with heap:=((s.heap.update a (Obj.mapSeq fun _=>#[])).push (seqObj "tuple" vs.toArray 0)).push (seqObj "list" #[] 0) }->wpAny (model prog w) A (keyKind' vs.toArray) Q E { s with heap:=((s.heap.update a (Obj.mapSeq fun _=>#[])).push (seqObj "tuple" vs.toArray 0)).push (seqObj "list" #[] 0) })
  (hlt:∀ i j,i < vs.length->j < vs.length->∀ C:Bool->Shared->Prop,C (lt i j) { s with heap:=((s.heap.update a (Obj.mapSeq fun _=>#[])).push (seqObj "tuple" vs.toArray 0)).push (seqObj "list" #[] 0) } ->
   kas_ask prog w A κ vs i j C { s with heap:=((s.heap.update a (Obj.mapSeq fun _=>#[])).push (seqObj "tuple" vs.toArray 0)).push (seqObj "list" #[] 0) })
  (h:P (.done (.ret .none)) { s with heap:=sortedHeap s.heap a vs (if vs.length < 2 then vs.toArray else List.toArray ((dR lt (kas_sort vs.length)).toList.map fun i=>vs.getD i Value.none)) }) :
  wpAny (model prog w) A (Builtin.«list.sort» ⟨[.ref a],[]⟩) P E s:=by
 rw [list_sort_plain]
 have ha:a < s.heap.objs.size:=Heap.lt_size ho
 refine wpAny_bind (listItems_at ho rfl ?_)
 refine wpAny_bind (listUpdate_at ho rfl ?_)
 obtain ⟨e1,ho1⟩:∃ e1,(s.heap.update a (Obj.mapSeq fun _=>#[])).get? a=some (seqObj "list" #[] e1):=⟨_,get?_update_seq ho (fun _=>#[])⟩
 refine wpAny_bind (seqEpoch_at ho1 rfl ?_)
 refine wpAny_bind (wpAny_newTuple ?_)
 refine wpAny_bind (wpAny_newList ?_)
 refine wpAny_holding ?_
 have ho6:(((s.heap.update a (Obj.mapSeq fun _=>#[])).push (seqObj "tuple" vs.toArray 0)).push (seqObj "list" #[] 0)).get? a=some (seqObj "list" #[] e1):=by
  rw [Heap.get?_push_ne _ _ _ (by rw [size_push',Heap.size_update];exact Nat.ne_of_lt (Nat.lt_succ_of_lt ha)),Heap.get?_push_ne _ _ _ (by rw [Heap.size_update];exact Nat.ne_of_lt ha)]
  exact ho1
 show wpAny (model prog w) A _ P E { s with heap:=((s.heap.update a (Obj.mapSeq fun _=>#[])).push (seqObj "tuple" vs.toArray 0)).push (seqObj "list" #[] 0) }
 dsimp only
 have hsz:vs.toArray.size=vs.length:=by simp
 by_cases h2:vs.toArray.size < 2
 ·rw [if_pos h2,if_pos h2]
  refine wpAny_bind (wpAny_pure ?_)
  rw [StateT.run_pure]
  refine wpAny_bind (wpAny_pure ?_)
  dsimp only
  refine wpAny_bind (seqEpoch_at ho6 rfl ?_)
  refine wpAny_bind (listUpdate_at ho6 rfl ?_ (hsz2:=by rw [Array.size_map];show (pairsOf vs).size<=_;rw [pairsOf_size,sizeLine_eq];omega))
  simp only [bne_self_eq_false,Bool.false_eq_true,if_false]
  rw [if_pos (by rw [<-hsz];exact h2)] at h
  have e:Array.map (fun x:Keyed=>x.2) (vs.toArray.zip vs.toArray)=vs.toArray:=by
   apply Array.toList_inj.mp
   rw [Array.toList_map,Array.toList_zip,List.map_snd_zip (by simp)]
  refine wpAny_pure ?_
  show P _ { s with heap:=sortedHeap s.heap a vs (Array.map (fun x:Keyed=>x.2) (vs.toArray.zip vs.toArray)) }
  rw [e]
  exact h
 ·have h2':2<=vs.length:=by omega
  rw [if_neg h2,if_neg h2]
  rw [if_neg (by omega)] at h
  refine wpAny_bind (hk h2' _ ?_)
  refine wpAny_bind (wpAny_mono (PySem.W.kat_run (κ:=κ) (ks:=vs) (Q:=fun st' s'=>s'={ s with heap:=((s.heap.update a (Obj.mapSeq fun _=>#[])).push (seqObj "tuple" vs.toArray 0)).push (seqObj "list" #[] 0) }/\arrOf st'=(dR lt (kas_sort vs.length)).map (PySem.W.kas_item (vs.toArray.zip vs.toArray))/\(dR lt (kas_sort vs.length)).size=vs.length/\failedOf st'=none)
   (G:=fun p s'=>s'={ s with heap:=((s.heap.update a (Obj.mapSeq fun _=>#[])).push (seqObj "tuple" vs.toArray 0)).push (seqObj "list" #[] 0) }/\p=dR lt (kas_sort vs.length)) rfl h2' h64 (fun p st' s' a1 a2 a3 a4=>⟨a4.1,a4.2 ▸ a2,a4.2 ▸ a1,a3⟩) (oO hlt (mY (by omega)) ⟨rfl,rfl⟩)) ?_ fun _ _ e=>e)
  rintro ⟨⟨⟩,st'⟩ s' ⟨rfl,har,hsz',hf⟩
  dsimp only
  have hout:=PySem.W.kat_snds rfl har
  refine wpAny_bind (seqEpoch_at ho6 rfl ?_)
  rw [hout]
  refine wpAny_bind (listUpdate_at ho6 rfl ?_ (hsz2:=by rw [List.size_toArray,List.length_map,Array.length_toList,hsz',sizeLine_eq];omega))
  rw [hf]
  simp only [bne_self_eq_false,Bool.false_eq_true,if_false]
  exact wpAny_pure h
end
section
variable {prog:Program} {w:World} {A:Around} {E:Value->Shared->Prop} {s:Shared}
theorem ur {l:Addr} {vs:List Value} {Q:Value->Shared->Prop} (hl:s.heap.IsList l vs.toArray) (h64:vs.length < 64) (κ:SortKind) (lt:Nat->Nat->Bool)
  (hk:2<=vs.length->∀ (A:Around) (s':Shared),(∀ b o,s.heap.get? b=some o->s'.heap.get? b=some o)->∀ (E:Value->Shared->Prop) (Q:SortKind->Shared->Prop),Q κ s'->wpAny (model prog w) A (keyKind' vs.toArray) Q E s')
  (hlt:∀ (A:Around) (s':Shared),(∀ b o,s.heap.get? b=some o->s'.heap.get? b=some o)->∀ i j,i < vs.length->j < vs.length->∀ C:Bool->Shared->Prop,C (lt i j) s'->kas_ask prog w A κ vs i j C s')
  (h:Q (.ref (s.heap.objs.size+1)) { s with heap:=sortedAll s.heap vs (if vs.length < 2 then vs.toArray else List.toArray ((dR lt (kas_sort vs.length)).toList.map fun i=>vs.getD i Value.none)) }) :
  wpAny (model prog w) A (call (.builtin "sorted") [.ref l]) Q E s:=by
 refine Calls.call_function_entry kind_sorted plain_sorted entry_sorted (args_sorted1 _) ?_
 unfold Builtin.«sorted»
 refine wpAny_bind (m:=checkCount "sorted" 1 1 _) (wpAny_pure ?_)
 refine wpAny_bind (collect_list hl ?_)
 refine wpAny_bind (wpAny_newList ?_)
 have hsz:((s.heap.push (seqObj "list" #[] 0)).update s.heap.objs.size (Obj.mapSeq (·++vs.toArray))).objs.size=s.heap.objs.size+1:=by
  rw [Heap.size_update,size_push']
 have hoL:(((s.heap.push (seqObj "list" #[] 0)).update s.heap.objs.size (Obj.mapSeq (·++vs.toArray))).push (seqObj "list" vs.toArray 0)).get? (s.heap.objs.size+1)=some (seqObj "list" vs.toArray 0):=by
  rw [<-hsz];exact Heap.get?_push_size _ rfl
 have keep:∀ b o,s.heap.get? b=some o->(((((s.heap.push (seqObj "list" #[] 0)).update s.heap.objs.size (Obj.mapSeq (·++vs.toArray))).push (seqObj "list" vs.toArray 0)).update (s.heap.objs.size+1) (Obj.mapSeq fun _=>#[])).push (seqObj "tuple" vs.toArray 0)).get? b=some o:=fun b o q=>by
  have hlt:b < s.heap.objs.size:=Heap.lt_size q
  refine Heap.get?_push_of_some _ ?_
  rw [Heap.get?_update_ne _ _ _ _ (Nat.ne_of_lt (Nat.lt_succ_of_lt hlt))]
  refine Heap.get?_push_of_some _ ?_
  rw [Heap.get?_update_ne _ _ _ _ (Nat.ne_of_lt hlt)]
  exact Heap.get?_push_of_some _ q
 show wpAny _ _ _ _ _ { s with heap:=((s.heap.push (seqObj "list" #[] 0)).update s.heap.objs.size (Obj.mapSeq (·++vs.toArray))).push (seqObj "list" vs.toArray 0) }
 rw [hsz]
 refine wpAny_bind (wpAny_holding (wpAny_call_entry slot_list_sort ⟨_,hoL,rfl⟩ entry_list_sort (mZ hoL h64 κ lt (fun h2 Q q=>hk h2 _ _ (fun b o z=>Heap.get?_push_of_some _ (keep b o z)) _ Q q) (fun i j hi hj C c=>hlt _ _ (fun b o z=>Heap.get?_push_of_some _ (keep b o z)) i j hi hj C c) ⟨_,rfl,?_⟩) (args_list_sort _)))
 exact wpAny_pure ⟨_,rfl,h⟩
noncomputable def qz (x y:Int × Int):Bool:=if x.1 == y.1 then (if x.2 == y.2 then false else decide (x.2 < y.2)) else decide (x.1 < y.1)
theorem wV {x y:Addr} {ox oy:Obj} {a b c d:Int} {t1 t2 t3 t4:Tok} {n k:Nat} {C:Bool->Shared->Prop} (hx:s.heap.get? x=some ox) (dx:ox.data = .seq #[.int a t1,.int b t2] n) (hy:s.heap.get? y=some oy) (dy:oy.data = .seq #[.int c t3,.int d t4] k)
  (h:C (qz (a,b) (c,d)) s):wpAny (model prog w) A (keyLt' (tuples' true) (.ref x) (.ref y)) C E s:=by
 refine PySem.W.kat_lt hx dx hy dy ?_
 show PySem.W.KatLex prog w A true _ C [(.int a t1,.int c t3),(.int b t2,.int d t4)] 0 s
 unfold qz at h
 refine wpAny_eqBool_int ?_
 cases h1:a == c with
 | true=>
  rw [if_pos rfl]
  simp only [h1,if_true] at h
  refine wpAny_eqBool_int ?_
  cases h2:b == d with
  | true=>rw [if_pos rfl];simp only [h2,if_true] at h;exact h
  | false=>
   rw [if_neg Bool.false_ne_true]
   simp only [h2,Bool.false_eq_true,if_false] at h
   exact PySem.W.kat_one _ _ (lt_int h)
 | false=>
  rw [if_neg Bool.false_ne_true]
  simp only [h1,Bool.false_eq_true,if_false] at h
  exact oneLt_int h
end
end Ev
namespace Ev
open PySem PySem.Spec PyProof.Rows L2
open PySem.W (kas_sort KatTups)
section
variable {X:Cx} {K:PySem.W.Frag} {m:List Addr} {H:Hp} {S:Sto}
inductive PairsV (H:Hp):List V->List (Int × Int)->Prop where
 | nil:PairsV H [] []
 | cons {r:Addr} {x y:Int} {vs:List V} {ps:List (Int × Int)}:H r=some (.tup [.int x,.int y])->PairsV H vs ps->PairsV H (.ref r::vs) ((x,y)::ps)
noncomputable def k5 (ps:List (Int × Int)) (i j:Nat):Bool:=qz (ps.getD i (0,0)) (ps.getD j (0,0))
noncomputable def cK {α:Type} (ps:List (Int × Int)) (d:α) (vs:List α):List α:=if vs.length < 2 then vs else (dR (k5 ps) (kas_sort vs.length)).toList.map fun i=>vs.getD i d
theorem PairsV.len {vs:List V} {ps:List (Int × Int)} (h:PairsV H vs ps):vs.length=ps.length:=by
 induction h with
 | nil=>rfl
 | cons _ _ ih=>simp [ih]
noncomputable def C1 (h:Heap) (v:Value) (q:Int × Int):Prop:=∃ r o t1 t2 n,v = .ref r/\h.get? r=some o/\o.cls = .type "tuple"/\o.data = .seq #[.int q.1 t1,.int q.2 t2] n
theorem PairsV.heap {pins:List (Addr × Obj)} {s:Shared} {σ:L2.St} (I:Inv X pins σ H s) {vs:List V} {ps:List (Int × Int)} (h:PairsV H vs ps):∀ {its:List Value},aK vs its->∀ (i:Nat),i < its.length->C1 s.heap (its.getD i Value.none) (ps.getD i (0,0)):=by
 induction h with
 | nil=>intro its r i hi;cases r;simp at hi
 | @cons r x y vs ps hr _ ih=>
  intro its rv i hi
  cases rv with
  | @cons _ u _ us r1 r2=>
   cases i with
   | zero=>
    cases r1
    obtain ⟨it2,rr,⟨o,e,hc,n,hd⟩,_⟩:=I.tuple (SqT.of (K:=X.K) hr)
    obtain ⟨a,b,rfl,⟨t1,rfl⟩,⟨t2,rfl⟩⟩:=rC rr
    exact ⟨r,o,t1,t2,n,rfl,e,hc,hd⟩
   | succ i=>
    have:=ih r2 i (by simpa using hi)
    simpa using this
theorem se {h:Heap}:∀ {its:List Value} {ps:List (Int × Int)},(∀ i,i < its.length->C1 h (its.getD i Value.none) (ps.getD i (0,0)))->∃ fs:List Value,KatTups h its fs/\fs.length=its.length/\∀ v ∈ fs,∃ i t,v = .int i t
 | [],_,_=>⟨[],KatTups.nil,rfl,fun v hv=>by simp at hv⟩
 | v::its,ps,hp=>by
  obtain ⟨r,o,t1,t2,n,ev,e,hc,hd⟩:=hp 0 (by simp)
  obtain ⟨fs,k,hl,hi⟩:=se (its:=its) (ps:=ps.tail) fun i hi=>by
   have:=hp (i+1) (by simpa using hi)
   cases ps with
   | nil=>simpa using this
   | cons _ _=>simpa using this
  have ev':v = .ref r:=by simpa using ev
  subst ev'
  exact ⟨.int (ps.getD 0 (0,0)).1 t1::fs,KatTups.cons e hc hd rfl k,by simp [hl],fun w hw=>by
   rcases List.mem_cons.mp hw with rfl | hw
   ·exact ⟨_,_,rfl⟩
   ·exact hi w hw⟩
theorem Ac {vs:List V} {its:List Value} (r:aK vs its) {i:Nat} (hi:i < vs.length):aJ (vs.getD i .non) (its.getD i Value.none):=by
 obtain ⟨u,e,ru⟩:=r.get (gEG hi)
 rw [List.getD_eq_getElem?_getD,List.getD_eq_getElem?_getD,gEG hi,e]
 exact ru
theorem lH {vs:List V} {its:List Value} (r:aK vs its):∀ (l:List Nat),(∀ i ∈ l,i < vs.length)->aK (l.map fun i=>vs.getD i .non) (l.map fun i=>its.getD i Value.none)
 | [],_=>.nil
 | i::l,h=>.cons (Ac r (h i List.mem_cons_self)) (lH r l fun j hj=>h j (List.mem_cons_of_mem _ hj))
theorem m6 {n:Nat} {lt:Nat->Nat->Bool} (hn:0 < n):(∀ i ∈ (dR lt (kas_sort n)).toList,i < n)/\(dR lt (kas_sort n)).toList.length=n:=by
 have h:Pm n (dR lt (kas_sort n)):=(mY hn).run
 refine ⟨fun i hi=>?_,?_⟩
 ·have:=h.mem_iff.mp (Array.mem_toList_iff.mp hi)
  simpa using this
 ·have:=h.size_eq
  rw [Array.length_toList,this];simp
theorem qA {α:Type} {ps:List (Int × Int)} {d:α} {vs:List α}:(cK ps d vs).length=vs.length:=by
 unfold cK
 split
 ·rfl
 ·rw [List.length_map,(m6 (by omega)).2]
theorem qB:aN X (.builtin "sorted") (fun xs H Q=>∃ a vs ps,xs=[.ref a]/\SqL X.K H a vs/\PairsV H vs ps/\vs.length < 64/\∀ p,H p=none->Q (.ref p) (upd H p (.lst (cK ps .non vs)))):=by
 intro pins s σ H xs us Q I r h
 obtain ⟨a,vs,ps,rfl,sq,pv,h64,q⟩:=h
 obtain ⟨u,rfl,ru⟩:=cr r
 cases ru
 obtain ⟨its,rv,pl,hz⟩:=I.list sq
 have hlen:=rv.length
 have ph:=pv.heap I rv
 have hl2:=pv.len
 refine ur pl.isList (by omega) (tuples' true) (k5 ps) (fun h2 A s' kp E Q' hq=>?_) (fun A s' kp i j hi hj C hC=>?_) ?_
 ·obtain ⟨fs,kt,hf,hi⟩:=se (h:=s'.heap) fun i hi=>by
   obtain ⟨r,o,t1,t2,n,e1,e2,e3,e4⟩:=ph i hi
   exact ⟨r,o,t1,t2,n,e1,kp _ _ e2,e3,e4⟩
  refine PySem.W.kat_kind (T:=.type "int") kt (by omega) (fun v hv=>?_) (by decide) hq
  obtain ⟨i,t,rfl⟩:=hi v hv
  exact PySem.W.Looks.of_pure rfl
 ·obtain ⟨r1,o1,t1,t2,n1,a1,a2,a3,a4⟩:=ph i hi
  obtain ⟨r2,o2,t3,t4,n2,b1,b2,b3,b4⟩:=ph j hj
  show wpAny _ A (keyLt' (tuples' true) (its.getD i Value.none) (its.getD j Value.none)) C _ s'
  rw [a1,b1]
  exact wV (kp _ _ a2) a4 (kp _ _ b2) b4 hC
 ·have hv:aK (cK ps .non vs) (if its.length < 2 then its else (dR (k5 ps) (kas_sort its.length)).toList.map fun i=>its.getD i Value.none):=by
   unfold cK
   rw [hlen]
   split
   ·exact rv
   ·exact lH rv _ fun i hi=>by rw [hlen];exact (m6 (by omega)).1 i hi
  have eo:(if its.length < 2 then its.toArray else List.toArray ((dR (k5 ps) (kas_sort its.length)).toList.map fun i=>its.getD i Value.none))=(if its.length < 2 then its else (dR (k5 ps) (kas_sort its.length)).toList.map fun i=>its.getD i Value.none).toArray:=by split <;> rfl
  rw [eo]
  obtain ⟨e,he⟩:=sortedAll_at s.heap its (if its.length < 2 then its else (dR (k5 ps) (kas_sort its.length)).toList.map fun i=>its.getD i Value.none).toArray
  exact ⟨.ref (s.heap.objs.size+1),_,I.laid (t':=s.toks) (a:=s.heap.objs.size+1) (o:=.lst (cK ps .non vs)) (fun b o z=>sortedAll_old z) (Nat.le_succ _) ⟨by rw [qA];exact hz,_,e,hv,he⟩,rfl,q _ (I.hok.fresh (Nat.le_succ _))⟩
noncomputable def qC (x:Int):List Int->List Int
 | []=>[x]
 | y::l=>if x<=y then x::y::l else y::qC x l
noncomputable def i5:List Int->List Int
 | []=>[]
 | x::l=>qC x (i5 l)
theorem iK (x:Int):∀ l,(qC x l).Perm (x::l)
 | []=>List.Perm.refl _
 | y::l=>by
  unfold qC
  split
  ·exact List.Perm.refl _
  ·exact ((iK x l).cons y).trans (List.Perm.swap x y l)
theorem gh:∀ l,(i5 l).Perm l
 | []=>List.Perm.refl _
 | x::l=>(iK x (i5 l)).trans ((gh l).cons x)
theorem i6 (x:Int):∀ l:List Int,l.Pairwise (·<=·)->(qC x l).Pairwise (·<=·)
 | [],_=>by unfold qC;simp
 | y::l,h=>by
  unfold qC
  rw [List.pairwise_cons] at h
  split
  ·rename_i c
   refine List.pairwise_cons.mpr ⟨fun z hz=>?_,List.pairwise_cons.mpr h⟩
   rcases List.mem_cons.mp hz with rfl | hz
   ·exact c
   ·have:=h.1 z hz;omega
  ·rename_i c
   refine List.pairwise_cons.mpr ⟨fun z hz=>?_,i6 x l h.2⟩
   rcases List.mem_cons.mp ((iK x l).mem_iff.mp hz) with rfl | hz
   ·omega
   ·exact h.1 z hz
theorem gU:∀ l,(i5 l).Pairwise (·<=·)
 | []=>List.Pairwise.nil
 | x::l=>i6 x _ (gU l)
theorem kc:∀ {a b:List Int},a.Perm b->a.Pairwise (·<=·)->b.Pairwise (·<=·)->a=b
 | [],b,p,_,_=>(List.Perm.nil_eq p)
 | x::a,[],p,_,_=>(List.Perm.nil_eq p.symm).symm
 | x::a,y::b,p,ha,hb=>by
  rw [List.pairwise_cons] at ha hb
  have e:x=y:=by
   have h1:=p.mem_iff.mp (List.mem_cons_self (a:=x) (l:=a))
   have h2:=p.mem_iff.mpr (List.mem_cons_self (a:=y) (l:=b))
   rcases List.mem_cons.mp h1 with rfl | h1
   ·rfl
   ·rcases List.mem_cons.mp h2 with h2 | h2
    ·exact h2.symm
    ·have:=ha.1 y h2
     have:=hb.1 x h1
     omega
  subst e
  rw [kc (List.Perm.cons_inv p) ha.2 hb.2]
theorem cw:∀ {ns:List Int} {us:List Value},aK (ns.map V.int) us->IntsAre us ns
 | [],_,h=>by cases h;exact .nil
 | n::ns,_,h=>by
  cases h with
  | cons r1 r2=>obtain ⟨t,rfl⟩:=r1;exact .cons n t (cw r2)
theorem qD:aN X (.builtin "sorted") (fun xs H Q=>∃ a ns,xs=[.ref a]/\SqL X.K H a (ns.map V.int)/\ns.length < 64/\∀ p,H p=none->Q (.ref p) (upd H p (.lst ((i5 ns).map V.int)))):=by
 intro pins s σ H xs us Q I r h
 obtain ⟨a,ns,rfl,sq,h64,q⟩:=h
 obtain ⟨u,rfl,ru⟩:=cr r
 cases ru
 obtain ⟨its,rv,pl,hz⟩:=I.list sq
 have hlen:=rv.length
 rw [List.length_map] at hlen hz
 refine sorted_ints pl.isList (cw rv) (by omega) fun out ns' h1 h2 h3=>?_
 have e:ns'=i5 ns:=kc (h2.trans (gh ns).symm) h3 (gU ns)
 subst e
 obtain ⟨e,he⟩:=sortedAll_at s.heap its out
 refine ⟨.ref (s.heap.objs.size+1),_,I.laid (t':=s.toks) (a:=s.heap.objs.size+1) (o:=.lst ((i5 ns).map V.int)) (fun b o z=>sortedAll_old z) (Nat.le_succ _) ⟨by rw [List.length_map,(gh ns).length_eq];exact hz,out.toList,e,iw h1,by simpa using he⟩,rfl,q _ (I.hok.fresh (Nat.le_succ _))⟩
noncomputable def m7:D->Option (Int × Int)
 | .tup [.int a,.int b]=>some (a,b)
 | _=>none
noncomputable def eV:List D->Option (List (Int × Int))
 | []=>some []
 | d::ds=>match m7 d,eV ds with
  | some p,some ps=>some (p::ps)
  | _,_=>none
noncomputable def kf:List D->Option (List Int)
 | []=>some []
 | d::ds=>match d,kf ds with
  | .int i,some ms=>some (i::ms)
  | _,_=>none
noncomputable def ut (_:Bool) (ds:List D):Option (List D):=match eV ds with
 | some ps=>if ds.length < 64 then some (cK ps .non ds) else none
 | none=>(match kf ds with
  | some ns=>if ns.length < 64 then some ((i5 ns).map D.int) else none
  | none=>none)
theorem gV:∀ {ds:List D} {ns:List Int},kf ds=some ns->ds=ns.map D.int
 | [],_,e=>by cases e;rfl
 | d::ds,ns,e=>by
  simp only [kf] at e
  split at e
  ·rename_i i ms h1
   cases e
   rw [gV h1];rfl
  ·cases e
theorem fJ:∀ {ns:List Int} {vs:List V},VDs K m H (ns.map D.int) vs->vs=ns.map V.int
 | [],_,h=>by rw [List.map_nil,VDs] at h;exact h
 | n::ns,_,h=>by
  rw [List.map_cons,VDs] at h
  obtain ⟨v,r,rfl,h1,h2⟩:=h
  rw [h1.ints,fJ h2];rfl
theorem lI:∀ (ns:List Int),VDs K m H (ns.map D.int) (ns.map V.int)
 | []=>by rw [List.map_nil,List.map_nil,VDs]
 | n::ns=>by rw [List.map_cons,List.map_cons,VDs];exact ⟨_,_,rfl,bu,lI ns⟩
theorem oQ:∀ {ds:List D} {vs:List V} {ps:List (Int × Int)},eV ds=some ps->VDs K m H ds vs->PairsV H vs ps
 | [],vs,ps,e,h=>by rw [VDs] at h;subst h;cases e;exact .nil
 | d::ds,vs,ps,e,h=>by
  rw [VDs] at h
  obtain ⟨v,r,rfl,h1,h2⟩:=h
  simp only [eV] at e
  cases hd:m7 d with
  | none=>rw [hd] at e;cases e
  | some p=>
   cases hr:eV ds with
   | none=>rw [hd,hr] at e;cases e
   | some qs=>
    rw [hd,hr] at e
    cases e
    unfold m7 at hd
    split at hd
    ·cases hd
     obtain ⟨a,xs,rfl,hH,vx⟩:=h1.tups
     obtain ⟨x,y,rfl,v1,v2⟩:=wP vx
     cases v1.ints
     cases v2.ints
     exact .cons hH (oQ hr h2)
    ·cases hd
theorem sf {ds:List D} {vs:List V} (h:VDs K m H ds vs):∀ (l:List Nat),(∀ i ∈ l,i < ds.length)->VDs K m H (l.map fun i=>ds.getD i .non) (l.map fun i=>vs.getD i .non)
 | [],_=>by rw [List.map_nil,List.map_nil,VDs]
 | i::l,hl=>by
  rw [List.map_cons,List.map_cons,VDs]
  obtain ⟨v,e,vv⟩:=h.get (gEG (hl i List.mem_cons_self))
  refine ⟨_,_,rfl,?_,sf h l fun j hj=>hl j (List.mem_cons_of_mem _ hj)⟩
  rw [List.getD_eq_getElem?_getD,List.getD_eq_getElem?_getD,gEG (hl i List.mem_cons_self),e]
  exact vv
theorem lJ:aN X (.builtin "sorted") (r1 (rTm X.K fun tu ds=>if tu=false then ut tu ds else none)):=by
 refine aN.imp (aN.or qB qD) fun xs H Q h=>?_
 obtain ⟨_,rfl,m,S,tu,ds,a,vs,es,R,rfl,sq,vd,e,q⟩:=cb h
 cases tu with
 | true=>cases e
 | false=>
  have e:ut false ds=some es:=by simpa using e
  unfold ut at e
  cases hp:eV ds with
  | none=>
   rw [hp] at e
   dsimp only at e
   cases hi:kf ds with
   | none=>rw [hi] at e;cases e
   | some ns=>
    rw [hi] at e
    dsimp only at e
    split at e
    ·rename_i hl
     cases e
     have ed:=gV hi
     subst ed
     have ev:=fJ vd
     subst ev
     exact .inr ⟨a,ns,rfl,sq,hl,jB R (lI _) q⟩
    ·cases e
  | some ps=>
   rw [hp] at e
   dsimp only at e
   split at e
   ·rename_i hl
    cases e
    have hlen:=vd.length
    refine .inl ⟨a,vs,ps,rfl,sq,oQ hp vd,by omega,jB R ?_ q⟩
    unfold cK
    rw [<-hlen]
    split
    ·exact vd
    ·exact sf vd _ fun i hi=>(m6 (by omega)).1 i hi
   ·cases e
end
end Ev
namespace Ev
open PySem PySem.Spec PyProof.Rows L2
noncomputable def Ad:List Int->Int
 | []=>0
 | n::ns=>ns.foldl (fun a b=>if a < b then b else a) n
noncomputable def Ae:List Int->Int
 | []=>0
 | n::ns=>ns.foldl (fun a b=>if b < a then b else a) n
theorem oS:∀ (ns:List Int) (n:Int),(ns.foldl (fun a b=>if a < b then b else a) n) ∈ n::ns/\∀ x ∈ n::ns,x<=ns.foldl (fun a b=>if a < b then b else a) n
 | [],n=>⟨List.mem_cons_self,fun x hx=>by simp at hx;subst hx;exact Int.le_refl _⟩
 | m::ns,n=>by
  obtain ⟨h1,h2⟩:=oS ns (if n < m then m else n)
  rw [List.foldl_cons]
  refine ⟨?_,fun x hx=>?_⟩
  ·rcases List.mem_cons.mp h1 with h | h
   ·rw [h];split <;> simp
   ·exact List.mem_cons_of_mem _ (List.mem_cons_of_mem _ h)
  ·have h0:=h2 _ List.mem_cons_self
   rcases List.mem_cons.mp hx with rfl | hx
   ·split at h0 <;> split <;> omega
   ·rcases List.mem_cons.mp hx with rfl | hx
    ·split at h0 <;> split <;> omega
    ·exact h2 x (List.mem_cons_of_mem _ hx)
theorem oT:∀ (ns:List Int) (n:Int),(ns.foldl (fun a b=>if b < a then b else a) n) ∈ n::ns/\∀ x ∈ n::ns,ns.foldl (fun a b=>if b < a then b else a) n<=x
 | [],n=>⟨List.mem_cons_self,fun x hx=>by simp at hx;subst hx;exact Int.le_refl _⟩
 | m::ns,n=>by
  obtain ⟨h1,h2⟩:=oT ns (if m < n then m else n)
  rw [List.foldl_cons]
  refine ⟨?_,fun x hx=>?_⟩
  ·rcases List.mem_cons.mp h1 with h | h
   ·rw [h];split <;> simp
   ·exact List.mem_cons_of_mem _ (List.mem_cons_of_mem _ h)
  ·have h0:=h2 _ List.mem_cons_self
   rcases List.mem_cons.mp hx with rfl | hx
   ·split at h0 <;> split <;> omega
   ·rcases List.mem_cons.mp hx with rfl | hx
    ·split at h0 <;> split <;> omega
    ·exact h2 x (List.mem_cons_of_mem _ hx)
theorem EL {ns:List Int} {M:Int} (h1:M ∈ ns) (h2:∀ a,a ∈ ns->a<=M):M=Ad ns:=by
 cases ns with
 | nil=>simp at h1
 | cons n ns=>
  obtain ⟨a,b⟩:=oS ns n
  have:=h2 _ a
  have:=b _ h1
  show M=ns.foldl _ n
  omega
theorem EM {ns:List Int} {M:Int} (h1:M ∈ ns) (h2:∀ a,a ∈ ns->M<=a):M=Ae ns:=by
 cases ns with
 | nil=>simp at h1
 | cons n ns=>
  obtain ⟨a,b⟩:=oT ns n
  have:=h2 _ a
  have:=b _ h1
  show M=ns.foldl _ n
  omega
section
variable {X:Cx} {K:PySem.W.Frag} {m:List Addr} {H:Hp} {S:Sto}
theorem uu (hc:X.calm=true):aN X (.builtin "max") (fun xs H Q=>∃ a ns,xs=[.ref a]/\SqL X.K H a (ns.map V.int)/\ns ≠ []/\Q (.int (Ad ns)) H):=by
 intro pins s σ H xs us Q I r h
 obtain ⟨a,ns,rfl,sq,hne,q⟩:=h
 obtain ⟨u,rfl,ru⟩:=cr r
 cases ru
 obtain ⟨its,rv,pl,hz⟩:=I.list sq
 have hi:=cw rv
 have hl:=pl.isList
 obtain ⟨ys,e⟩:=hi.allInts.items
 have hns:ns=ys.toList.map (·.1):=by
  have h1:=hi.numsOf
  rw [<-nums_intItems,<-e]
  exact h1.symm
 have hsz:0 < ys.size:=by
  have h3:0 < ns.length:=List.length_pos_iff.mpr hne
  rw [hns,List.length_map,Array.length_toList] at h3;exact h3
 rw [e] at hl
 refine max_intList (I.ok.hd hc) hl hsz fun v h' tk hv hk=>?_
 obtain ⟨t,rfl⟩:=intItems_at hv
 obtain ⟨b1,b2⟩:=argBest_gt (numAt ys) (ys.size - 1)
 have key:∀ M:Int,M ∈ ns->(∀ a,a ∈ ns->a<=M)->∃ x H',Inv X pins σ H' { s with heap:=h',toks:=tk }/\aJ x (.int M t)/\Q x H':=fun M h1 h2=>⟨.int (Ad ns),H,I.kept hk,⟨t,by rw [EL h1 h2]⟩,q⟩
 refine key _ ?_ fun a ha=>?_
 ·rw [hns,numAt_eq];exact getD_mem (by rw [List.length_map,Array.length_toList];omega)
 ·rw [hns] at ha
  obtain ⟨j,hj,rfl⟩:=mem_getD ha
  rw [List.length_map,Array.length_toList] at hj
  rw [<-numAt_eq];exact b2 j (by omega)
theorem uv (hc:X.calm=true):aN X (.builtin "min") (fun xs H Q=>∃ a ns,xs=[.ref a]/\SqL X.K H a (ns.map V.int)/\ns ≠ []/\Q (.int (Ae ns)) H):=by
 intro pins s σ H xs us Q I r h
 obtain ⟨a,ns,rfl,sq,hne,q⟩:=h
 obtain ⟨u,rfl,ru⟩:=cr r
 cases ru
 obtain ⟨its,rv,pl,hz⟩:=I.list sq
 have hi:=cw rv
 have hl:=pl.isList
 obtain ⟨ys,e⟩:=hi.allInts.items
 have hns:ns=ys.toList.map (·.1):=by
  have h1:=hi.numsOf
  rw [<-nums_intItems,<-e]
  exact h1.symm
 have hsz:0 < ys.size:=by
  have h3:0 < ns.length:=List.length_pos_iff.mpr hne
  rw [hns,List.length_map,Array.length_toList] at h3;exact h3
 rw [e] at hl
 refine min_intList (I.ok.hd hc) hl hsz fun v h' tk hv hk=>?_
 obtain ⟨t,rfl⟩:=intItems_at hv
 obtain ⟨b1,b2⟩:=argBest_lt (numAt ys) (ys.size - 1)
 have key:∀ M:Int,M ∈ ns->(∀ a,a ∈ ns->M<=a)->∃ x H',Inv X pins σ H' { s with heap:=h',toks:=tk }/\aJ x (.int M t)/\Q x H':=fun M h1 h2=>⟨.int (Ae ns),H,I.kept hk,⟨t,by rw [EM h1 h2]⟩,q⟩
 refine key _ ?_ fun a ha=>?_
 ·rw [hns,numAt_eq];exact getD_mem (by rw [List.length_map,Array.length_toList];omega)
 ·rw [hns] at ha
  obtain ⟨j,hj,rfl⟩:=mem_getD ha
  rw [List.length_map,Array.length_toList] at hj
  rw [<-numAt_eq];exact b2 j (by omega)
noncomputable def oU (tu:Bool) (ds:List D) (S:Sto):Option (D × Sto):=match tu,kf ds with
 | false,some (n::ns)=>some (.int (Ad (n::ns)),S)
 | _,_=>none
noncomputable def oV (tu:Bool) (ds:List D) (S:Sto):Option (D × Sto):=match tu,kf ds with
 | false,some (n::ns)=>some (.int (Ae (n::ns)),S)
 | _,_=>none
theorem uw (hc:X.calm=true):aN X (.builtin "max") (r1 (rSq X.K oU)):=by
 refine aN.imp (uu hc) fun xs H Q h=>?_
 obtain ⟨_,rfl,m,S,tu,ds,a,vs,d,S',R,rfl,sq,vd,e,q⟩:=cb h
 unfold oU at e
 split at e
 ·rename_i n ns hi
  cases e
  have ed:=gV hi
  subst ed
  have ev:=fJ vd
  subst ev
  exact ⟨a,n::ns,rfl,sq,by simp,q m H _ (Aft.refl R) bu⟩
 ·cases e
theorem ux (hc:X.calm=true):aN X (.builtin "min") (r1 (rSq X.K oV)):=by
 refine aN.imp (uv hc) fun xs H Q h=>?_
 obtain ⟨_,rfl,m,S,tu,ds,a,vs,d,S',R,rfl,sq,vd,e,q⟩:=cb h
 unfold oV at e
 split at e
 ·rename_i n ns hi
  cases e
  have ed:=gV hi
  subst ed
  have ev:=fJ vd
  subst ev
  exact ⟨a,n::ns,rfl,sq,by simp,q m H _ (Aft.refl R) bu⟩
 ·cases e
noncomputable def Af (d:D) (S:Sto):Option (D × Sto):=match d with
 | .int i=>some (.int i,S)
 | .bl b=>some (.int (if b then 1 else 0),S)
 | _=>none
theorem uy:aN X (.type "int") (r1 (rS1 X.K Af)):=by
 refine aN.imp tL fun xs H Q h=>?_
 obtain ⟨x,rfl,m,S,a,d,S',R,va,e,q⟩:=cb h
 cases a with
 | int i=>cases e;exact .inl ⟨i,by rw [va.ints],q m H _ (Aft.refl R) bu⟩
 | bl b=>cases e;exact .inr ⟨b,by rw [va.bls],q m H _ (Aft.refl R) bu⟩
 | _=>cases e
end
end Ev
namespace Ev
open PySem PySem.Spec PyProof.Rows L2
section
variable {X:Cx} {K:PySem.W.Frag} {m:List Addr} {H:Hp} {S:Sto}
noncomputable def dE (d:D) (S:Sto):Bool:=match d with
 | .ref n=>(am S n).isSome
 | _=>false
noncomputable def isTup:D->Bool
 | .tup _=>true
 | _=>false
noncomputable def qE (c:D->Sto->Bool) (f:D->List D->Sto->Option (D × Sto)) (x:XE) (y:XA):XE:=fun ρ S=>bnd (x ρ S) fun d S1=>if c d S1=true then bnd (y ρ S1) fun as S2=>f d as S2 else none
noncomputable def rM (K:PySem.W.Frag) (f:D->List D->Sto->Option (D × Sto)):V->List V->Hp->VK->Prop:=fun v vs H Q=>∃ m S a as d S',Rel K m S H/\VD K m H a v/\VDs K m H as vs/\f a as S=some (d,S')/\∀ m' H' u,Aft K m H S' m' H'->VD K m' H' d u->Q u H'
theorem qF {T:String} {c:D->Sto->Bool} {f:D->List D->Sto->Option (D × Sto)} {x:XE} {y:XA} {σ:L2.St} {H:Hp} {Q:VK} (hT:∀ {m H S d v},Rel K m S H->VD K m H d v->c d S=true->tyV K T v H) (h:tE K (qE c f x y) σ H Q):tBM K T (rM K f) (tE K x) (tAr K y) σ H Q:=by
 obtain ⟨m,ρ,S,d,S',E,R,e,q⟩:=h
 obtain ⟨a,S1,e1,e⟩:=aa e
 split at e
 ·rename_i hc
  obtain ⟨as,S2,e2,e⟩:=aa e
  refine ⟨m,ρ,S,a,S1,E,R,e1,fun m1 H1 v A1 va=>⟨hT A1.rel va hc,m1,ρ,S1,as,S2,E.mono R A1.ext,A1.rel,e2,fun m2 H2 vs A2 vb=>?_⟩⟩
  exact ⟨m2,S2,a,as,d,S',A2.rel,va.mono A1.rel A2.ext,vb,e,fun m3 H3 u A3 vd=>q m3 H3 u ((A1.trans A2).trans A3) vd⟩
 ·cases e
theorem Ag {T:String} {c:D->Sto->Bool} {f:D->List D->Sto->Option (D × Sto)} {x:XE} {σ:L2.St} {H:Hp} {Q:VK} (hT:∀ {m H S d v},Rel K m S H->VD K m H d v->c d S=true->tyV K T v H) (h:tE K (qE c f x ue) σ H Q):IO K T (rM K f) (tE K x) σ H Q:=by
 obtain ⟨m,ρ,S,d,S',E,R,e,q⟩:=h
 obtain ⟨a,S1,e1,e⟩:=aa e
 split at e
 ·rename_i hc
  obtain ⟨as,S2,e2,e⟩:=aa e
  cases e2
  exact ⟨m,ρ,S,a,S1,E,R,e1,fun m1 H1 v A1 va=>⟨hT A1.rel va hc,m1,S1,a,[],d,S',A1.rel,va,.nil,e,fun m3 H3 u A3 vd=>q m3 H3 u (A1.trans A3) vd⟩⟩
 ·cases e
theorem qG {d:D} {v:V} (R:Rel K m S H) (vd:VD K m H d v) (h:dE d S=true):tyV K "list" v H:=by
 cases d with
 | ref n=>
  simp only [dE] at h
  obtain ⟨ds,hs⟩:=Option.isSome_iff_exists.mp h
  obtain ⟨p,vs,hp,sq,vds⟩:=R.seq hs
  obtain ⟨p',hp',rfl⟩:=vd.refs
  rw [hp] at hp'
  cases hp'
  exact .inl ⟨rfl,vs,sq⟩
 | _=>cases h
theorem EN {d:D} {v:V} (R:Rel K m S H) (vd:VD K m H d v) (h:(fun d (_:Sto)=>isTup d) d S=true):tyV K "tuple" v H:=by
 cases d with
 | tup ds=>
  obtain ⟨a,vs,rfl,sq,_⟩:=vd.tups
  exact .inr (.inl ⟨rfl,.inr ⟨vs,sq⟩⟩)
 | _=>cases h
noncomputable def chg (n:Nat) (S:Sto) (f:List D->Option (D × List D)):Option (D × Sto):=match S[n]? with
 | some (.lst ds)=>(f ds).map fun r=>(r.1,S.set n (.lst r.2))
 | _=>none
theorem kg {n:Nat} {S S':Sto} {f:List D->Option (D × List D)} {d:D} (h:chg n S f=some (d,S')):∃ ds es,S[n]?=some (.lst ds)/\f ds=some (d,es)/\S'=S.set n (.lst es):=by
 unfold chg at h
 cases hn:S[n]? with
 | none=>rw [hn] at h;cases h
 | some o=>
  rw [hn] at h
  cases o with
  | lst ds=>
   dsimp only at h
   cases hf:f ds with
   | none=>rw [hf] at h;cases h
   | some r=>rw [hf] at h;cases h;exact ⟨ds,r.2,rfl,hf,rfl⟩
  | _=>cases h
noncomputable def oW (d:D) (as:List D) (S:Sto):Option (D × Sto):=match d,as with
 | .ref n,[e]=>chg n S fun ds=>if ds.length < 100000 then some (.non,ds++[e]) else none
 | _,_=>none
noncomputable def wW (d:D) (as:List D) (S:Sto):Option (D × Sto):=match d,as with
 | .ref n,[]=>chg n S fun ds=>(ds[ds.length - 1]?).map fun x=>(x,ds.dropLast)
 | _,_=>none
noncomputable def gi (d:D) (as:List D) (S:Sto):Option (D × Sto):=match d,as with
 | .ref n,[.int i]=>chg n S fun ds=>match ixN ds.length i with
  | some k=>(ds[k]?).map fun x=>(x,ds.eraseIdx k)
  | none=>none
 | _,_=>none
theorem m8 {n:Nat} {v:V} {ds:List D} (R:Rel K m S H) (vd:VD K m H (.ref n) v) (hn:S[n]?=some (.lst ds)):∃ a vs,v = .ref a/\m[n]?=some a/\H a=some (.lst vs)/\VDs K m H ds vs:=by
 obtain ⟨a,vs,ha,hH,q⟩:=R.lst hn
 obtain ⟨a',ha',e⟩:=vd.refs
 rw [ha] at ha'
 cases ha'
 exact ⟨a,vs,e,ha,hH,q⟩
theorem fK {n:Nat} {a:Addr} {es:List D} {ws:List V} (R:Rel K m S H) (ha:m[n]?=some a) (vd:VDs K m H es ws):Aft K m H (S.set n (.lst es)) m (upd H a (.lst ws)):=let ⟨x,y⟩:=R.write ha vd;⟨x,y⟩
theorem EO:MtR X "list.append" (rM X.K oW):=by
 intro pins s σ H x xs v us Q I rx rs h
 refine ly pins s σ H x xs v us Q I rx rs ?_
 obtain ⟨m,S,a,as,d,S',R,va,vs,e,q⟩:=h
 unfold oW at e
 split at e
 ·rename_i n z
  obtain ⟨ds,es,hn,hf,rfl⟩:=kg e
  split at hf
  ·rename_i hl
   cases hf
   obtain ⟨p,ws,rfl,hp,hH,vds⟩:=m8 R va hn
   obtain ⟨y,rfl,vy⟩:=EJ vs
   refine ⟨p,ws,y,rfl,rfl,hH,by rw [sizeLine_eq,<-vds.length];omega,q m _ _ (fK R hp (vds.append (.cons vy .nil))) mQ⟩
  ·cases hf
 ·cases e
theorem Ah {ds:List D} {vs:List V} {x:D} (h:VDs K m H ds vs) (e:ds[ds.length - 1]?=some x):∃ v,vs[vs.length - 1]?=some v/\VD K m H x v:=by rw [<-h.length];exact h.get e
theorem kh:∀ {ds:List D} {vs:List V} (k:Nat),VDs K m H ds vs->VDs K m H (ds.eraseIdx k) (vs.eraseIdx k)
 | [],vs,k,h=>by rw [VDs] at h;subst h;exact .nil
 | d::ds,vs,0,h=>by
  rw [VDs] at h
  obtain ⟨y,r,rfl,p,q⟩:=h
  exact q
 | d::ds,vs,k+1,h=>by
  rw [VDs] at h
  obtain ⟨y,r,rfl,p,q⟩:=h
  exact .cons p (kh k q)
theorem oX {ds:List D} {vs:List V} (h:VDs K m H ds vs):VDs K m H ds.dropLast vs.dropLast:=by
 rw [<-gb,<-gb,<-h.length]
 exact kh _ h
theorem Ai:MtR X "list.pop" (rM X.K wW):=by
 intro pins s σ H x xs v us Q I rx rs h
 refine D6 pins s σ H x xs v us Q I rx rs ?_
 obtain ⟨m,S,a,as,d,S',R,va,vs,e,q⟩:=h
 unfold wW at e
 split at e
 ·rename_i n
  obtain ⟨ds,es,hn,hf,rfl⟩:=kg e
  cases hl:ds[ds.length - 1]? with
  | none=>rw [hl] at hf;cases hf
  | some z=>
   rw [hl] at hf
   cases hf
   obtain ⟨p,ws,rfl,hp,hH,vds⟩:=m8 R va hn
   rw [VDs] at vs
   subst vs
   obtain ⟨y,hy,vy⟩:=Ah vds hl
   have A:=fK R hp (oX vds)
   exact ⟨p,ws,y,rfl,rfl,hH,hy,q m _ _ A (vy.mono R A.ext)⟩
 ·cases e
theorem uz:MtR X "list.pop" (rM X.K gi):=by
 intro pins s σ H x xs v us Q I rx rs h
 refine vS pins s σ H x xs v us Q I rx rs ?_
 obtain ⟨m,S,a,as,d,S',R,va,vs,e,q⟩:=h
 unfold gi at e
 split at e
 ·rename_i n i
  obtain ⟨ds,es,hn,hf,rfl⟩:=kg e
  cases hk:ixN ds.length i with
  | none=>rw [hk] at hf;cases hf
  | some k=>
   rw [hk] at hf
   dsimp only at hf
   cases hl:ds[k]? with
   | none=>rw [hl] at hf;cases hf
   | some z=>
    rw [hl] at hf
    cases hf
    obtain ⟨p,ws,rfl,hp,hH,vds⟩:=m8 R va hn
    obtain ⟨y,rfl,vi⟩:=EJ vs
    cases vi.ints
    obtain ⟨y,hy,vy⟩:=vds.get hl
    have A:=fK R hp (kh k vds)
    obtain ⟨h1,h2,h3,h4⟩:=mf hk
    have hz:=(I.lst hH).choose_spec.choose_spec.2.2
    have hle:=vds.length
    rw [sizeLine_eq] at hz
    exact ⟨p,ws,i,k,y,rfl,rfl,hH,by omega,by omega,by rw [<-vds.length];exact h1,hy,q m _ _ A (vy.mono R A.ext)⟩
 ·cases e
noncomputable def qH (d:D) (as:List D) (S:Sto):Option (D × Sto):=match d,as with
 | .tup ds,[x]=>if cg x=true/\ds.all cg=true then some (.int (ds.countP fun z=>eqF z x:Nat),S) else none
 | _,_=>none
theorem Aj:MtR X "tuple.count" (rM X.K qH):=by
 intro pins s σ H x xs v us Q I rx rs h
 refine tY X.K rfl pins s σ H x xs v us Q I rx rs ?_
 obtain ⟨m,S,a,as,d,S',R,va,vs,e,q⟩:=h
 unfold qH at e
 split at e
 ·rename_i ds z
  split at e
  ·rename_i hf
   cases e
   obtain ⟨p,ws,rfl,sq,vds⟩:=va.tups
   obtain ⟨y,rfl,vy⟩:=EJ vs
   exact ⟨p,ws,y,rfl,rfl,.of sq,jC vy hf.1,gS vds hf.2,q m H _ (Aft.refl R) (by rw [lG vy hf.1 vds hf.2];exact bu)⟩
  ·cases e
 ·cases e
noncomputable def k7 (o i v:D) (S:Sto):Option Sto:=match o,i with
 | .ref n,.int k=>(match S[n]? with
  | some (.lst ds)=>(ixN ds.length k).map fun j=>S.set n (.lst (ds.set j v))
  | _=>none)
 | _,_=>none
noncomputable def Jc (K:PySem.W.Frag):zc:=fun o i v H Q=>∃ m S a b c S',Rel K m S H/\VD K m H a o/\VD K m H b i/\VD K m H c v/\k7 a b c S=some S'/\∀ m' H',Aft K m H S' m' H'->Q H'
theorem Jd:DG X (Jc X.K):=by
 intro pins s σ H o i v ov iv u Q I ro ri rv h
 refine vP pins s σ H o i v ov iv u Q I ro ri rv ?_
 obtain ⟨m,S,a,b,c,S',R,va,vb,vc,e,q⟩:=h
 unfold k7 at e
 split at e
 ·rename_i n k
  cases hn:S[n]? with
  | none=>rw [hn] at e;cases e
  | some ob=>
   rw [hn] at e
   cases ob with
   | lst ds=>
    dsimp only at e
    cases hj:ixN ds.length k with
    | none=>rw [hj] at e;cases e
    | some j=>
     rw [hj] at e
     cases e
     obtain ⟨p,ws,rfl,hp,hH,vds⟩:=m8 R va hn
     cases vb.ints
     exact ⟨p,ws,k,j,rfl,rfl,hH,by rw [<-vds.length];exact hj,q m _ (fK R hp (vds.set vc))⟩
   | _=>cases e
 ·cases e
mutual
noncomputable def bW (t:D->Option Dw.D):List D->Option (List Dw.D)
 | []=>some []
 | d::ds=>match t d,bW t ds with
  | some x,some xs=>some (x::xs)
  | _,_=>none
end
noncomputable def cn:Nat->Sto->D->Option Dw.D
 | 0,_,_=>none
 | n+1,S,d=>match d with
  | .non=>some .non
  | .bl b=>some (.bl b)
  | .int i=>some (.int i)
  | .str x=>some (.str x)
  | .tup ds=>(bW (cn n S) ds).map .tup
  | .ref k=>(match S[k]? with
   | some (.lst ds)=>(bW (cn n S) ds).map .lst
   | some (.dic ks ds)=>(bW (cn n S) ds).map (.dic ks)
   | _=>none)
theorem gW {t:D->Option Dw.D} (ht:∀ d x v,t d=some x->VD K m H d v->Dw.Br [] H x v):∀ {ds:List D} {xs:List Dw.D} {vs:List V},bW t ds=some xs->VDs K m H ds vs->Dw.BrL [] H xs vs
 | [],xs,vs,e,h=>by rw [VDs] at h;simp only [bW] at e;cases e;rw [h,Dw.BrL]
 | d::ds,xs,vs,e,h=>by
  rw [VDs] at h
  obtain ⟨y,r,rfl,p,q⟩:=h
  simp only [bW] at e
  cases h1:t d with
  | none=>rw [h1] at e;cases e
  | some x=>
   cases h2:bW t ds with
   | none=>rw [h1,h2] at e;cases e
   | some ys=>
    rw [h1,h2] at e
    cases e
    rw [Dw.BrL]
    exact ⟨y,r,rfl,ht _ _ _ h1 p,gW ht h2 q⟩
theorem lK {t:D->Option Dw.D}:∀ {ds:List D} {xs:List Dw.D},bW t ds=some xs->xs.length=ds.length
 | [],xs,e=>by simp only [bW] at e;cases e;rfl
 | d::ds,xs,e=>by
  simp only [bW] at e
  cases h1:t d with
  | none=>rw [h1] at e;cases e
  | some x=>
   cases h2:bW t ds with
   | none=>rw [h1,h2] at e;cases e
   | some ys=>rw [h1,h2] at e;cases e;simp [lK h2]
theorem jE (R:Rel K m S H):∀ (n:Nat) (d:D) (x:Dw.D) (v:V),cn n S d=some x->VD K m H d v->Dw.Br [] H x v
 | 0,_,_,_,e,_=>by simp [cn] at e
 | n+1,d,x,v,e,h=>by
  cases d with
  | non=>simp only [cn] at e;cases e;rw [Dw.Br];exact h.nons
  | bl _=>simp only [cn] at e;cases e;rw [Dw.Br];exact h.bls
  | int _=>simp only [cn] at e;cases e;rw [Dw.Br];exact h.ints
  | str _=>simp only [cn] at e;cases e;rw [Dw.Br];exact h.strs
  | tup ds=>
   simp only [cn] at e
   cases ht:bW (cn n S) ds with
   | none=>rw [ht] at e;cases e
   | some xs=>
    rw [ht] at e
    cases e
    obtain ⟨a,vs,rfl,sq,p⟩:=h.tups
    rw [Dw.Br]
    exact ⟨a,vs,rfl,sq,gW (jE R n) ht p⟩
  | ref k=>
   simp only [cn] at e
   obtain ⟨a,ha,rfl⟩:=h.refs
   cases hk:S[k]? with
   | none=>rw [hk] at e;cases e
   | some o=>
    rw [hk] at e
    obtain ⟨a',ha',r⟩:=R.ob k o hk
    rw [ha] at ha'
    cases ha'
    cases o with
    | lst ds=>
     dsimp only at e
     cases ht:bW (cn n S) ds with
     | none=>rw [ht] at e;cases e
     | some xs=>
      rw [ht] at e
      cases e
      obtain ⟨vs,hH,p⟩:=r
      rw [Dw.Br]
      exact ⟨a,vs,rfl,by simp,hH,gW (jE R n) ht p⟩
    | frz ds=>cases e
    | dic ks ds=>
     dsimp only at e
     cases ht:bW (cn n S) ds with
     | none=>rw [ht] at e;cases e
     | some xs=>
      rw [ht] at e
      cases e
      obtain ⟨vs,hH,hl,p⟩:=r
      rw [Dw.Br]
      exact ⟨a,vs,rfl,by simp,hH,by rw [lK ht];exact hl,gW (jE R n) ht p⟩
open Classical in
noncomputable def i7 (d:D) (S:Sto):Option (D × Sto):=match cn 100 S d with
 | some t=>if Dw.Shn t then some (.str (Dw.aW t).shown,S) else none
 | none=>none
theorem qI {k:Nat} (hr:Room k X.A):aN X (.builtin "repr") (r1 (rS1 X.K i7)):=by
 refine aN.imp (Dw.qk hr) fun xs H Q h=>?_
 obtain ⟨x,rfl,m,S,a,d,S',R,va,e,q⟩:=cb h
 unfold i7 at e
 cases ht:cn 100 S a with
 | none=>rw [ht] at e;cases e
 | some t=>
  rw [ht] at e
  dsimp only at e
  split at e
  ·rename_i hs
   cases e
   exact ⟨x,[],t,rfl,jE R 100 a t x ht va,hs,q m H _ (Aft.refl R) mR⟩
  ·cases e
end
end Ev
namespace Ev
open PySem PySem.Spec PyProof.Rows L2
noncomputable abbrev Nxt:=Nat->Sto->Option (Option D)
noncomputable abbrev XI:=Rho->Sto->Option (Nxt × Sto)
structure ExtB (B:List Addr) (m:List Addr) (H:Hp) (m':List Addr) (H':Hp):Prop where
 pre:m <+: m'
 keep:∀ a o,H a=some o->a ∉ m->a ∉ B->H' a=some o
 new:∀ a,a ∈ m'->a ∉ m->H a=none
 nb:∀ b,b ∈ B->b ∉ m'
noncomputable def AtB (B:List Addr) (m:List Addr) (H:Hp):Prop:=∀ b,b ∈ B->(∃ vs,H b=some (.lst vs))/\b ∉ m
theorem Ext.toB {B m m':List Addr} {H H':Hp} (hB:AtB B m H) (x:Ext m H m' H'):ExtB B m H m' H':=⟨x.pre,fun a o h n _=>x.keep a o h n,x.new,fun b hb z=>by
 obtain ⟨⟨vs,e⟩,n⟩:=hB b hb
 have:=x.new b z n
 rw [e] at this;cases this⟩
theorem ExtB.trans {B m m1 m2:List Addr} {H H1 H2:Hp} (x:ExtB B m H m1 H1) (y:ExtB B m1 H1 m2 H2):ExtB B m H m2 H2:=by
 refine ⟨x.pre.trans y.pre,fun a o h n nb=>?_,fun a h n=>?_,y.nb⟩
 ·have n1:a ∉ m1:=fun z=>by have:=x.new a z n;rw [this] at h;cases h
  exact y.keep a o (x.keep a o h n nb) n1 nb
 ·by_cases h1:a ∈ m1
  ·exact x.new a h1 n
  ·cases e:H a with
   | none=>rfl
   | some o=>
    by_cases hb:a ∈ B
    ·exact absurd h (y.nb a hb)
    ·have:=x.keep a o e n hb
     rw [y.new a h h1] at this;cases this
theorem AtB.ext {B m m':List Addr} {H H':Hp} (hB:AtB B m H) (x:Ext m H m' H'):AtB B m' H':=fun b hb=>by
 obtain ⟨⟨vs,e⟩,n⟩:=hB b hb
 exact ⟨⟨vs,x.keep _ _ e n⟩,(x.toB hB).nb b hb⟩
noncomputable def IOk (K:PySem.W.Frag) (B:List Addr) (J:It) (nx:Nxt) (m0:List Addr) (H0:Hp):Prop:=∀ (m:List Addr) (S:Sto) (H:Hp) (i:Nat),ExtB B m0 H0 m H->Rel K m S H ->
 (nx i S=some none->J.stop i H)/\(∀ d,nx i S=some (some d)->J.go i H/\∀ x H',J.yld i H x H'->Aft K m H S m H'/\VD K m H' d x)
noncomputable def tIt (K:PySem.W.Frag) (B:List Addr) (x:XI):TI:=fun σ H R=>∃ m ρ S nx S',EnvR K m H ρ σ/\Rel K m S H/\AtB B m H/\x ρ S=some (nx,S')/\∀ m' H' J,Aft K m H S' m' H'->IOk K B J nx m' H'->R J H'
noncomputable def nxL (ds:List D):Nxt:=fun i _=>some ds[i]?
noncomputable def nxS (n:Nat):Nxt:=fun i S=>(am S n).map fun ds=>ds[i]?
noncomputable def nxR (lo:Int) (n:Nat):Nxt:=fun i _=>some (if i < n then some (.int (lo+i)) else none)
noncomputable def eT (i:Nat) (d:D):D:=.tup [.int i,d]
noncomputable def enm (ds:List D) (i:Nat):Option (Option D):=if i<=ds.length then some (ds[i]?.map (eT i)) else none
noncomputable def m9 (ds:List D):Nxt:=fun i _=>enm ds i
noncomputable def wX (n:Nat):Nxt:=fun i S=>(am S n).bind fun ds=>enm ds i
section
variable {X:Cx} {K:PySem.W.Frag} {m B:List Addr} {H:Hp} {S:Sto}
theorem Ak {m0 m:List Addr} {H0 H:Hp} {S0:Sto} {a:Addr} {xs:List V} (R:Rel K m0 S0 H0) (hB:AtB B m0 H0) (x:ExtB B m0 H0 m H) (h:H0 a=some (.tup xs)):H a=some (.tup xs):=x.keep _ _ h (R.notTup h) fun z=>by
 obtain ⟨⟨vs,e⟩,_⟩:=hB a z
 rw [e] at h;cases h
theorem VDs.monoB {m0 m:List Addr} {H0 H:Hp} {S0:Sto} {ds:List D} {vs:List V} (R:Rel K m0 S0 H0) (hB:AtB B m0 H0) (x:ExtB B m0 H0 m H) (h:VDs K m0 H0 ds vs):VDs K m H ds vs:=VDs.mono0 x.pre (fun _ _=>Ak R hB x) h
theorem VD.monoB {m0 m:List Addr} {H0 H:Hp} {S0:Sto} {d:D} {v:V} (R:Rel K m0 S0 H0) (hB:AtB B m0 H0) (x:ExtB B m0 H0 m H) (h:VD K m0 H0 d v):VD K m H d v:=VD.mono0 x.pre (fun _ _=>Ak R hB x) h
theorem EnvR.monoB {m0 m:List Addr} {H0 H:Hp} {S0:Sto} {ρ:Rho} {σ:L2.St} (R:Rel K m0 S0 H0) (hB:AtB B m0 H0) (x:ExtB B m0 H0 m H) (h:EnvR K m0 H0 ρ σ):EnvR K m H ρ σ:=
 ⟨h.len,fun i d e=>let ⟨v,p,q⟩:=h.at_ i d e;⟨v,p,VD.monoB R hB x q⟩⟩
theorem oY {a:Addr} {nx:Nxt} {m0:List Addr} {H0:Hp} (h:∀ m S H i o,ExtB B m0 H0 m H->Rel K m S H->nx i S=some o->∃ ds vs,o=ds[i]?/\SqL K H a vs/\VDs K m H ds vs):IOk K B (Itl K a) nx m0 H0:=by
 intro m S H i x R
 refine ⟨fun e=>?_,fun d e=>?_⟩
 ·obtain ⟨ds,vs,e',sq,vd⟩:=h m S H i _ x R e
  exact ⟨vs,sq,by rw [<-vd.length];exact List.getElem?_eq_none_iff.mp e'.symm⟩
 ·obtain ⟨ds,vs,e',sq,vd⟩:=h m S H i _ x R e
  obtain ⟨v,hv,vv⟩:=vd.get e'.symm
  refine ⟨⟨vs,v,sq,hv⟩,fun y H' ⟨eH,hy⟩=>?_⟩
  subst eH
  have:=hy vs sq
  rw [hv] at this
  cases this
  exact ⟨Aft.refl R,vv⟩
theorem Al {a:Addr} {ds:List D} {vs:List V} {m0:List Addr} {H0:Hp} {S0:Sto} (R0:Rel K m0 S0 H0) (hB:AtB B m0 H0) (sq:H0 a=some (.tup vs)) (vd:VDs K m0 H0 ds vs):IOk K B (Itt K a) (nxL ds) m0 H0:=by
 intro m S H i x R
 have sq':SqT K H a vs:=.of (Ak R0 hB x sq)
 have vd':=vd.monoB R0 hB x
 refine ⟨fun e=>⟨vs,sq',?_⟩,fun d e=>?_⟩
 ·rw [<-vd'.length];exact List.getElem?_eq_none_iff.mp (Option.some.inj e)
 ·obtain ⟨v,hv,vv⟩:=vd'.get (Option.some.inj e)
  refine ⟨⟨vs,v,sq',hv⟩,fun y H' ⟨eH,hy⟩=>?_⟩
  subst eH
  have:=hy vs sq'
  rw [hv] at this
  cases this
  exact ⟨Aft.refl R,vv⟩
theorem sg {lo:Int} {n:Nat} {m0:List Addr} {H0:Hp}:IOk K B (Itr lo n) (nxR lo n) m0 H0:=by
 intro m S H i x R
 unfold nxR
 refine ⟨fun e=>?_,fun d e=>?_⟩
 ·split at e
  ·cases e
  ·show n<=i;omega
 ·split at e
  ·rename_i hi
   cases e
   exact ⟨hi,fun y H' ⟨eH,hy⟩=>by subst eH;subst hy;exact ⟨Aft.refl R,bu⟩⟩
  ·cases e
theorem nc {a:Addr} {sqf:PySem.W.Frag->Hp->Addr->List V->Prop} {nx:Nxt} {m0:List Addr} {H0:Hp} (h:∀ m S H i o,ExtB B m0 H0 m H->Rel K m S H->nx i S=some o->∃ ds vs,enm ds i=some o/\sqf K H a vs/\VDs K m H ds vs):IOk K B (Ite K a sqf) nx m0 H0:=by
 intro m S H i x R
 refine ⟨fun e=>?_,fun d e=>?_⟩
 ·obtain ⟨ds,vs,e',sq,vd⟩:=h m S H i _ x R e
  unfold enm at e'
  split at e'
  ·rename_i hl
   refine ⟨vs,sq,?_⟩
   rw [<-vd.length]
   cases hd:ds[i]? with
   | none=>have:=List.getElem?_eq_none_iff.mp hd;omega
   | some z=>rw [hd] at e';cases e'
  ·cases e'
 ·obtain ⟨ds,vs,e',sq,vd⟩:=h m S H i _ x R e
  unfold enm at e'
  split at e'
  ·cases hd:ds[i]? with
   | none=>rw [hd] at e';cases e'
   | some z=>
    rw [hd] at e'
    cases e'
    obtain ⟨v,hv,vv⟩:=vd.get hd
    refine ⟨⟨vs,v,sq,hv⟩,fun y H' ⟨T,hT,ey,hy⟩=>?_⟩
    subst ey
    have eH:=hy vs v sq hv
    subst eH
    have xb:=Ext.beside R hT (.tup [.int i,v])
    exact ⟨⟨xb,R.beside hT _⟩,mS bj (.cons bu (.cons (vv.mono R xb) .nil))⟩
  ·cases e'
noncomputable def Lp (d:D):Option Nxt:=match d with
 | .tup ds=>some (nxL ds)
 | .ref n=>some (nxS n)
 | _=>none
noncomputable def xIV (x:XE):XI:=fun ρ S=>bnd (x ρ S) fun d S1=>match d with
 | .tup ds=>some (nxL ds,S1)
 | .ref n=>if (am S1 n).isSome=true then some (nxS n,S1) else none
 | _=>none
noncomputable def xIT (x:XA):XI:=fun ρ S=>bnd (x ρ S) fun ds S1=>some (nxL ds,S1)
noncomputable def xEV (x:XE):XI:=fun ρ S=>bnd (x ρ S) fun d S1=>match d with
 | .tup ds=>some (m9 ds,S1)
 | .ref n=>if (am S1 n).isSome=true then some (wX n,S1) else none
 | _=>none
noncomputable def xET (x:XA):XI:=fun ρ S=>bnd (x ρ S) fun ds S1=>some (m9 ds,S1)
noncomputable def lim (i:Int):Bool:=decide (-(2 ^ 62)<=i) && decide (i < 2 ^ 62)
noncomputable def xR1 (x:XE):XI:=fun ρ S=>bnd (x ρ S) fun d S1=>match d with
 | .int j=>if lim j=true then some (nxR 0 j.toNat,S1) else none
 | _=>none
noncomputable def xR2 (x y:XE):XI:=fun ρ S=>bnd (x ρ S) fun d S1=>bnd (y ρ S1) fun e S2=>match d,e with
 | .int i,.int j=>if lim i=true/\lim j=true then some (nxR i (j - i).toNat,S2) else none
 | _,_=>none
theorem iL {i:Int} (h:lim i=true):-(2 ^ 62)<=i/\i < 2 ^ 62:=by simpa [lim] using h
theorem jF {n:Nat} {a:Addr} {m0:List Addr} (ha:m0[n]?=some a) {m:List Addr} {S:Sto} {H:Hp} (x:m0 <+: m) (R:Rel K m S H) {ds:List D} (hs:am S n=some ds):∃ vs,SqL K H a vs/\VDs K m H ds vs:=by
 obtain ⟨p,vs,hp,sq,vd⟩:=R.seq hs
 have:=jA x ha
 rw [this] at hp
 cases hp
 exact ⟨vs,sq,vd⟩
theorem Je {a:Addr} (hB:AtB B m H) (h:H a=none):a ∉ B:=fun z=>by
 obtain ⟨⟨vs,e⟩,_⟩:=hB a z
 rw [h] at e;cases e
theorem KZ {x:XE} {σ:L2.St} {H:Hp} {R:It->Hp->Prop} (h:tIt K B (xIV x) σ H R):vG K (tE K x) σ H R\/Ir K (tE K x) σ H R:=by
 obtain ⟨m,ρ,S,nx,S',E,Rl,hB,e,q⟩:=h
 obtain ⟨d,S1,e1,e⟩:=aa e
 cases d with
 | tup ds=>
  cases e
  refine .inr ⟨m,ρ,S,_,_,E,Rl,e1,fun m1 H1 v A1 vd=>?_⟩
  obtain ⟨a,vs,rfl,sq,vds⟩:=vd.tups
  exact ⟨a,rfl,⟨vs,.of sq⟩,q m1 H1 _ A1 (Al A1.rel (hB.ext A1.ext) sq vds)⟩
 | ref n=>
  dsimp only at e
  split at e
  ·rename_i hs
   cases e
   refine .inl ⟨m,ρ,S,_,_,E,Rl,e1,fun m1 H1 v A1 vd=>?_⟩
   obtain ⟨a,ha,rfl⟩:=vd.refs
   obtain ⟨ds,hds⟩:=Option.isSome_iff_exists.mp hs
   obtain ⟨vs,sq,vds⟩:=jF ha (List.prefix_refl _) A1.rel hds
   refine ⟨a,rfl,⟨vs,sq⟩,q m1 H1 _ A1 (oY fun m2 S2 H2 i o x2 R2 e2=>?_)⟩
   unfold nxS at e2
   cases h2:am S2 n with
   | none=>rw [h2] at e2;cases e2
   | some es=>
    rw [h2] at e2
    cases e2
    obtain ⟨ws,sq2,vd2⟩:=jF ha x2.pre R2 h2
    exact ⟨es,ws,rfl,sq2,vd2⟩
  ·cases e
 | _=>cases e
theorem K0 {x:XA} {σ:L2.St} {H:Hp} {R:It->Hp->Prop} (h:tIt K B (xIT x) σ H R):vG K (dN K x) σ H R:=by
 obtain ⟨m,ρ,S,nx,S',E,Rl,hB,e,q⟩:=h
 obtain ⟨ds,S1,e1,e⟩:=aa e
 cases e
 refine ⟨m,ρ,S,_,_,E,Rl,e1,fun m1 H1 a vs A1 sq n1 n2 n3 vd=>⟨a,rfl,⟨vs,.of sq⟩,q m1 H1 _ A1 (oY fun m2 S2 H2 i o x2 R2 e2=>?_)⟩⟩
 cases e2
 exact ⟨ds,vs,rfl,.of (x2.keep _ _ sq n1 (Je hB n3)),vd.monoB A1.rel (hB.ext A1.ext) x2⟩
theorem Jf {x:XE} {σ:L2.St} {H:Hp} {R:It->Hp->Prop} (h:tIt K B (xEV x) σ H R):Eb K (eD (tE K x) me) σ H R\/IW K (eD (tE K x) me) σ H R:=by
 obtain ⟨m,ρ,S,nx,S',E,Rl,hB,e,q⟩:=h
 obtain ⟨d,S1,e1,e⟩:=aa e
 cases d with
 | tup ds=>
  cases e
  refine .inr ⟨m,ρ,S,_,_,E,Rl,e1,fun m1 H1 v A1 vd=>?_⟩
  obtain ⟨a,vs,rfl,sq,vds⟩:=vd.tups
  refine ⟨a,vs,rfl,.of sq,q m1 H1 _ A1 (nc fun m2 S2 H2 i o x2 R2 e2=>⟨ds,vs,e2,.of (Ak A1.rel (hB.ext A1.ext) x2 sq),vds.monoB A1.rel (hB.ext A1.ext) x2⟩)⟩
 | ref n=>
  dsimp only at e
  split at e
  ·rename_i hs
   cases e
   refine .inl ⟨m,ρ,S,_,_,E,Rl,e1,fun m1 H1 v A1 vd=>?_⟩
   obtain ⟨a,ha,rfl⟩:=vd.refs
   obtain ⟨ds,hds⟩:=Option.isSome_iff_exists.mp hs
   obtain ⟨vs,sq,vds⟩:=jF ha (List.prefix_refl _) A1.rel hds
   refine ⟨a,vs,rfl,sq,q m1 H1 _ A1 (nc fun m2 S2 H2 i o x2 R2 e2=>?_)⟩
   unfold wX at e2
   cases h2:am S2 n with
   | none=>rw [h2] at e2;cases e2
   | some es=>
    rw [h2] at e2
    obtain ⟨ws,sq2,vd2⟩:=jF ha x2.pre R2 h2
    exact ⟨es,ws,e2,sq2,vd2⟩
  ·cases e
 | _=>cases e
theorem Jg {x:XA} {σ:L2.St} {H:Hp} {R:It->Hp->Prop} (h:tIt K B (xET x) σ H R):Eb K (eD (dN K x) me) σ H R:=by
 obtain ⟨m,ρ,S,nx,S',E,Rl,hB,e,q⟩:=h
 obtain ⟨ds,S1,e1,e⟩:=aa e
 cases e
 exact ⟨m,ρ,S,_,_,E,Rl,e1,fun m1 H1 a vs A1 sq n1 n2 n3 vd=>⟨a,vs,rfl,.of sq,q m1 H1 _ A1 (nc fun m2 S2 H2 i o x2 R2 e2=>⟨ds,vs,e2,.of (x2.keep _ _ sq n1 (Je hB n3)),vd.monoB A1.rel (hB.ext A1.ext) x2⟩)⟩⟩
theorem Jh {x:XE} {σ:L2.St} {H:Hp} {R:It->Hp->Prop} (h:tIt K B (xR1 x) σ H R):CO (eD (tE K x) me) σ H R:=by
 obtain ⟨m,ρ,S,nx,S',E,Rl,hB,e,q⟩:=h
 obtain ⟨d,S1,e1,e⟩:=aa e
 refine ⟨m,ρ,S,d,S1,E,Rl,e1,fun m1 H1 v A1 vd=>?_⟩
 cases d with
 | int j=>
  dsimp only at e
  split at e
  ·rename_i hl
   cases e
   exact ⟨j,by rw [vd.ints],(iL hl).1,(iL hl).2,q m1 H1 _ A1 sg⟩
  ·cases e
 | _=>cases e
theorem Ji {x y:XE} {σ:L2.St} {H:Hp} {R:It->Hp->Prop} (h:tIt K B (xR2 x y) σ H R):CP (eD (tE K x) (eD (tE K y) me)) σ H R:=by
 obtain ⟨m,ρ,S,nx,S',E,Rl,hB,e,q⟩:=h
 obtain ⟨d,S1,e1,e⟩:=aa e
 obtain ⟨c,S2,e2,e⟩:=aa e
 refine ⟨m,ρ,S,d,S1,E,Rl,e1,fun m1 H1 v A1 vd=>⟨m1,ρ,S1,c,S2,E.mono Rl A1.ext,A1.rel,e2,fun m2 H2 w A2 vc=>?_⟩⟩
 cases d with
 | int i=>
  cases c with
  | int j=>
   dsimp only at e
   split at e
   ·rename_i hl
    cases e
    exact ⟨i,j,by rw [vd.ints,vc.ints],⟨(iL hl.1).1,(iL hl.1).2,(iL hl.2).1,(iL hl.2).2⟩,q m2 H2 _ (A1.trans A2) sg⟩
   ·cases e
  | _=>cases e
 | _=>cases e
inductive Tg where
 | name (i:Nat) | tup (ts:List Tg)
mutual
noncomputable def aB:Tg->D->Rho->Option Rho
 | .name i,d,ρ=>if i < ρ.length then some (ρ.set i (some d)) else none
 | .tup ts,.tup ds,ρ=>aI ts ds ρ
 | _,_,_=>none
noncomputable def aI:List Tg->List D->Rho->Option Rho
 | [],[],ρ=>some ρ
 | t::ts,d::ds,ρ=>match aB t d ρ with
  | some ρ'=>aI ts ds ρ'
  | none=>none
 | _,_,_=>none
end
noncomputable def tTg (K:PySem.W.Frag) (t:Tg):TG:=fun x σ H Q=>∃ m S ρ d ρ',Rel K m S H/\EnvR K m H ρ σ/\VD K m H d x/\aB t d ρ=some ρ'/\∀ σ',EnvR K m H ρ' σ'->Q σ' H
noncomputable def wY (K:PySem.W.Frag) (ts:List Tg):TGs:=fun xs σ H Q=>∃ m S ρ ds ρ',Rel K m S H/\EnvR K m H ρ σ/\VDs K m H ds xs/\aI ts ds ρ=some ρ'/\∀ σ',EnvR K m H ρ' σ'->Q σ' H
theorem EnvR.set {ρ:Rho} {σ:L2.St} {i:Nat} {d:D} {v:V} (E:EnvR K m H ρ σ) (h:VD K m H d v):EnvR K m H (ρ.set i (some d)) (σ.set i (some v)):=by
 refine ⟨by simp [E.len],fun j d' e=>?_⟩
 rw [List.getElem?_set] at e
 rw [List.getElem?_set,<-E.len]
 by_cases hj:i=j
 ·rw [if_pos hj] at e ⊢
  split at e
  ·rename_i hl
   rw [if_pos hl]
   cases e
   exact ⟨v,rfl,h⟩
  ·cases e
 ·rw [if_neg hj] at e ⊢
  exact E.at_ j d' e
theorem ng {i:Nat} {x:V} {σ:L2.St} {H:Hp} {Q:L2.St->Hp->Prop} (h:tTg K (.name i) x σ H Q):nX i x σ H Q:=by
 obtain ⟨m,S,ρ,d,ρ',R,E,vd,e,q⟩:=h
 simp only [aB] at e
 split at e
 ·cases e;exact q _ (E.set vd)
 ·cases e
theorem ER {ts:List Tg} {n:Nat} {x:V} {σ:L2.St} {H:Hp} {Q:L2.St->Hp->Prop} (hn:n=ts.length) (h:tTg K (.tup ts) x σ H Q):Io K n (wY K ts) x σ H Q:=by
 obtain ⟨m,S,ρ,d,ρ',R,E,vd,e,q⟩:=h
 cases d with
 | tup ds=>
  simp only [aB] at e
  obtain ⟨a,vs,rfl,sq,vds⟩:=vd.tups
  refine ⟨a,vs,rfl,.of sq,?_,m,S,ρ,ds,ρ',R,E,vds,e,q⟩
  have len:∀ (ts:List Tg) (ds:List D) (ρ ρ':Rho),aI ts ds ρ=some ρ'->ts.length=ds.length:=by
   intro ts
   induction ts with
   | nil=>intro ds ρ ρ' e;cases ds with | nil=>rfl | cons _ _=>simp [aI] at e
   | cons t ts ih=>
    intro ds ρ ρ' e
    cases ds with
    | nil=>simp [aI] at e
    | cons d ds=>
     simp only [aI] at e
     split at e
     ·simp [ih _ _ _ e]
     ·cases e
  rw [hn,<-vds.length]
  exact (len _ _ _ _ e).symm
 | _=>simp [aB] at e
theorem Am {xs:List V} {σ:L2.St} {H:Hp} {Q:L2.St->Hp->Prop} (h:wY K [] xs σ H Q):Im xs σ H Q:=by
 obtain ⟨m,S,ρ,ds,ρ',R,E,vd,e,q⟩:=h
 cases ds with
 | nil=>simp [aI] at e;subst e;rw [VDs] at vd;exact ⟨vd,q _ E⟩
 | cons _ _=>simp [aI] at e
theorem wZ {t:Tg} {ts:List Tg} {xs:List V} {σ:L2.St} {H:Hp} {Q:L2.St->Hp->Prop} (h:wY K (t::ts) xs σ H Q):CN (tTg K t) (wY K ts) xs σ H Q:=by
 obtain ⟨m,S,ρ,ds,ρ',R,E,vd,e,q⟩:=h
 cases ds with
 | nil=>simp [aI] at e
 | cons d ds=>
  simp only [aI] at e
  rw [VDs] at vd
  obtain ⟨y,r,rfl,p,p'⟩:=vd
  cases hb:aB t d ρ with
  | none=>rw [hb] at e;cases e
  | some ρ1=>
   rw [hb] at e
   exact ⟨y,r,rfl,m,S,ρ,d,ρ1,R,E,p,hb,fun σ' E'=>⟨m,S,ρ1,ds,ρ',R,E',p',e,q⟩⟩
theorem PG.imp {e:Expr} {t t':TG} (h:PG X e t) (f:∀ x σ H Q,t' x σ H Q->t x σ H Q):PG X e t':=fun pins s σ H v u Q I r q=>h pins s σ H v u Q I r (f v σ H Q q)
theorem PGs.imp {es:List Expr} {t t':TGs} (h:PGs X es t) (f:∀ x σ H Q,t' x σ H Q->t x σ H Q):PGs X es t':=fun pins s σ H v u Q I r q=>h pins s σ H v u Q I r (f v σ H Q q)
end
end Ev
namespace Ev
open PySem PySem.Spec PyProof.Rows L2
inductive Fl where
 | nx | bk | ct | rt (d:D)
noncomputable abbrev XS:=Rho->Sto->Option (Fl × Rho × Sto)
noncomputable def si (K:PySem.W.Frag) (m:List Addr) (H:Hp) (fl:Fl) (ρ:Rho) (D:Ends):Prop:=match fl with
 | .nx=>∀ σ,EnvR K m H ρ σ->D.nx σ H
 | .bk=>∀ σ,EnvR K m H ρ σ->D.bk σ H
 | .ct=>∀ σ,EnvR K m H ρ σ->D.ct σ H
 | .rt d=>∀ v,VD K m H d v->D.rt v H
noncomputable def tSt (K:PySem.W.Frag) (x:XS):TS:=fun D σ H=>∃ m ρ S fl ρ' S',EnvR K m H ρ σ/\Rel K m S H/\x ρ S=some (fl,ρ',S')/\∀ m' H',Aft K m H S' m' H'->si K m' H' fl ρ' D
section
variable {X:Cx} {K:PySem.W.Frag} {m:List Addr} {H:Hp} {S:Sto}
noncomputable def w4 (x y:XS):XS:=fun ρ S=>match x ρ S with
 | none=>none
 | some (.nx,ρ1,S1)=>y ρ1 S1
 | some r=>some r
noncomputable def w5:XS:=fun ρ S=>some (.nx,ρ,S)
theorem sj {D:Ends} {σ:L2.St} {H:Hp} (h:tSt K w5 D σ H):vn D σ H:=by
 obtain ⟨m,ρ,S,fl,ρ',S',E,R,e,q⟩:=h
 cases e
 exact q m H (Aft.refl R) σ E
theorem ES {x y:XS} {D:Ends} {σ:L2.St} {H:Hp} (h:tSt K (w4 x y) D σ H):Ii (tSt K x) (tSt K y) D σ H:=by
 obtain ⟨m,ρ,S,fl,ρ',S',E,R,e,q⟩:=h
 unfold w4 at e
 cases hx:x ρ S with
 | none=>rw [hx] at e;cases e
 | some r=>
  obtain ⟨f1,ρ1,S1⟩:=r
  rw [hx] at e
  refine ⟨m,ρ,S,f1,ρ1,S1,E,R,hx,fun m1 H1 A1=>?_⟩
  cases f1 with
  | nx=>exact fun σ1 E1=>⟨m1,ρ1,S1,fl,ρ',S',E1,A1.rel,e,fun m2 H2 A2=>q m2 H2 (A1.trans A2)⟩
  | bk=>cases e;exact q m1 H1 A1
  | ct=>cases e;exact q m1 H1 A1
  | rt d=>cases e;exact q m1 H1 A1
noncomputable def oZ (x:XE):XS:=fun ρ S=>match x ρ S with
 | none=>none
 | some (_,S1)=>some (.nx,ρ,S1)
noncomputable def w6 (x:XE):XS:=fun ρ S=>match x ρ S with
 | none=>none
 | some (d,S1)=>some (.rt d,ρ,S1)
noncomputable def C2:XS:=fun ρ S=>some (.rt .non,ρ,S)
noncomputable def Jj:XS:=fun ρ S=>some (.bk,ρ,S)
noncomputable def Jk:XS:=fun ρ S=>some (.ct,ρ,S)
theorem An {x:XE} {D:Ends} {σ:L2.St} {H:Hp} (h:tSt K (oZ x) D σ H):CL (tE K x) D σ H:=by
 obtain ⟨m,ρ,S,fl,ρ',S',E,R,e,q⟩:=h
 unfold oZ at e
 cases hx:x ρ S with
 | none=>rw [hx] at e;cases e
 | some r=>
  obtain ⟨d,S1⟩:=r
  rw [hx] at e
  cases e
  exact ⟨m,ρ,S,d,_,E,R,hx,fun m1 H1 v A1 _=>q m1 H1 A1 σ (E.mono R A1.ext)⟩
theorem ET {x:XE} {D:Ends} {σ:L2.St} {H:Hp} (h:tSt K (w6 x) D σ H):Ij (tE K x) D σ H:=by
 obtain ⟨m,ρ,S,fl,ρ',S',E,R,e,q⟩:=h
 unfold w6 at e
 cases hx:x ρ S with
 | none=>rw [hx] at e;cases e
 | some r=>
  obtain ⟨d,S1⟩:=r
  rw [hx] at e
  cases e
  exact ⟨m,ρ,S,d,_,E,R,hx,fun m1 H1 v A1 vd=>q m1 H1 A1 v vd⟩
theorem Ao {D:Ends} {σ:L2.St} {H:Hp} (h:tSt K C2 D σ H):CM D σ H:=by
 obtain ⟨m,ρ,S,fl,ρ',S',E,R,e,q⟩:=h
 cases e
 exact q m H (Aft.refl R) .non mQ
theorem EU {D:Ends} {σ:L2.St} {H:Hp} (h:tSt K Jj D σ H):vp D σ H:=by
 obtain ⟨m,ρ,S,fl,ρ',S',E,R,e,q⟩:=h
 cases e
 exact q m H (Aft.refl R) σ E
theorem EV {D:Ends} {σ:L2.St} {H:Hp} (h:tSt K Jk D σ H):CK D σ H:=by
 obtain ⟨m,ρ,S,fl,ρ',S',E,R,e,q⟩:=h
 cases e
 exact q m H (Aft.refl R) σ E
noncomputable def xIf (c:XT) (x y:XS):XS:=fun ρ S=>match c ρ S with
 | none=>none
 | some (b,S1)=>if b=true then x ρ S1 else y ρ S1
theorem Jl {c:XT} {x y:XS} {D:Ends} {σ:L2.St} {H:Hp} (h:tSt K (xIf c x y) D σ H):Ik (tT K c) (tSt K x) (tSt K y) D σ H:=by
 obtain ⟨m,ρ,S,fl,ρ',S',E,R,e,q⟩:=h
 unfold xIf at e
 cases hc:c ρ S with
 | none=>rw [hc] at e;cases e
 | some r=>
  obtain ⟨b,S1⟩:=r
  rw [hc] at e
  dsimp only at e
  refine ⟨m,ρ,S,b,S1,E,R,hc,fun m1 H1 A1=>?_⟩
  dsimp only
  split
  ·rename_i hb
   rw [if_pos hb] at e
   exact ⟨m1,ρ,S1,fl,ρ',S',E.mono R A1.ext,A1.rel,e,fun m2 H2 A2=>q m2 H2 (A1.trans A2)⟩
  ·rename_i hb
   rw [if_neg hb] at e
   exact ⟨m1,ρ,S1,fl,ρ',S',E.mono R A1.ext,A1.rel,e,fun m2 H2 A2=>q m2 H2 (A1.trans A2)⟩
noncomputable def ki (x:XE) (t:Tg):XS:=fun ρ S=>match x ρ S with
 | none=>none
 | some (d,S1)=>(aB t d ρ).map fun ρ1=>(.nx,ρ1,S1)
theorem qJ {x:XE} {t:Tg} {D:Ends} {σ:L2.St} {H:Hp} (h:tSt K (ki x t) D σ H):vB (tE K x) (tTg K t) D σ H:=by
 obtain ⟨m,ρ,S,fl,ρ',S',E,R,e,q⟩:=h
 unfold ki at e
 cases hx:x ρ S with
 | none=>rw [hx] at e;cases e
 | some r=>
  obtain ⟨d,S1⟩:=r
  rw [hx] at e
  dsimp only at e
  cases hb:aB t d ρ with
  | none=>rw [hb] at e;cases e
  | some ρ1=>
   rw [hb] at e
   cases e
   exact ⟨m,ρ,S,d,_,E,R,hx,fun m1 H1 v A1 vd=>⟨m1,_,ρ,d,_,A1.rel,E.mono R A1.ext,vd,hb,fun σ' E'=>q m1 H1 A1 σ' E'⟩⟩
noncomputable def o0 (v o i:XE):XS:=fun ρ S=>match v ρ S with
 | none=>none
 | some (dv,S1)=>match o ρ S1 with
  | none=>none
  | some (d_o,S2)=>match i ρ S2 with
   | none=>none
   | some (di,S3)=>(k7 d_o di dv S3).map fun S4=>(.nx,ρ,S4)
theorem Ap {v o i:XE} {D:Ends} {σ:L2.St} {H:Hp} (h:tSt K (o0 v o i) D σ H):vB (tE K v) (Ip (tE K o) (tE K i) (Jc K)) D σ H:=by
 obtain ⟨m,ρ,S,fl,ρ',S',E,R,e,q⟩:=h
 unfold o0 at e
 cases h1:v ρ S with
 | none=>rw [h1] at e;cases e
 | some r1=>
  obtain ⟨dv,S1⟩:=r1
  rw [h1] at e
  dsimp only at e
  cases h2:o ρ S1 with
  | none=>rw [h2] at e;cases e
  | some r2=>
   obtain ⟨d2,S2⟩:=r2
   rw [h2] at e
   dsimp only at e
   cases h3:i ρ S2 with
   | none=>rw [h3] at e;cases e
   | some r3=>
    obtain ⟨d3,S3⟩:=r3
    rw [h3] at e
    dsimp only at e
    cases h4:k7 d2 d3 dv S3 with
    | none=>rw [h4] at e;cases e
    | some S4=>
     rw [h4] at e
     cases e
     refine ⟨m,ρ,S,dv,S1,E,R,h1,fun m1 H1 v1 A1 vd1=>⟨m1,ρ,S1,d2,S2,E.mono R A1.ext,A1.rel,h2,fun m2 H2 v2 A2 vd2=>⟨m2,ρ,S2,d3,S3,E.mono R (A1.trans A2).ext,A2.rel,h3,fun m3 H3 v3 A3 vd3=>?_⟩⟩⟩
     exact ⟨m3,S3,d2,d3,dv,_,A3.rel,vd2.mono A2.rel A3.ext,vd3,vd1.mono A1.rel (A2.trans A3).ext,h4,fun m4 H4 A4=>q m4 H4 (((A1.trans A2).trans A3).trans A4) σ (E.mono R (((A1.trans A2).trans A3).trans A4).ext)⟩
noncomputable def eM (nx:Nxt) (tg:Tg) (b:XS):Nat->Nat->XS
 | 0,_=>fun _ _=>none
 | k+1,i=>fun ρ S=>match nx i S with
  | none=>none
  | some none=>some (.nx,ρ,S)
  | some (some d)=>match aB tg d ρ with
   | none=>none
   | some ρ1=>match b ρ1 S with
    | none=>none
    | some (.nx,ρ2,S2)=>eM nx tg b k (i+1) ρ2 S2
    | some (.ct,ρ2,S2)=>eM nx tg b k (i+1) ρ2 S2
    | some (.bk,ρ2,S2)=>some (.nx,ρ2,S2)
    | some (.rt d,ρ2,S2)=>some (.rt d,ρ2,S2)
noncomputable def w8 (it:XI) (tg:Tg) (b:XS) (k:Nat):XS:=fun ρ S=>match it ρ S with
 | none=>none
 | some (nx,S1)=>eM nx tg b k 0 ρ S1
theorem Aq {nx:Nxt} {tg:Tg} {b:XS} {J:It} {m1:List Addr} {H1:Hp} {D:Ends} (hI:IOk K [] J nx m1 H1) (k:Nat) {m:List Addr} {ρ:Rho} {S:Sto} {σ:L2.St} {H:Hp} {fl:Fl} {ρ':Rho} {S':Sto} (E:EnvR K m H ρ σ) (R:Rel K m S H) (x:Ext m1 H1 m H) (e:eM nx tg b k 0 ρ S=some (fl,ρ',S')) (q:∀ m' H',Aft K m H S' m' H'->si K m' H' fl ρ' D) :
  ∃ W:Nat->Nat->L2.St->Hp->Prop,(∃ m,W 0 m σ H)/\∀ i m σ H,W i m σ H ->
   (J.stop i H/\D.nx σ H)\/(J.go i H/\∃ N:L2.St->Hp->Prop,(∀ σ' H',N σ' H'->∃ m',m' < m/\W (i+1) m' σ' H')/\∀ x H',J.yld i H x H'->tTg K tg x σ H' fun σ2 H2=>tSt K b { D with nx:=N,ct:=N,bk:=D.nx } σ2 H2):=by
 refine ⟨fun i k σ H=>∃ m ρ S fl ρ' S',EnvR K m H ρ σ/\Rel K m S H/\Ext m1 H1 m H/\eM nx tg b k i ρ S=some (fl,ρ',S')/\∀ m' H',Aft K m H S' m' H'->si K m' H' fl ρ' D,⟨k,m,ρ,S,fl,ρ',S',E,R,x,e,q⟩,?_⟩
 intro i k σ H ⟨m,ρ,S,fl,ρ',S',E,R,x,e,q⟩
 cases k with
 | zero=>simp [eM] at e
 | succ k=>
  simp only [eM] at e
  cases hn:nx i S with
  | none=>rw [hn] at e;cases e
  | some o=>
   rw [hn] at e
   obtain ⟨h1,h2⟩:=hI m S H i (x.toB fun b hb=>absurd hb (by simp)) R
   cases o with
   | none=>cases e;exact .inl ⟨h1 hn,q m H (Aft.refl R) σ E⟩
   | some d=>
    obtain ⟨go,hy⟩:=h2 d hn
    dsimp only at e
    cases hb:aB tg d ρ with
    | none=>rw [hb] at e;cases e
    | some ρ1=>
     rw [hb] at e
     dsimp only at e
     cases hx:b ρ1 S with
     | none=>rw [hx] at e;cases e
     | some r=>
      obtain ⟨f2,ρ2,S2⟩:=r
      rw [hx] at e
      refine .inr ⟨go,fun σ' H'=>∃ m ρ S fl ρ' S',EnvR K m H' ρ σ'/\Rel K m S H'/\Ext m1 H1 m H'/\eM nx tg b k (i+1) ρ S=some (fl,ρ',S')/\∀ m' H'',Aft K m H' S' m' H''->si K m' H'' fl ρ' D,fun σ' H' z=>⟨k,Nat.lt_succ_self k,z⟩,fun y H' yl=>?_⟩
      obtain ⟨A,vd⟩:=hy y H' yl
      refine ⟨m,S,ρ,d,ρ1,A.rel,E.mono R A.ext,vd,hb,fun σ2 E2=>⟨m,ρ1,S,f2,ρ2,S2,E2,A.rel,hx,fun m3 H3 A3=>?_⟩⟩
      cases f2 with
      | nx=>exact fun σ3 E3=>⟨m3,ρ2,S2,fl,ρ',S',E3,A3.rel,(x.trans A.ext).trans A3.ext,e,fun m4 H4 A4=>q m4 H4 ((A.trans A3).trans A4)⟩
      | ct=>exact fun σ3 E3=>⟨m3,ρ2,S2,fl,ρ',S',E3,A3.rel,(x.trans A.ext).trans A3.ext,e,fun m4 H4 A4=>q m4 H4 ((A.trans A3).trans A4)⟩
      | bk=>cases e;exact fun σ3 E3=>q m3 H3 (A.trans A3) σ3 E3
      | rt d=>cases e;exact fun v vd=>q m3 H3 (A.trans A3) v vd
theorem EW {it:XI} {tg:Tg} {b:XS} {k:Nat} {D:Ends} {σ:L2.St} {H:Hp} (h:tSt K (w8 it tg b k) D σ H):Iu (tIt K [] it) (tTg K tg) (tSt K b) D σ H:=by
 obtain ⟨m,ρ,S,fl,ρ',S',E,R,e,q⟩:=h
 unfold w8 at e
 cases hi:it ρ S with
 | none=>rw [hi] at e;cases e
 | some r=>
  obtain ⟨nx,S1⟩:=r
  rw [hi] at e
  exact ⟨m,ρ,S,nx,S1,E,R,fun b hb=>absurd hb (by simp),hi,fun m1 H1 J A1 hI=>Aq hI k (E.mono R A1.ext) A1.rel (Ext.refl _ _) e fun m2 H2 A2=>q m2 H2 (A1.trans A2)⟩
noncomputable def c7 (c:XT) (b:XS):Nat->XS
 | 0=>fun _ _=>none
 | k+1=>fun ρ S=>match c ρ S with
  | none=>none
  | some (false,S1)=>some (.nx,ρ,S1)
  | some (true,S1)=>match b ρ S1 with
   | none=>none
   | some (.nx,ρ2,S2)=>c7 c b k ρ2 S2
   | some (.ct,ρ2,S2)=>c7 c b k ρ2 S2
   | some (.bk,ρ2,S2)=>some (.nx,ρ2,S2)
   | some (.rt d,ρ2,S2)=>some (.rt d,ρ2,S2)
theorem w9 {c:XT} {b:XS} {k:Nat} {D:Ends} {σ:L2.St} {H:Hp} (h:tSt K (c7 c b k) D σ H):vD (tT K c) (tSt K b) D σ H:=by
 refine ⟨fun k σ H=>tSt K (c7 c b k) D σ H,⟨k,h⟩,fun k σ H h=>?_⟩
 obtain ⟨m,ρ,S,fl,ρ',S',E,R,e,q⟩:=h
 cases k with
 | zero=>simp [c7] at e
 | succ k=>
  simp only [c7] at e
  cases hc:c ρ S with
  | none=>rw [hc] at e;cases e
  | some r=>
   obtain ⟨bb,S1⟩:=r
   rw [hc] at e
   refine ⟨m,ρ,S,bb,S1,E,R,hc,fun m1 H1 A1=>?_⟩
   cases bb with
   | false=>cases e;exact q m1 H1 A1 σ (E.mono R A1.ext)
   | true=>
    dsimp only at e
    cases hx:b ρ S1 with
    | none=>rw [hx] at e;cases e
    | some r=>
     obtain ⟨f2,ρ2,S2⟩:=r
     rw [hx] at e
     refine ⟨fun σ' H'=>tSt K (c7 c b k) D σ' H',fun σ' H' z=>⟨k,Nat.lt_succ_self k,z⟩,m1,ρ,S1,f2,ρ2,S2,E.mono R A1.ext,A1.rel,hx,fun m3 H3 A3=>?_⟩
     cases f2 with
     | nx=>exact fun σ3 E3=>⟨m3,ρ2,S2,fl,ρ',S',E3,A3.rel,e,fun m4 H4 A4=>q m4 H4 ((A1.trans A3).trans A4)⟩
     | ct=>exact fun σ3 E3=>⟨m3,ρ2,S2,fl,ρ',S',E3,A3.rel,e,fun m4 H4 A4=>q m4 H4 ((A1.trans A3).trans A4)⟩
     | bk=>cases e;exact fun σ3 E3=>q m3 H3 (A1.trans A3) σ3 E3
     | rt d=>cases e;exact fun v vd=>q m3 H3 (A1.trans A3) v vd
end
end Ev
namespace Ev
open PySem PySem.Spec PyProof.Rows L2
mutual
noncomputable def cU:Tg->Rho->Bool
 | .name i,ρ=>match ρ[i]? with
  | some none=>true
  | _=>false
 | .tup ts,ρ=>eW ts ρ
noncomputable def eW:List Tg->Rho->Bool
 | [],_=>true
 | t::ts,ρ=>cU t ρ && eW ts ρ
end
structure LeR (ρ ρ':Rho):Prop where
 len:ρ.length=ρ'.length
 at_:∀ (i:Nat) (d:D),ρ[i]?=some (some d)->ρ'[i]?=some (some d)
theorem LeR.refl (ρ:Rho):LeR ρ ρ:=⟨rfl,fun _ _ h=>h⟩
mutual
theorem o3 {ρ0:Rho}:∀ {t:Tg} {d:D} {ρ ρ':Rho},LeR ρ0 ρ->cU t ρ0=true->aB t d ρ=some ρ'->LeR ρ0 ρ'
 | .name i,d,ρ,ρ',l,f,e=>by
  simp only [aB] at e
  split at e
  ·cases e
   refine ⟨by simp [l.len],fun j d' h=>?_⟩
   rw [List.getElem?_set]
   by_cases hj:i=j
   ·subst hj
    simp only [cU] at f
    rw [h] at f
    cases f
   ·rw [if_neg hj];exact l.at_ j d' h
  ·cases e
 | .tup ts,.tup ds,ρ,ρ',l,f,e=>by
  simp only [aB] at e
  simp only [cU] at f
  exact lL l f e
 | .tup ts,.non,_,_,_,_,e=>by simp [aB] at e
 | .tup ts,.bl _,_,_,_,_,e=>by simp [aB] at e
 | .tup ts,.int _,_,_,_,_,e=>by simp [aB] at e
 | .tup ts,.str _,_,_,_,_,e=>by simp [aB] at e
 | .tup ts,.ref _,_,_,_,_,e=>by simp [aB] at e
theorem lL {ρ0:Rho}:∀ {ts:List Tg} {ds:List D} {ρ ρ':Rho},LeR ρ0 ρ->eW ts ρ0=true->aI ts ds ρ=some ρ'->LeR ρ0 ρ'
 | [],[],ρ,ρ',l,_,e=>by simp only [aI] at e;cases e;exact l
 | [],_::_,_,_,_,_,e=>by simp [aI] at e
 | _::_,[],_,_,_,_,e=>by simp [aI] at e
 | t::ts,d::ds,ρ,ρ',l,f,e=>by
  simp only [aI] at e
  simp only [eW,bAE] at f
  cases hb:aB t d ρ with
  | none=>rw [hb] at e;cases e
  | some ρ1=>rw [hb] at e;exact lL (o3 l f.1 hb) f.2 e
end
section
variable {X:Cx} {K:PySem.W.Frag} {m:List Addr} {H:Hp} {S:Sto}
theorem EnvR.weaken {ρ ρ':Rho} {σ:L2.St} (E:EnvR K m H ρ' σ) (l:LeR ρ ρ'):EnvR K m H ρ σ:=⟨l.len.trans E.len,fun i d h=>E.at_ i d (l.at_ i d h)⟩
noncomputable def bq (nx:Nxt) (tg:Tg) (c:XA) (ρ:Rho):Nat->Nat->Sto->Option (List D × Sto)
 | 0,_,_=>none
 | k+1,i,S=>match nx i S with
  | none=>none
  | some none=>some ([],S)
  | some (some d)=>match aB tg d ρ with
   | none=>none
   | some ρ1=>bnd (c ρ1 S) fun es S1=>bnd (bq nx tg c ρ k (i+1) S1) fun rs S2=>some (es++rs,S2)
noncomputable def xa (t:XT) (c:XA):XA:=fun ρ S=>bnd (t ρ S) fun b S1=>if b=true then c ρ S1 else some ([],S1)
noncomputable def C3 (x:XE):XA:=fun ρ S=>bnd (x ρ S) fun d S1=>some ([d],S1)
noncomputable def iM (it:XI) (tg:Tg) (c:XA) (k:Nat):XA:=fun ρ S=>if cU tg ρ=true then bnd (it ρ S) fun nx S1=>bq nx tg c ρ k 0 S1 else none
noncomputable def kj (own:Nat) (it:XI) (tg:Tg) (c:XA) (k:Nat):XA:=fun ρ S=>bnd (it ρ S) fun nx S1=>if cU tg (ρ++List.replicate own none)=true then
 (bnd (bq nx tg c (ρ++List.replicate own none) k 0 S1) fun es S2=>if es.length<=100000 then some (es,S2) else none) else none
noncomputable def tCl (K:PySem.W.Frag) (acc:Addr) (c:XA):TS:=fun D σ H=>∃ m ρ S es S' zs vs,EnvR K m H ρ σ/\Rel K m S H/\acc ∉ m/\H acc=some (.lst vs)/\VDs K m H zs vs/\zs.length+es.length<=100000/\c ρ S=some (es,S') ∧
 ∀ m' H' σ' vs',ExtB [acc] m H m' H'->Rel K m' S' H'->H' acc=some (.lst vs')->VDs K m' H' (zs++es) vs'->EnvR K m' H' ρ σ'->D.nx σ' H'
theorem xc {acc:Addr} {vs:List V} (h:H acc=some (.lst vs)) (n:acc ∉ m):AtB [acc] m H:=fun b hb=>by simp at hb;subst hb;exact ⟨⟨vs,h⟩,n⟩
theorem ExtB.refl {acc:Addr} (n:acc ∉ m):ExtB [acc] m H m H:=⟨List.prefix_refl m,fun _ _ h _ _=>h,fun _ h n=>absurd h n,fun b hb=>by simp at hb;subst hb;exact n⟩
theorem ExtB.put {acc:Addr} (n:acc ∉ m) (o:HO):ExtB [acc] m H m (upd H acc o):=⟨List.prefix_refl m,fun a u h _ nb=>by
 rw [ax (fun z=>nb (by simp [z]))];exact h,fun _ h n=>absurd h n,fun b hb=>by simp at hb;subst hb;exact n⟩
theorem Rel.extB {acc:Addr} {H':Hp} (R:Rel K m S H) (hB:AtB [acc] m H) (x:ExtB [acc] m H m H') (k:∀ b ∈ m,H' b=H b):Rel K m S H':=by
 refine ⟨R.len,R.nd,fun i o e=>?_⟩
 obtain ⟨b,hb,r⟩:=R.ob i o e
 have hm:b ∈ m:=List.mem_of_getElem? hb
 refine ⟨b,hb,?_⟩
 cases o with
 | lst ds=>obtain ⟨vs,p,q⟩:=r;exact ⟨vs,(k b hm).trans p,VDs.monoB R hB x q⟩
 | frz ds=>obtain ⟨o,vs,p,q⟩:=r;exact ⟨o,vs,(k b hm).trans p,VDs.monoB R hB x q⟩
 | dic ks ds=>obtain ⟨vs,p,l,q⟩:=r;exact ⟨vs,(k b hm).trans p,l,VDs.monoB R hB x q⟩
theorem Ar {acc:Addr} {x:XE} {D:Ends} {σ:L2.St} {H:Hp} (h:tCl K acc (C3 x) D σ H):CW acc (tE K x) D σ H:=by
 obtain ⟨m,ρ,S,es,S',zs,vs,E,R,na,ha,vz,hl,e,q⟩:=h
 obtain ⟨d,S1,e1,e⟩:=aa e
 cases e
 refine ⟨m,ρ,S,d,_,E,R,e1,fun m1 H1 v A1 vd=>?_⟩
 have hB:=xc ha na
 have ha1:H1 acc=some (.lst vs):=A1.ext.keep _ _ ha na
 have xB:=A1.ext.toB hB
 have na1:acc ∉ m1:=xB.nb acc (by simp)
 have xp:=ExtB.put (H:=H1) na1 (.lst (vs++[v]))
 have hB1:=xc ha1 na1
 have lz:=vz.length
 simp only [List.length_singleton] at hl
 refine ⟨vs,ha1,by rw [sizeLine_eq];omega,q m1 _ σ (vs++[v]) (xB.trans xp) (A1.rel.extB hB1 xp fun b hb=>ax fun z=>na1 (z ▸ hb)) bj ?_ ((E.mono R A1.ext).monoB A1.rel hB1 xp)⟩
 exact VDs.append ((vz.mono R A1.ext).monoB A1.rel hB1 xp) (.cons (vd.monoB A1.rel hB1 xp) .nil)
theorem As {acc:Addr} {t:XT} {c:XA} {D:Ends} {σ:L2.St} {H:Hp} (h:tCl K acc (xa t c) D σ H):eF (tT K t) (tCl K acc c) D σ H:=by
 obtain ⟨m,ρ,S,es,S',zs,vs,E,R,na,ha,vz,hl,e,q⟩:=h
 obtain ⟨b,S1,e1,e⟩:=aa e
 refine ⟨m,ρ,S,b,S1,E,R,e1,fun m1 H1 A1=>?_⟩
 have hB:=xc ha na
 have ha1:H1 acc=some (.lst vs):=A1.ext.keep _ _ ha na
 have xB:=A1.ext.toB hB
 have na1:acc ∉ m1:=xB.nb acc (by simp)
 dsimp only
 split
 ·rename_i hb
  rw [if_pos hb] at e
  exact ⟨m1,ρ,S1,es,S',zs,vs,E.mono R A1.ext,A1.rel,na1,ha1,vz.mono R A1.ext,hl,e,fun m2 H2 σ2 vs2 x2 R2 h2 v2 E2=>q m2 H2 σ2 vs2 (xB.trans x2) R2 h2 v2 E2⟩
 ·rename_i hb
  rw [if_neg hb] at e
  cases e
  refine q m1 H1 σ vs xB A1.rel ha1 ?_ (E.mono R A1.ext)
  rw [List.append_nil]
  exact vz.mono R A1.ext
theorem o4 {t:TS} {D:Ends} {σ:L2.St} {H:Hp} (h:t D σ H):eF zA t D σ H:=by
 show if true=true then t D σ H else D.nx σ H
 rw [if_pos rfl];exact h
theorem EX {acc:Addr} {c:XA} {D:Ends} {σ:L2.St} {H:Hp} (h:tCl K acc c D σ H):eF zA (tCl K acc c) D σ H:=by
 exact o4 h
theorem sn {acc:Addr} {nx:Nxt} {tg:Tg} {c:XA} {J:It} {ts:TS} {m1:List Addr} {H1:Hp} {EE:Ends} (hI:IOk K [acc] J nx m1 H1) (hts:∀ D σ H,tCl K acc c D σ H->ts D σ H) (k:Nat) {m:List Addr} {ρ:Rho} {S S':Sto} {es zs:List D} {vs:List V} {σ:L2.St} {H:Hp}
  (fr:cU tg ρ=true) (E:EnvR K m H ρ σ) (R:Rel K m S H) (x:ExtB [acc] m1 H1 m H) (ha:H acc=some (.lst vs)) (vz:VDs K m H zs vs) (hl:zs.length+es.length<=100000) (e:bq nx tg c ρ k 0 S=some (es,S'))
  (q:∀ m' H' σ' vs',ExtB [acc] m H m' H'->Rel K m' S' H'->H' acc=some (.lst vs')->VDs K m' H' (zs++es) vs'->EnvR K m' H' ρ σ'->EE.nx σ' H'):og J (tTg K tg) ts EE σ H:=by
 refine ⟨fun i k σ H=>∃ m S S' es zs vs,EnvR K m H ρ σ/\Rel K m S H/\ExtB [acc] m1 H1 m H/\H acc=some (.lst vs)/\VDs K m H zs vs/\zs.length+es.length<=100000/\bq nx tg c ρ k i S=some (es,S') ∧
  ∀ m' H' σ' vs',ExtB [acc] m H m' H'->Rel K m' S' H'->H' acc=some (.lst vs')->VDs K m' H' (zs++es) vs'->EnvR K m' H' ρ σ'->EE.nx σ' H',⟨k,m,S,S',es,zs,vs,E,R,x,ha,vz,hl,e,q⟩,?_⟩
 intro i k σ H ⟨m,S,S',es,zs,vs,E,R,x,ha,vz,hl,e,q⟩
 have na:acc ∉ m:=x.nb acc (by simp)
 have hB:=xc ha na
 cases k with
 | zero=>simp [bq] at e
 | succ k=>
  simp only [bq] at e
  cases hn:nx i S with
  | none=>rw [hn] at e;cases e
  | some o=>
   rw [hn] at e
   obtain ⟨h1,h2⟩:=hI m S H i x R
   cases o with
   | none=>
    cases e
    exact .inl ⟨h1 hn,q m H σ vs (ExtB.refl na) R ha (by rw [List.append_nil];exact vz) E⟩
   | some d=>
    obtain ⟨go,hy⟩:=h2 d hn
    dsimp only at e
    cases hb:aB tg d ρ with
    | none=>rw [hb] at e;cases e
    | some ρ1=>
     rw [hb] at e
     dsimp only at e
     obtain ⟨e1,S1,c1,e⟩:=aa e
     obtain ⟨rs,S2,c2,e⟩:=aa e
     cases e
     rw [List.length_append] at hl
     refine .inr ⟨go,fun σ' H'=>∃ m S S' es zs vs,EnvR K m H' ρ σ'/\Rel K m S H'/\ExtB [acc] m1 H1 m H'/\H' acc=some (.lst vs)/\VDs K m H' zs vs/\zs.length+es.length<=100000/\bq nx tg c ρ k (i+1) S=some (es,S') ∧
      ∀ m' H'' σ' vs',ExtB [acc] m H' m' H''->Rel K m' S' H''->H'' acc=some (.lst vs')->VDs K m' H'' (zs++es) vs'->EnvR K m' H'' ρ σ'->EE.nx σ' H'',fun σ' H' z=>⟨k,Nat.lt_succ_self k,z⟩,fun y H' yl=>?_⟩
     obtain ⟨A,vd⟩:=hy y H' yl
     have xA:=A.ext.toB hB
     have ha':H' acc=some (.lst vs):=A.ext.keep _ _ ha na
     refine ⟨m,S,ρ,d,ρ1,A.rel,E.mono R A.ext,vd,hb,fun σ2 E2=>hts _ _ _ ⟨m,ρ1,S,e1,S1,zs,vs,E2,A.rel,na,ha',vz.mono R A.ext,by omega,c1,fun m3 H3 σ3 vs3 x3 R3 h3 v3 E3=>?_⟩⟩
     refine ⟨m3,S1,_,rs,zs++e1,vs3,E3.weaken (o3 (LeR.refl ρ) fr hb),R3,(x.trans xA).trans x3,h3,v3,by rw [List.length_append];omega,c2,fun m4 H4 σ4 vs4 x4 R4 h4 v4 E4=>?_⟩
     refine q m4 H4 σ4 vs4 ((xA.trans x3).trans x4) R4 h4 ?_ E4
     rw [<-List.append_assoc]
     exact v4
theorem xf {acc:Addr} {it:XI} {tg:Tg} {t:TT} {c c':XA} {k:Nat} {D:Ends} {σ:L2.St} {H:Hp} (hts:∀ D σ H,tCl K acc c D σ H->eF t (tCl K acc c') D σ H) (h:tCl K acc (iM it tg c k) D σ H):v0 (tIt K [acc] it) (tTg K tg) t (tCl K acc c') D σ H:=by
 obtain ⟨m,ρ,S,es,S',zs,vs,E,R,na,ha,vz,hl,e,q⟩:=h
 unfold iM at e
 split at e
 ·rename_i fr
  obtain ⟨nx,S1,e1,e⟩:=aa e
  have hB:=xc ha na
  refine ⟨m,ρ,S,nx,S1,E,R,hB,e1,fun m1 H1 J A1 hI=>?_⟩
  have xB:=A1.ext.toB hB
  have na1:acc ∉ m1:=xB.nb acc (by simp)
  exact sn hI hts k fr (E.mono R A1.ext) A1.rel (ExtB.refl na1) (A1.ext.keep _ _ ha na) (vz.mono R A1.ext) hl e fun m2 H2 σ2 vs2 x2 R2 h2 v2 E2=>q m2 H2 σ2 vs2 (xB.trans x2) R2 h2 v2 E2
 ·cases e
theorem EnvR.more {ρ:Rho} {σ:L2.St} (E:EnvR K m H ρ σ) (n:Nat):EnvR K m H (ρ++List.replicate n none) (σ++List.replicate n none):=by
 refine ⟨by simp [E.len],fun i d e=>?_⟩
 by_cases hi:i < ρ.length
 ·rw [List.getElem?_append_left hi] at e
  rw [List.getElem?_append_left (by rw [<-E.len];exact hi)]
  exact E.at_ i d e
 ·rw [List.getElem?_append_right (by omega),List.getElem?_replicate] at e
  split at e <;> cases e
theorem sr {own:Nat} {it:XI} {tg:Tg} {t:TT} {c c':XA} {k:Nat} {σ:L2.St} {H:Hp} {Q:VK} (hts:∀ acc D σ H,tCl K acc c D σ H->eF t (tCl K acc c') D σ H) (h:dN K (kj own it tg c k) σ H Q):v5 own (tIt K [] it) (tTg K tg) (fun acc=>eF t (tCl K acc c')) σ H Q:=by
 obtain ⟨m,ρ,S,es,S',E,R,e,q⟩:=h
 obtain ⟨nx,S1,e1,e⟩:=aa e
 split at e
 ·rename_i fr
  obtain ⟨es',S2,e2,e⟩:=aa e
  split at e
  ·rename_i hl
   cases e
   refine ⟨m,ρ,S,nx,S1,E,R,fun b hb=>absurd hb (by simp),e1,fun m1 H1 J A1 hI acc hacc=>?_⟩
   have x0:=Ext.beside A1.rel hacc (.lst [])
   have R0:=A1.rel.beside hacc (.lst [])
   have na:=A1.rel.no hacc
   have hI':IOk K [acc] J nx m1 (upd H1 acc (.lst [])):=by
    intro m2 S2 H2 i x2 R2
    refine hI m2 S2 H2 i ⟨x2.pre,fun a o h n _=>?_,fun a h n=>?_,fun b hb=>absurd hb (by simp)⟩ R2
    ·have ne:a ≠ acc:=aQ h hacc
     exact x2.keep a o (by rw [ax ne];exact h) n (by simp [ne])
    ·have:=x2.new a h n
     by_cases hz:a=acc
     ·subst hz;exact hacc
     ·rw [ax hz] at this;exact this
   refine sn (zs:=[]) (vs:=[]) hI' (hts acc) k fr ((E.mono R A1.ext |>.mono A1.rel x0).more own) R0 (ExtB.refl na) bj .nil (by simpa using hl) e2 fun m2 H2 σ2 vs2 x2 R2 h2 v2 E2=>?_
   have xx:Ext m1 H1 m2 H2:=⟨x2.pre,fun a o h n=>by
    have ne:a ≠ acc:=aQ h hacc
    exact x2.keep a o (by rw [ax ne];exact h) n (by simp [ne]),fun a h n=>by
    have:=x2.new a h n
    by_cases hz:a=acc
    ·subst hz;exact hacc
    ·rw [ax hz] at this;exact this⟩
   have hn:H acc=none:=by
    cases eh:H acc with
    | none=>rfl
    | some o=>
     by_cases hm:acc ∈ m
     ·exact absurd (A1.ext.pre.subset hm) na
     ·have:=A1.ext.keep acc o eh hm
      rw [hacc] at this;cases this
   exact q m2 H2 acc vs2 (A1.trans ⟨xx,R2⟩) h2 (x2.nb acc (by simp)) (fun b hb z=>na (A1.ext.pre.subset (z ▸ hb))) hn (by simpa using v2)
  ·cases e
 ·cases e
end
end Ev
namespace Ev
open PySem PySem.Spec PyProof.Rows L2
section
variable {X:Cx} {K:PySem.W.Frag} {m:List Addr} {H:Hp} {S:Sto}
noncomputable def xg (x y:XE):XE:=fun ρ S=>bnd (x ρ S) fun d S1=>match d with
 | .bl true=>y ρ S1
 | .bl false=>some (.bl false,S1)
 | _=>none
noncomputable def xOr (x y:XE):XE:=fun ρ S=>bnd (x ρ S) fun d S1=>match d with
 | .bl true=>some (.bl true,S1)
 | .bl false=>y ρ S1
 | _=>none
noncomputable def uA:D->Sto->Option (D × Sto)
 | .bl b,S=>some (.bl (!b),S)
 | _,_=>none
noncomputable def EY:D->Sto->Option (D × Sto)
 | .int i,S=>some (.int (-i),S)
 | _,_=>none
noncomputable def EZ (c:XT) (x y:XE):XE:=fun ρ S=>bnd (c ρ S) fun b S1=>if b=true then x ρ S1 else y ρ S1
theorem xh {x y:XE} {σ:L2.St} {H:Hp} {Q:VK} (h:tE K (xg x y) σ H Q):CG (tE K x) (tE K y) σ H Q:=by
 obtain ⟨m,ρ,S,d,S',E,R,e,q⟩:=h
 obtain ⟨a,S1,e1,e⟩:=aa e
 refine ⟨m,ρ,S,a,S1,E,R,e1,fun m1 H1 v A1 va=>?_⟩
 cases a with
 | bl b=>
  refine ⟨b,va.bls,?_⟩
  cases b with
  | true=>exact ⟨m1,ρ,S1,d,S',E.mono R A1.ext,A1.rel,e,fun m2 H2 w A2 vd=>q m2 H2 w (A1.trans A2) vd⟩
  | false=>cases e;exact q m1 H1 _ A1 cf
 | _=>cases e
theorem C4 {x y:XE} {σ:L2.St} {H:Hp} {Q:VK} (h:tE K (xOr x y) σ H Q):Ih (tE K x) (tE K y) σ H Q:=by
 obtain ⟨m,ρ,S,d,S',E,R,e,q⟩:=h
 obtain ⟨a,S1,e1,e⟩:=aa e
 refine ⟨m,ρ,S,a,S1,E,R,e1,fun m1 H1 v A1 va=>?_⟩
 cases a with
 | bl b=>
  refine ⟨b,va.bls,?_⟩
  cases b with
  | false=>exact ⟨m1,ρ,S1,d,S',E.mono R A1.ext,A1.rel,e,fun m2 H2 w A2 vd=>q m2 H2 w (A1.trans A2) vd⟩
  | true=>cases e;exact q m1 H1 _ A1 cf
 | _=>cases e
theorem E5 {x:XE} {σ:L2.St} {H:Hp} {Q:VK} (h:tE K (xUn uA x) σ H Q):CH (tE K x) σ H Q:=by
 obtain ⟨m,ρ,S,d,S',E,R,e,q⟩:=h
 obtain ⟨a,S1,e1,e⟩:=aa e
 refine ⟨m,ρ,S,a,S1,E,R,e1,fun m1 H1 v A1 va=>?_⟩
 cases a with
 | bl b=>cases e;exact ⟨b,va.bls,q m1 H1 _ A1 cf⟩
 | _=>cases e
theorem Au:UnR X (unaryOp .USub) (rS1 X.K EY):=by
 intro pins s σ H x v Q I rx h
 refine DU pins s σ H x v Q I rx ?_
 obtain ⟨m,S,a,d,S',R,va,e,q⟩:=h
 cases a with
 | int i=>cases e;exact ⟨i,va.ints,q m H _ (Aft.refl R) bu⟩
 | _=>cases e
theorem E6 {c:XT} {x y:XE} {σ:L2.St} {H:Hp} {Q:VK} (h:tE K (EZ c x y) σ H Q):tIf (tT K c) (tE K x) (tE K y) σ H Q:=by
 obtain ⟨m,ρ,S,d,S',E,R,e,q⟩:=h
 obtain ⟨b,S1,e1,e⟩:=aa e
 refine ⟨m,ρ,S,b,S1,E,R,e1,fun m1 H1 A1=>?_⟩
 dsimp only
 split
 ·rename_i hb
  rw [if_pos hb] at e
  exact ⟨m1,ρ,S1,d,S',E.mono R A1.ext,A1.rel,e,fun m2 H2 w A2 vd=>q m2 H2 w (A1.trans A2) vd⟩
 ·rename_i hb
  rw [if_neg hb] at e
  exact ⟨m1,ρ,S1,d,S',E.mono R A1.ext,A1.rel,e,fun m2 H2 w A2 vd=>q m2 H2 w (A1.trans A2) vd⟩
noncomputable def uB (f g:D->D->Sto->Option (D × Sto)) (x y z:XE):XE:=fun ρ S=>bnd (x ρ S) fun a S1=>bnd (y ρ S1) fun b S2=>bnd (f a b S2) fun r S3=>match r with
 | .bl true=>bnd (z ρ S3) fun c S4=>g b c S4
 | .bl false=>some (.bl false,S3)
 | _=>none
theorem xi {f g:D->D->Sto->Option (D × Sto)} {x y z:XE} {σ:L2.St} {H:Hp} {Q:VK} (h:tE K (uB f g x y z) σ H Q):pT (rS K f) (rS K g) (tE K x) (tE K y) (tE K z) σ H Q:=by
 obtain ⟨m,ρ,S,d,S',E,R,e,q⟩:=h
 obtain ⟨a,S1,e1,e⟩:=aa e
 obtain ⟨b,S2,e2,e⟩:=aa e
 obtain ⟨r,S3,e3,e⟩:=aa e
 refine ⟨m,ρ,S,a,S1,E,R,e1,fun m1 H1 v A1 va=>⟨m1,ρ,S1,b,S2,E.mono R A1.ext,A1.rel,e2,fun m2 H2 w A2 vb=>?_⟩⟩
 refine ⟨m2,S2,a,b,r,S3,A2.rel,va.mono A1.rel A2.ext,vb,e3,fun m3 H3 u A3 vr=>?_⟩
 cases r with
 | bl k=>
  refine ⟨k,vr.bls,?_⟩
  cases k with
  | true=>
   dsimp only at e
   obtain ⟨c,S4,e4,e⟩:=aa e
   exact ⟨m3,ρ,S3,c,S4,E.mono R ((A1.trans A2).trans A3).ext,A3.rel,e4,fun m4 H4 y A4 vc=>⟨m4,S4,b,c,d,S',A4.rel,vb.mono A2.rel (A3.trans A4).ext,vc,e,fun m5 H5 t A5 vd=>q m5 H5 t ((((A1.trans A2).trans A3).trans A4).trans A5) vd⟩⟩
  | false=>cases e;exact q m3 H3 _ ((A1.trans A2).trans A3) cf
 | _=>cases e
noncomputable def xj (x y:XT):XT:=fun ρ S=>bnd (x ρ S) fun b S1=>if b=true then y ρ S1 else some (false,S1)
noncomputable def E7 (x y:XT):XT:=fun ρ S=>bnd (x ρ S) fun b S1=>if b=true then some (true,S1) else y ρ S1
noncomputable def xk (x:XT):XT:=fun ρ S=>bnd (x ρ S) fun b S1=>some (!b,S1)
theorem xl {x y:XT} {σ:L2.St} {H:Hp} {Q:Bool->Hp->Prop} (h:tT K (xj x y) σ H Q):Ie (tT K x) (tT K y) σ H Q:=by
 obtain ⟨m,ρ,S,d,S',E,R,e,q⟩:=h
 obtain ⟨b,S1,e1,e⟩:=aa e
 refine ⟨m,ρ,S,b,S1,E,R,e1,fun m1 H1 A1=>?_⟩
 dsimp only
 split
 ·rename_i hb
  rw [if_pos hb] at e
  exact ⟨m1,ρ,S1,d,S',E.mono R A1.ext,A1.rel,e,fun m2 H2 A2=>q m2 H2 (A1.trans A2)⟩
 ·rename_i hb
  rw [if_neg hb] at e
  cases e
  exact q m1 H1 A1
theorem C5 {x y:XT} {σ:L2.St} {H:Hp} {Q:Bool->Hp->Prop} (h:tT K (E7 x y) σ H Q):tOr (tT K x) (tT K y) σ H Q:=by
 obtain ⟨m,ρ,S,d,S',E,R,e,q⟩:=h
 obtain ⟨b,S1,e1,e⟩:=aa e
 refine ⟨m,ρ,S,b,S1,E,R,e1,fun m1 H1 A1=>?_⟩
 dsimp only
 split
 ·rename_i hb
  rw [if_pos hb] at e
  cases e
  exact q m1 H1 A1
 ·rename_i hb
  rw [if_neg hb] at e
  exact ⟨m1,ρ,S1,d,S',E.mono R A1.ext,A1.rel,e,fun m2 H2 A2=>q m2 H2 (A1.trans A2)⟩
theorem E8 {x:XT} {σ:L2.St} {H:Hp} {Q:Bool->Hp->Prop} (h:tT K (xk x) σ H Q):Ig (tT K x) σ H Q:=by
 obtain ⟨m,ρ,S,d,S',E,R,e,q⟩:=h
 obtain ⟨b,S1,e1,e⟩:=aa e
 cases e
 exact ⟨m,ρ,S,b,_,E,R,e1,fun m1 H1 A1=>q m1 H1 A1⟩
noncomputable abbrev Calls:=Nat->List D->Sto->Option (D × Sto)
noncomputable def spC (K:PySem.W.Frag) (g:List D->Sto->Option (D × Sto)) (n:Nat):Sp:=fun vs H Q _=>∃ m ds S d S',VDs K m H ds vs/\Rel K m S H/\ds.length=n/\g ds S=some (d,S')/\∀ m' H' v,Aft K m H S' m' H'->VD K m' H' d v->Q v H'
noncomputable def o5 (g:List D->Sto->Option (D × Sto)) (n:Nat) (x:XA):XE:=fun ρ S=>bnd (x ρ S) fun ds S1=>if ds.length=n then g ds S1 else none
theorem Av {g:List D->Sto->Option (D × Sto)} {n:Nat} {x:XA} {σ:L2.St} {H:Hp} {Q:VK} (h:tE K (o5 g n x) σ H Q):CT (spC K g n) [] E0 (tAr K x) σ H Q:=by
 obtain ⟨m,ρ,S,d,S',E,R,e,q⟩:=h
 obtain ⟨ds,S1,e1,e⟩:=aa e
 split at e
 ·rename_i hl
  refine ⟨m,ρ,S,ds,S1,E,R,e1,fun m1 H1 vs A1 vd=>⟨m1,ds,S1,d,S',by rw [List.append_nil];exact vd,A1.rel,hl,e,fun m2 H2 v A2 vv=>q m2 H2 v (A1.trans A2) vv⟩⟩
 ·cases e
end
end Ev
namespace Ev
open PySem PySem.Spec PyProof.Rows L2
mutual
inductive CE where
 | non | bl (b:Bool) | int (i:Int) | str (x:Str) | var (i:Nat) | con (k:Nat) (v:Int)
 | tup (es:List CE) | lst (es:List CE) | dic0 | dic1 (i j:Int)
 | bin (o:BOp) (a b:CE) | neg (a:CE)
 | cmp (o:COp) (a b:CE) | chn (o p:COp) (a b c:CE)
 | and (a b:CE) | or (a b:CE) | not (a:CE) | ite (c a b:CE)
 | ix (a b:CE) | sl (a:CE) (lo hi:Option CE)
 | call (f:Nat) (es:List CE)
 | inst (t:Ty) (a:CE)
 | len (a:CE) | all (a:CE) | any (a:CE) | tupOf (a:CE) | listOf (a:CE) | listR (a:CE) | srt (a:CE) | mxL (a:CE) | mnL (a:CE) | intOf (a:CE) | mx (a b:CE) | mn (a b:CE) | rep (a:CE)
 | comp (own:List Str) (elt:CE) (cls:List Cl)
 | app (o e:CE) | pop (o:CE) | popAt (o e:CE) | cnt (o e:CE)
inductive CI where
 | val (a:CE) | r1 (a:CE) | r2 (a b:CE) | en (a:CE)
inductive Cl where
 | mk (tg:Tg) (it:CI) (cond:Option CE)
end
noncomputable def af:CE->Bool
 | .lst _=>true | .comp _ _ _=>true | .listOf _=>true | .listR _=>true | .srt _=>true
 | _=>false
noncomputable def LF:Nat:=1000000
noncomputable def xNo {α:Type}:Rho->Sto->Option (α × Sto):=fun _ _=>none
noncomputable def kl (x:XE):XA:=fun ρ S=>bnd (x ρ S) fun d S1=>(aj d S1).map fun r=>(r.2,S1)
noncomputable def dF (tu:Bool) (ds:List D):Option (List D):=if tu=false then ut tu ds else none
noncomputable def uC (f:Bool->List D->Option (List D)) (x:XA):XA:=fun ρ S=>bnd (x ρ S) fun ds S1=>(f false ds).map fun es=>(es,S1)
noncomputable def uD (f:Bool->List D->Option (List D)) (x:XE):XA:=fun ρ S=>bnd (x ρ S) fun d S1=>match aj d S1 with
 | some r=>(f r.1 r.2).map fun es=>(es,S1)
 | none=>none
noncomputable def k8 (i:Int):Key:=Sum.inl i
noncomputable def uE (x:XE):XA:=fun ρ S=>bnd (x ρ S) fun d S1=>match d with
 | .int i=>if 0<=i/\i<=1000 then some ((List.range i.toNat).map fun j=>.int (Int.ofNat j),S1) else none
 | _=>none
noncomputable def xm:XE:=fun _ S=>some (.ref S.length,S++[.dic [] []])
noncomputable def xn (i j:Int):XE:=fun _ S=>some (.ref S.length,S++[.dic [k8 i] [.int j]])
noncomputable def cnd (t:CE->XT):Option CE->XA->XA
 | some c,x=>xa (t c) x
 | none,x=>x
noncomputable def opt (t:CE->XE):Option CE->XO
 | some l=>qu (t l)
 | none=>qt
mutual
noncomputable def evE (C:Calls) (ar:Nat->Nat):Nat->CE->XE
 | 0,_=>xNo
 | n+1,e=>match e with
  | .non=>xC .non
  | .bl b=>xC (.bl b)
  | .int i=>xC (.int i)
  | .str x=>xC (.str x)
  | .var i=>ud i
  | .con _ v=>xC (.int v)
  | .tup es=>jt ju (evA C ar n es)
  | .lst es=>cZ (lF (evA C ar n es))
  | .dic0=>xm
  | .dic1 i j=>xn i j
  | .bin o a b=>oE (bP o) (evE C ar n a) (evE C ar n b)
  | .neg a=>xUn EY (evE C ar n a)
  | .cmp o a b=>oE (av o) (evE C ar n a) (evE C ar n b)
  | .chn o p a b c=>uB (av o) (av p) (evE C ar n a) (evE C ar n b) (evE C ar n c)
  | .and a b=>xg (evE C ar n a) (evE C ar n b)
  | .or a b=>xOr (evE C ar n a) (evE C ar n b)
  | .not a=>xUn uA (evE C ar n a)
  | .ite c a b=>EZ (evT C ar n c) (evE C ar n a) (evE C ar n b)
  | .ix a b=>if af a=true then qp (ci C ar n a) (evE C ar n b) else oE ixS (evE C ar n a) (evE C ar n b)
  | .sl a lo hi=>xSl (evE C ar n a) (opt (evE C ar n) lo) (opt (evE C ar n) hi)
  | .call f es=>o5 (C f) (ar f) (evA C ar n es)
  | .inst t a=>xUn (iZ t) (evE C ar n a)
  | .len a=>if af a=true then mN dQ (ci C ar n a) else mO dQ (evE C ar n a)
  | .all a=>if af a=true then mN kZ (ci C ar n a) else mO kZ (evE C ar n a)
  | .any a=>if af a=true then mN oK (ci C ar n a) else mO oK (evE C ar n a)
  | .tupOf a=>if af a=true then mN iJ (ci C ar n a) else mO iJ (evE C ar n a)
  | .listOf a=>cZ (if af a=true then ci C ar n a else kl (evE C ar n a))
  | .listR a=>cZ (uE (evE C ar n a))
  | .srt a=>cZ (if af a=true then uC dF (ci C ar n a) else uD dF (evE C ar n a))
  | .mxL a=>if af a=true then mN oU (ci C ar n a) else mO oU (evE C ar n a)
  | .mnL a=>if af a=true then mN oV (ci C ar n a) else mO oV (evE C ar n a)
  | .intOf a=>xUn Af (evE C ar n a)
  | .mx a b=>jt (two wM) (evA C ar n [a,b])
  | .mn a b=>jt (two wN) (evA C ar n [a,b])
  | .rep a=>xUn i7 (evE C ar n a)
  | .comp own elt cls=>cZ (match cls with
   | []=>xNo
   | ⟨tg,it,cond⟩::rest=>kj own.length (evI C ar n it) tg (cnd (evT C ar n) cond (fU C ar n elt rest)) LF)
  | .app o a=>qE dE oW (evE C ar n o) (evA C ar n [a])
  | .pop o=>qE dE wW (evE C ar n o) ue
  | .popAt o a=>qE dE gi (evE C ar n o) (evA C ar n [a])
  | .cnt o a=>qE (fun d _=>isTup d) qH (evE C ar n o) (evA C ar n [a])
noncomputable def evA (C:Calls) (ar:Nat->Nat):Nat->List CE->XA
 | 0,_=>xNo
 | n+1,es=>match es with
  | []=>ue
  | e::es=>rZ (evE C ar n e) (evA C ar n es)
noncomputable def ci (C:Calls) (ar:Nat->Nat):Nat->CE->XA
 | 0,_=>xNo
 | n+1,e=>match e with
  | .lst es=>lF (evA C ar n es)
  | .listOf a=>if af a=true then ci C ar n a else kl (evE C ar n a)
  | .listR a=>uE (evE C ar n a)
  | .srt a=>if af a=true then uC dF (ci C ar n a) else uD dF (evE C ar n a)
  | .comp own elt cls=>match cls with
   | []=>xNo
   | ⟨tg,it,cond⟩::rest=>kj own.length (evI C ar n it) tg (cnd (evT C ar n) cond (fU C ar n elt rest)) LF
  | _=>xNo
noncomputable def fU (C:Calls) (ar:Nat->Nat):Nat->CE->List Cl->XA
 | 0,_,_=>xNo
 | n+1,elt,cls=>match cls with
  | []=>C3 (evE C ar n elt)
  | ⟨tg,it,cond⟩::rest=>iM (evI C ar n it) tg (cnd (evT C ar n) cond (fU C ar n elt rest)) LF
noncomputable def evI (C:Calls) (ar:Nat->Nat):Nat->CI->XI
 | 0,_=>xNo
 | n+1,it=>match it with
  | .val a=>if af a=true then xIT (ci C ar n a) else xIV (evE C ar n a)
  | .r1 a=>xR1 (evE C ar n a)
  | .r2 a b=>xR2 (evE C ar n a) (evE C ar n b)
  | .en a=>if af a=true then xET (ci C ar n a) else xEV (evE C ar n a)
noncomputable def evT (C:Calls) (ar:Nat->Nat):Nat->CE->XT
 | 0,_=>xNo
 | n+1,e=>match e with
  | .cmp o a b=>xB (oE (av o) (evE C ar n a) (evE C ar n b))
  | .chn o p a b c=>xB (uB (av o) (av p) (evE C ar n a) (evE C ar n b) (evE C ar n c))
  | .and a b=>xj (evT C ar n a) (evT C ar n b)
  | .or a b=>E7 (evT C ar n a) (evT C ar n b)
  | .not a=>xk (evT C ar n a)
  | .ite _ _ _=>xNo
  | e=>z9 (evE C ar n e)
end
end Ev
namespace Ev
open PySem PySem.Spec PyProof.Rows L2
structure Tab where
 con:List (Str × Int)
 fns:List (Str × Nat)
noncomputable def gX:List Str:=["len", "isinstance", "all", "any", "tuple", "list", "max", "min", "repr", "range", "enumerate", "int", "bool", "str", "sorted"]
structure Blk where
 sc:Scope
 fs:Option Scope
 N:List Str
noncomputable def Blk.glo (b:Blk) (x:Str):Bool:=b.sc.names.lookup x == some .globalImplicit && !(x == ("__debug__" : Str))
noncomputable def Blk.vis (b:Blk) (x:Str):Bool:=(match b.sc.names.lookup x with
 | some .local=>true
 | some .cell=>true
 | some .free=>true
 | _=>false) && !(x == ("__debug__" : Str)) && !(x == ("__classdict__" : Str))
noncomputable def Blk.own (b:Blk) (x:Str):Bool:=match b.sc.names.lookup x with
 | some .local=>true
 | some .cell=>(match b.fs with
  | none=>true
  | some sc=>sc.names.lookup x == some .cell)
 | _=>false
noncomputable def az:Expr->Bool
 | .Starred _ _=>false
 | .Slice _ _ _ _=>false
 | .Set _ _ _=>false
 | _=>true
noncomputable def km:Expr->Bool
 | .Call (.Name _ _) [] [] _=>false
 | .Starred _ _=>false
 | _=>true
noncomputable def xo:Expr->Bool
 | .UnaryOp .Not _ _=>false
 | .BoolOp _ _ _=>false
 | .IfExp _ _ _ _=>false
 | .Compare _ _ _ _=>false
 | _=>true
noncomputable def kn (own N:List Str):List Nat:=(List.range N.length).filter fun i=>match N[i]? with
 | some x=>own.contains x
 | none=>false
noncomputable def Blk.inner (b:Blk) (own:List Str) (scope:Scope):Blk:=⟨eR scope b.sc,some scope,cG (kn own b.N) b.N++own⟩
noncomputable def qK:Expr->Option (Str × Pos)
 | .Name x p=>some (x,p)
 | _=>none
noncomputable def o6:Expr->Option (List Expr × Nat × Pos)
 | .Tuple es k p=>some (es,k,p)
 | _=>none
theorem nh {e:Expr} {x:Str} {p:Pos} (h:qK e=some (x,p)):e = .Name x p:=by
 unfold qK at h
 split at h
 ·cases h;rfl
 ·cases h
theorem ni {e:Expr} {es:List Expr} {k:Nat} {p:Pos} (h:o6 e=some (es,k,p)):e = .Tuple es k p:=by
 unfold o6 at h
 split at h
 ·cases h;rfl
 ·cases h
mutual
noncomputable def k9 (b:Blk):Expr->Tg->Bool
 | e,.name i=>match qK e with
  | some r=>b.N[i]? == some r.1 && b.own r.1
  | none=>false
 | e,.tup ts=>match o6 e with
  | some r=>dG b r.1 ts
  | none=>false
noncomputable def dG (b:Blk):List Expr->List Tg->Bool
 | es,[]=>es.isEmpty
 | es,t::ts=>match es with
  | []=>false
  | e::es=>k9 b e t && az e && dG b es ts
end
noncomputable def E9:Expr->Bool
 | .Constant .none _ _=>true
 | _=>false
noncomputable def sBl (v:Bool):Expr->Bool
 | .Constant (.bool v') _ _=>v == v'
 | _=>false
noncomputable def xq (v:Int):Expr->Bool
 | .Constant (.int v') _ _=>v == v'
 | _=>false
noncomputable def Fa (v:Str):Expr->Bool
 | .Constant (.str v') _ _=>v == v'
 | _=>false
noncomputable def o7 (k:Str->Bool):Expr->Bool
 | .Name x _=>k x
 | _=>false
noncomputable def xr (k:List Expr->Bool):Expr->Bool
 | .Tuple es _ _=>k es
 | _=>false
noncomputable def Fb (k:List Expr->Bool):Expr->Bool
 | .List es _=>k es
 | _=>false
noncomputable def Fc (o:Operator) (k l:Expr->Bool):Expr->Bool
 | .BinOp x op y _=>decide (op=o) && k x && l y
 | _=>false
noncomputable def Fd (k:Expr->Bool):Expr->Bool
 | .UnaryOp .USub x _=>k x
 | _=>false
noncomputable def Aw (k:Expr->Bool):Expr->Bool
 | .UnaryOp .Not x _=>k x
 | _=>false
noncomputable def Ax (o:CmpOp) (k l:Expr->Bool):Expr->Bool
 | .Compare x [op] [y] _=>decide (op=o) && k x && l y && az y
 | _=>false
noncomputable def Ay (o p:CmpOp) (k l m:Expr->Bool):Expr->Bool
 | .Compare x [op,op'] [y,z] _=>decide (op=o) && decide (op'=p) && k x && l y && m z && az z
 | _=>false
noncomputable def uF (o:BoolOp) (k l:Expr->Bool):Expr->Bool
 | .BoolOp op [x,y] _=>decide (op=o) && k x && l y
 | _=>false
noncomputable def uG (o:BoolOp) (k l:Expr->Bool):Expr->Bool
 | .BoolOp op (x::y::z::ys) p=>decide (op=o) && k x && l (.BoolOp o (y::z::ys) p)
 | _=>false
noncomputable def Fe (k l m:Expr->Bool):Expr->Bool
 | .IfExp x y z _=>k x && l y && m z
 | _=>false
noncomputable def sIx (k l:Expr->Bool):Expr->Bool
 | .Subscript x y _=>k x && l y && az y
 | _=>false
noncomputable def sSl (k:Expr->Bool) (l m:Option Expr->Bool):Expr->Bool
 | .Subscript x (.Slice y z none _) _=>k x && l y && m z
 | _=>false
noncomputable def xt (k:Str->Bool) (l:List Expr->Bool):Expr->Bool
 | .Call (.Name x _) (e::es) [] _=>k x && l (e::es)
 | _=>false
noncomputable def nj (b:Blk) (f:Str) (k:List Expr->Bool):Expr->Bool
 | .Call (.Name x _) (e::es) [] _=>x == f && b.glo x && k (e::es)
 | _=>false
noncomputable def bN (b:Blk) (f:Str) (k:Expr->Bool):Expr->Bool
 | .Call (.Name x _) [e] [] _=>x == f && b.glo x && k e && az e
 | _=>false
noncomputable def nk (b:Blk) (f:Str) (k l:Expr->Bool):Expr->Bool
 | .Call (.Name x _) [e,e'] [] _=>x == f && b.glo x && k e && az e && l e' && az e'
 | _=>false
noncomputable def uH (m:Str) (k:Expr->Bool) (l:List Expr->Bool):Expr->Bool
 | .Call (.Attribute x m' ap) es [] p=>m' == m && km x && (ap.endLine == p.line) && k x && l es
 | _=>false
noncomputable def xu (k:Expr->Expr->Expr->List Expr->List Comprehension->Scope->Bool):Expr->Bool
 | .ListComp e (⟨t,i,ifs,0⟩::gs) scope _=>k e t i ifs gs scope
 | _=>false
noncomputable def xv:Expr->Bool
 | .Dict [] [] _=>true
 | _=>false
noncomputable def xw (k l:Expr->Bool):Expr->Bool
 | .Dict [some x] [y] _=>k x && l y
 | _=>false
theorem o8 {x y:Str} (h:(x == y)=true):x=y:=by simpa using h
section
variable {e:Expr} {k l m:Expr->Bool}
theorem Ff (h:E9 e=true):∃ a p,e = .Constant .none a p:=by unfold E9 at h;split at h <;> first | exact ⟨_,_,rfl⟩ | cases h
theorem Jm {v:Bool} (h:sBl v e=true):∃ a p,e = .Constant (.bool v) a p:=by unfold sBl at h;split at h <;> first | (simp at h;subst h;exact ⟨_,_,rfl⟩) | cases h
theorem qL {v:Int} (h:xq v e=true):∃ a p,e = .Constant (.int v) a p:=by unfold xq at h;split at h <;> first | (simp at h;subst h;exact ⟨_,_,rfl⟩) | cases h
theorem Fg {v:Str} (h:Fa v e=true):∃ a p,e = .Constant (.str v) a p:=by unfold Fa at h;split at h <;> first | (simp at h;subst h;exact ⟨_,_,rfl⟩) | cases h
theorem nn {k:Str->Bool} (h:o7 k e=true):∃ x p,e = .Name x p/\k x=true:=by unfold o7 at h;split at h <;> first | exact ⟨_,_,rfl,h⟩ | cases h
theorem xy {k:List Expr->Bool} (h:xr k e=true):∃ x a p,e = .Tuple x a p/\k x=true:=by unfold xr at h;split at h <;> first | exact ⟨_,_,_,rfl,h⟩ | cases h
theorem Fh {k:List Expr->Bool} (h:Fb k e=true):∃ x p,e = .List x p/\k x=true:=by unfold Fb at h;split at h <;> first | exact ⟨_,_,rfl,h⟩ | cases h
theorem Fi {o:Operator} (h:Fc o k l e=true):∃ x y p,e = .BinOp x o y p/\k x=true/\l y=true:=by unfold Fc at h;split at h <;> first | (simp at h;obtain ⟨⟨rfl,a⟩,b⟩:=h;exact ⟨_,_,_,rfl,a,b⟩) | cases h
theorem Fj (h:Fd k e=true):∃ x p,e = .UnaryOp .USub x p/\k x=true:=by unfold Fd at h;split at h <;> first | exact ⟨_,_,rfl,h⟩ | cases h
theorem xz (h:Aw k e=true):∃ x p,e = .UnaryOp .Not x p/\k x=true:=by unfold Aw at h;split at h <;> first | exact ⟨_,_,rfl,h⟩ | cases h
theorem xD {o:CmpOp} (h:Ax o k l e=true):∃ x y p,e = .Compare x [o] [y] p/\k x=true/\l y=true/\az y=true:=by unfold Ax at h;split at h <;> first | (simp at h;obtain ⟨⟨⟨rfl,a⟩,b⟩,c⟩:=h;exact ⟨_,_,_,rfl,a,b,c⟩) | cases h
theorem xE {o p:CmpOp} (h:Ay o p k l m e=true):∃ x y z q,e = .Compare x [o,p] [y,z] q/\k x=true/\l y=true/\m z=true/\az z=true:=by unfold Ay at h;split at h <;> first | (simp at h;obtain ⟨⟨⟨⟨⟨rfl,rfl⟩,a⟩,b⟩,c⟩,d⟩:=h;exact ⟨_,_,_,_,rfl,a,b,c,d⟩) | cases h
theorem np {o:BoolOp} (h:uF o k l e=true):∃ x y p,e = .BoolOp o [x,y] p/\k x=true/\l y=true:=by unfold uF at h;split at h <;> first | (simp at h;obtain ⟨⟨rfl,a⟩,b⟩:=h;exact ⟨_,_,_,rfl,a,b⟩) | cases h
theorem nq {o:BoolOp} (h:uG o k l e=true):∃ x y z ys p,e = .BoolOp o (x::y::z::ys) p/\k x=true/\l (.BoolOp o (y::z::ys) p)=true:=by unfold uG at h;split at h <;> first | (simp at h;obtain ⟨⟨rfl,a⟩,b⟩:=h;exact ⟨_,_,_,_,_,rfl,a,b⟩) | cases h
theorem Fk (h:Fe k l m e=true):∃ x y z p,e = .IfExp x y z p/\k x=true/\l y=true/\m z=true:=by unfold Fe at h;split at h <;> first | (simp at h;exact ⟨_,_,_,_,rfl,h.1.1,h.1.2,h.2⟩) | cases h
theorem Jn (h:sIx k l e=true):∃ x y p,e = .Subscript x y p/\k x=true/\l y=true/\az y=true:=by unfold sIx at h;split at h <;> first | (simp at h;exact ⟨_,_,_,rfl,h.1.1,h.1.2,h.2⟩) | cases h
theorem Jo {l m:Option Expr->Bool} (h:sSl k l m e=true):∃ x y z p q,e = .Subscript x (.Slice y z none p) q/\k x=true/\l y=true/\m z=true:=by unfold sSl at h;split at h <;> first | (simp at h;exact ⟨_,_,_,_,_,rfl,h.1.1,h.1.2,h.2⟩) | cases h
theorem Az {k:Str->Bool} {l:List Expr->Bool} (h:xt k l e=true):∃ x x1 es p q,e = .Call (.Name x p) (x1::es) [] q/\k x=true/\l (x1::es)=true:=by unfold xt at h;split at h <;> first | (simp at h;exact ⟨_,_,_,_,_,rfl,h.1,h.2⟩) | cases h
theorem o9 {b:Blk} {f:Str} {k:List Expr->Bool} (h:nj b f k e=true):∃ x es p q,e = .Call (.Name f p) (x::es) [] q/\b.glo f=true/\k (x::es)=true:=by unfold nj at h;split at h <;> first | (simp at h;obtain ⟨⟨rfl,a⟩,b⟩:=h;exact ⟨_,_,_,_,rfl,a,b⟩) | cases h
theorem a8 {b:Blk} {f:Str} (h:bN b f k e=true):∃ x p q,e = .Call (.Name f p) [x] [] q/\b.glo f=true/\k x=true/\az x=true:=by unfold bN at h;split at h <;> first | (simp at h;obtain ⟨⟨⟨rfl,a⟩,b⟩,c⟩:=h;exact ⟨_,_,_,rfl,a,b,c⟩) | cases h
theorem ko {b:Blk} {f:Str} (h:nk b f k l e=true):∃ x y p q,e = .Call (.Name f p) [x,y] [] q/\b.glo f=true/\k x=true/\az x=true/\l y=true/\az y=true:=by unfold nk at h;split at h <;> first | (simp at h;obtain ⟨⟨⟨⟨⟨rfl,a⟩,b⟩,c⟩,d⟩,e⟩:=h;exact ⟨_,_,_,_,rfl,a,b,c,d,e⟩) | cases h
theorem nr {m:Str} {l:List Expr->Bool} (h:uH m k l e=true):∃ x ap es p,e = .Call (.Attribute x m ap) es [] p/\km x=true/\(ap.endLine == p.line)=true/\k x=true/\l es=true:=by
 unfold uH at h;split at h
 ·simp only [bAE] at h
  obtain ⟨⟨⟨⟨h1,a⟩,b⟩,c⟩,d⟩:=h
  have:=o8 h1
  subst this
  exact ⟨_,_,_,_,rfl,a,b,c,d⟩
 ·cases h
theorem su {k:Expr->Expr->Expr->List Expr->List Comprehension->Scope->Bool} (h:xu k e=true):∃ el t i ifs gs scope p,e = .ListComp el (⟨t,i,ifs,0⟩::gs) scope p/\k el t i ifs gs scope=true:=by unfold xu at h;split at h <;> first | exact ⟨_,_,_,_,_,_,_,rfl,h⟩ | cases h
theorem AA (h:xv e=true):∃ p,e = .Dict [] [] p:=by unfold xv at h;split at h <;> first | exact ⟨_,rfl⟩ | cases h
theorem AB (h:xw k l e=true):∃ x y p,e = .Dict [some x] [y] p/\k x=true/\l y=true:=by unfold xw at h;split at h <;> first | (simp at h;exact ⟨_,_,_,rfl,h.1,h.2⟩) | cases h
end
noncomputable def sv (f:Expr->CE->Bool):Option Expr->Option CE->Bool
 | none,none=>true
 | some e,some c=>f e c
 | _,_=>false
noncomputable def uI (f:Expr->CE->Bool):List Expr->Option CE->Bool
 | [],none=>true
 | [e],some c=>f e c
 | _,_=>false
mutual
noncomputable def ag (T:Tab):Nat->Blk->Expr->CE->Bool
 | 0,_,_,_=>false
 | n+1,b,e,c=>match c with
  | .non=>E9 e
  | .bl v=>sBl v e
  | .int i=>xq i e
  | .str x=>Fa x e
  | .var i=>o7 (fun x=>b.N[i]? == some x && b.vis x) e
  | .con k v=>o7 (fun x=>T.con[k]? == some (x,v) && b.glo x) e
  | .tup cs=>xr (fun es=>cj T n b es cs) e
  | .lst cs=>Fb (fun es=>cj T n b es cs) e
  | .dic0=>xv e
  | .dic1 i j=>xw (xq i) (xq j) e
  | .bin o a c=>Fc o.op (fun x=>ag T n b x a) (fun x=>ag T n b x c) e
  | .neg a=>Fd (fun x=>ag T n b x a) e
  | .cmp o a c=>Ax o.op (fun x=>ag T n b x a) (fun x=>ag T n b x c) e
  | .chn o p a c d=>Ay o.op p.op (fun x=>ag T n b x a) (fun x=>ag T n b x c) (fun x=>ag T n b x d) e
  | .and a c=>uF .And (fun x=>ag T n b x a) (fun x=>ag T n b x c) e || uG .And (fun x=>ag T n b x a) (fun x=>ag T n b x c) e
  | .or a c=>uF .Or (fun x=>ag T n b x a) (fun x=>ag T n b x c) e || uG .Or (fun x=>ag T n b x a) (fun x=>ag T n b x c) e
  | .not a=>Aw (fun x=>ag T n b x a) e
  | .ite t a c=>Fe (fun x=>bZ T n b x t) (fun x=>ag T n b x a) (fun x=>ag T n b x c) e
  | .ix a c=>sIx (fun x=>ag T n b x a) (fun x=>ag T n b x c) e
  | .sl a lo hi=>sSl (fun x=>ag T n b x a) (fun l=>sv (ag T n b) l lo) (fun l=>sv (ag T n b) l hi) e
  | .call f cs=>xt (fun x=>(match T.fns[f]? with | some y=>y.1 == x | none=>false) && b.glo x) (fun es=>cj T n b es cs) e
  | .inst t a=>nk b "isinstance" (fun x=>ag T n b x a) (o7 fun y=>y == Str.ofString t.nm && b.glo y) e
  | .len a=>bN b "len" (fun x=>ag T n b x a) e
  | .all a=>bN b "all" (fun x=>ag T n b x a) e
  | .any a=>bN b "any" (fun x=>ag T n b x a) e
  | .tupOf a=>bN b "tuple" (fun x=>ag T n b x a) e
  | .listOf a=>bN b "list" (fun x=>ag T n b x a) e
  | .listR a=>bN b "list" (bN b "range" fun x=>ag T n b x a) e
  | .srt a=>bN b "sorted" (fun x=>ag T n b x a) e
  | .mxL a=>bN b "max" (fun x=>ag T n b x a) e
  | .mnL a=>bN b "min" (fun x=>ag T n b x a) e
  | .intOf a=>bN b "int" (fun x=>ag T n b x a) e
  | .mx a c=>nj b "max" (fun es=>cj T n b es [a,c]) e
  | .mn a c=>nj b "min" (fun es=>cj T n b es [a,c]) e
  | .rep a=>bN b "repr" (fun x=>ag T n b x a) e
  | .comp own elt cls=>(match cls with
   | []=>false
   | ⟨tg,it,cond⟩::rest=>xu (fun el t i ifs gs scope=>cmB own (kn own b.N) b.N scope b.sc && eN T n b t i it && k9 (b.inner own scope) t tg && uI (bZ T n (b.inner own scope)) ifs cond && i8 T n (b.inner own scope) el gs elt rest) e)
  | .app o a=>uH "append" (fun x=>ag T n b x o) (fun es=>cj T n b es [a]) e
  | .pop o=>uH "pop" (fun x=>ag T n b x o) (fun es=>es.isEmpty) e
  | .popAt o a=>uH "pop" (fun x=>ag T n b x o) (fun es=>cj T n b es [a]) e
  | .cnt o a=>uH "count" (fun x=>ag T n b x o) (fun es=>cj T n b es [a]) e
noncomputable def cj (T:Tab):Nat->Blk->List Expr->List CE->Bool
 | 0,_,_,_=>false
 | n+1,b,es,cs=>match es,cs with
  | [],[]=>true
  | e::es,c::cs=>ag T n b e c && az e && cj T n b es cs
  | _,_=>false
noncomputable def i8 (T:Tab):Nat->Blk->Expr->List Comprehension->CE->List Cl->Bool
 | 0,_,_,_,_,_=>false
 | n+1,b,e,gs,elt,cls=>match gs,cls with
  | [],[]=>ag T n b e elt
  | ⟨t,i,ifs,0⟩::gs,⟨tg,it,cond⟩::rest=>eN T n b t i it && k9 b t tg && uI (bZ T n b) ifs cond && i8 T n b e gs elt rest
  | _,_=>false
noncomputable def eN (T:Tab):Nat->Blk->Expr->Expr->CI->Bool
 | 0,_,_,_,_=>false
 | n+1,b,t,e,c=>match c with
  | .val a=>ag T n b e a && az e
  | .r1 a=>bN b "range" (fun x=>ag T n b x a) e
  | .r2 a c=>nk b "range" (fun x=>ag T n b x a) (fun x=>ag T n b x c) e
  | .en a=>bN b "enumerate" (fun x=>ag T n b x a) e && xr (fun _=>true) t
noncomputable def bZ (T:Tab):Nat->Blk->Expr->CE->Bool
 | 0,_,_,_=>false
 | n+1,b,e,c=>match c with
  | .cmp o a c=>Ax o.op (fun x=>ag T n b x a) (fun x=>ag T n b x c) e
  | .chn o p a c d=>Ay o.op p.op (fun x=>ag T n b x a) (fun x=>ag T n b x c) (fun x=>ag T n b x d) e
  | .and a c=>uF .And (fun x=>bZ T n b x a) (fun x=>bZ T n b x c) e || uG .And (fun x=>bZ T n b x a) (fun x=>bZ T n b x c) e
  | .or a c=>uF .Or (fun x=>bZ T n b x a) (fun x=>bZ T n b x c) e || uG .Or (fun x=>bZ T n b x a) (fun x=>bZ T n b x c) e
  | .not a=>Aw (fun x=>bZ T n b x a) e
  | .ite _ _ _=>false
  | c=>ag T n b e c && xo e
end
theorem fL {T:Tab} {n:Nat} {b:Blk} {t e:Expr} {c:CI} (h:eN T n b t e c=true) (hp:∀ e,az e=true->∀ env x,foldedSetIterable e env x=pure x):∀ env x,foldedSetIterable e env x=pure x:=by
 cases n with
 | zero=>simp [eN] at h
 | succ n=>
  cases c with
  | val a=>simp only [eN,bAE] at h;exact hp e h.2
  | r1 a=>simp only [eN] at h;obtain ⟨x,p,q,rfl,_⟩:=a8 h;intro _ _;rfl
  | r2 a c=>simp only [eN] at h;obtain ⟨x,y,p,q,rfl,_⟩:=ko h;intro _ _;rfl
  | en a=>simp only [eN,bAE] at h;obtain ⟨x,p,q,rfl,_⟩:=a8 h.1;intro _ _;rfl
end Ev
namespace Ev
open PySem PySem.Spec PyProof.Rows L2
structure CtxOk (T:Tab) (C:Calls) (ar:Nat->Nat) (k:Nat) (b:Blk) (X:Cx):Prop where
 calm:X.calm=true
 xe:X.xe=fun _ _=>False
 hN:X.N=b.N
 hs:X.env.scope=b.sc
 nd:b.N.Nodup
 fn:∀ x,(match b.fs with | none=>true | some sc=>sc.names.lookup x == some .cell)=true->X.fn x=true
 room:Room k X.A
 con:∀ (i:Nat) (x:Str) (v:Int),T.con[i]?=some (x,v)->∃ tk,X.mg x=some (.int v tk)
 bl:∀ x,x ∈ gX->X.mg x=none
 fns:∀ (i:Nat) (y:Str × Nat),T.fns[i]?=some y->ar i=y.2/\∃ f fd ps,X.mg y.1=some (.ref f)/\PySem.W.keepIn X.K (.ref f)=true/\lp X.K fd ps []/\FnOk X.prog X.w X.K X.mg X.base CX0 k f fd ps (spC X.K (C i) (ar i))
section
variable {T:Tab} {C:Calls} {ar:Nat->Nat} {k:Nat} {b:Blk} {X:Cx}
theorem ao {e:Expr} {es:List Expr} {env:Env} (h:az e=true):starEach (e::es) env=(false,eval e env)::starEach es env:=by
 cases e <;> first | rfl | (exact absurd h (by simp [az]))
theorem pb {e:Expr} (h:az e=true):rF e:=by
 intro o i
 cases e <;> first | rfl | (exact absurd h (by simp [az]))
theorem gk {e:Expr} {op:CmpOp} (h:az e=true):behindInMarks op e=false:=by
 cases e <;> first | rfl | (exact absurd h (by simp [az]))
theorem kq {e f:Expr} {op op':CmpOp} (h:az e=true):lastMarks [op,op'] [f,e]=false:=by
 show behindInMarks op' e=false
 exact gk h
theorem dS {e:Expr} {env:Env} (h:az e=true):∀ x,foldedSetIterable e env x=pure x:=by
 intro x
 cases e <;> first | rfl | (exact absurd h (by simp [az]))
theorem dU {e:Expr} {m:Str} {env:Env} {w:Sem Value} (h:km e=true):attributeBase e m env w=w:=by
 cases e with
 | Call f as ks p=>
  cases f with
  | Name x q=>
   cases as with
   | nil=>cases ks with | nil=>simp [km] at h | cons _ _=>rfl
   | cons _ _=>rfl
  | _=>rfl
 | _=>first | rfl | (exact absurd h (by simp [km]))
theorem qM {e:Expr} {env:Env} (h:xo e=true):∀ whole,isTrue e env whole=(do let v <-whole;standAt e.pos;holding [v] (truthy v)):=by
 intro whole
 cases e with
 | UnaryOp op x p=>cases op <;> first | rfl | (exact absurd h (by simp [xo]))
 | _=>first | rfl | (exact absurd h (by simp [xo]))
theorem iO {es:List Expr} {env:Env} {pos:Pos} (h:∀ e ∈ es,az e=true):(backTo pos (starEach es env)).any (·.1)=false:=by
 induction es with
 | nil=>rfl
 | cons e es ih=>
  rw [ao (h e List.mem_cons_self)]
  show (false || (backTo pos (starEach es env)).any (·.1))=false
  rw [ih fun e he=>h e (List.mem_cons_of_mem _ he)];rfl
theorem bQ:∀ {n:Nat} {es:List Expr} {cs:List CE},cj T n b es cs=true->∀ e ∈ es,az e=true
 | 0,_,_,h=>by simp [cj] at h
 | n+1,[],_,_=>by simp
 | n+1,e::es,[],h=>by simp [cj] at h
 | n+1,e::es,c::cs,h=>by
  simp only [cj,bAE] at h
  intro x hx
  rcases List.mem_cons.mp hx with rfl | hx
  ·exact h.1.2
  ·exact bQ h.2 x hx
theorem CtxOk.gl (G:CtxOk T C ar k b X) {x:Str} (h:b.glo x=true):Gl X x/\(x == ("__debug__" : Str))=false:=by
 unfold Blk.glo at h
 rw [bAE] at h
 refine ⟨?_,by simpa using h.2⟩
 show X.env.scope.names.lookup x=_
 rw [G.hs]
 simpa using h.1
theorem CtxOk.vis (G:CtxOk T C ar k b X) {x:Str} (h:b.vis x=true):Vis X.env.scope x/\(x == ("__debug__" : Str))=false/\(x == ("__classdict__" : Str))=false:=by
 unfold Blk.vis at h
 rw [bAE,bAE] at h
 refine ⟨?_,by simpa using h.1.2,by simpa using h.2⟩
 unfold Vis
 rw [G.hs]
 have h1:=h.1.1
 split at h1
 ·rename_i e;exact .inl e
 ·rename_i e;exact .inr (.inl e)
 ·rename_i e;exact .inr (.inr e)
 ·cases h1
theorem CtxOk.own (G:CtxOk T C ar k b X) {x:Str} (h:b.own x=true):L2.Loc X.env.scope x/\(X.fn x=true\/X.env.scope.names.lookup x=some .local):=by
 unfold Blk.own at h
 unfold L2.Loc
 rw [G.hs]
 split at h
 ·rename_i e;exact ⟨.inl e,.inr e⟩
 ·rename_i e
  refine ⟨.inr e,.inl (G.fn x ?_)⟩
  cases hf:b.fs with
  | none=>rfl
  | some sc=>rw [hf] at h;exact h
 ·cases h
theorem CtxOk.inner (G:CtxOk T C ar k b X) {own:List Str} {scope:Scope} (S:CmScope own (kn own b.N) b.N scope b.sc) {C':Addr} {ex:List Addr} {s:Shared} {H:Hp}:CtxOk T C ar k (b.inner own scope) (cxC X own (kn own b.N) scope C' ex s H):=
 ⟨G.calm,rfl,by show cG (kn own b.N) X.N++own=_;rw [G.hN];rfl,by show eR scope X.env.scope=_;rw [G.hs];rfl,S.nd,fun x h=>h,G.room,G.con,G.bl,G.fns⟩
mutual
theorem fM (G:CtxOk T C ar k b X):∀ {e:Expr} {t:Tg},k9 b e t=true->PG X e (tTg X.K t)
 | e,.name i,h=>by
  rw [k9] at h
  cases hx:qK e with
  | none=>rw [hx] at h;cases h
  | some r=>
   rw [hx] at h
   simp only [bAE] at h
   rw [nh hx]
   have o:=G.own h.2
   exact PG.imp (zd (i:=i) (x:=r.1) (by rw [G.hN];exact G.nd) (by rw [G.hN];simpa using h.1) o.1 o.2) fun x σ H Q q=>ng q
 | e,.tup ts,h=>by
  rw [k9] at h
  cases hx:o6 e with
  | none=>rw [hx] at h;cases h
  | some r=>
   rw [hx] at h
   rw [ni hx]
   have hl:=lN h
   exact PG.imp (DH G.calm (pc G h) rfl hl.2) fun x σ H Q q=>ER hl.1 q
theorem pc (G:CtxOk T C ar k b X):∀ {es:List Expr} {ts:List Tg},dG b es ts=true->PGs X es (wY X.K ts)
 | es,[],h=>by
  rw [dG] at h
  rw [List.isEmpty_iff.mp h]
  exact PGs.imp ze fun x σ H Q q=>Am q
 | es,t::ts,h=>by
  cases es with
  | nil=>rw [dG] at h;cases h
  | cons e es=>
   rw [dG] at h
   simp only [bAE] at h
   refine PGs.imp (vA (fM G h.1.1) (pc G h.2) ?_) fun x σ H Q q=>wZ q
   have:=h.1.2
   cases e <;> first | rfl | (exact absurd this (by simp [az]))
theorem lN:∀ {es:List Expr} {ts:List Tg},dG b es ts=true->(assignEach es X.env).length=ts.length/\(assignEach es X.env).findIdx? (·.1)=none
 | es,[],h=>by
  rw [dG] at h
  rw [List.isEmpty_iff.mp h]
  exact ⟨rfl,rfl⟩
 | es,t::ts,h=>by
  cases es with
  | nil=>rw [dG] at h;cases h
  | cons e es=>
   rw [dG] at h
   simp only [bAE] at h
   have ih:=lN h.2
   have pl:=h.1.2
   have e1:assignEach (e::es) X.env=(false,assign e X.env)::assignEach es X.env:=by cases e <;> first | rfl | (exact absurd pl (by simp [az]))
   rw [e1]
   refine ⟨by simp [ih.1],?_⟩
   rw [List.findIdx?_cons]
   simp [ih.2]
end
end
end Ev
namespace Ev
open PySem PySem.Spec PyProof.Rows L2
structure Snd (T:Tab) (C:Calls) (ar:Nat->Nat) (k n:Nat):Prop where
 e:∀ (b:Blk) (X:Cx) (e:Expr) (c:CE),CtxOk T C ar k b X->ag T n b e c=true->PE X e (tE X.K (evE C ar n c))
 tm:∀ (b:Blk) (X:Cx) (e:Expr) (c:CE),CtxOk T C ar k b X->af c=true->ag T n b e c=true->PE X e (dN X.K (ci C ar n c))
 a:∀ (b:Blk) (X:Cx) (es:List Expr) (cs:List CE),CtxOk T C ar k b X->cj T n b es cs=true->PA X es (tAr X.K (evA C ar n cs))
 t:∀ (b:Blk) (X:Cx) (e:Expr) (c:CE),CtxOk T C ar k b X->bZ T n b e c=true->PT X e (tT X.K (evT C ar n c))
 i:∀ (B:List Addr) (b:Blk) (X:Cx) (t e:Expr) (c:CI),CtxOk T C ar k b X->eN T n b t e c=true->PI X t e (tIt X.K B (evI C ar n c))
 cl:∀ (b:Blk) (X:Cx) (e:Expr) (gs:List Comprehension) (elt:CE) (cls:List Cl),CtxOk T C ar k b X->i8 T n b e gs elt cls=true ->
  ∀ (gens:List Comprehension) (scope:Scope) (pos:Pos) (acc:Addr) (d:Nat),gens.drop (d+1)=gs->PTl X e gens scope pos acc d (tCl X.K acc (fU C ar n elt cls))
section
variable {T:Tab} {C:Calls} {ar:Nat->Nat} {k n:Nat} {b:Blk} {X:Cx}
theorem gY {e:Expr} {es:List Expr} {te:TE} {t:TA} (ha:PE X e te) (hr:PA X es t) (hp:az e=true):PA X (e::es) (eD te t):=zm ha hr (ao hp)
theorem Jp (ih:Snd T C ar k n) (es:List Expr) (cs:List CE) (G:CtxOk T C ar k b X) (h:cj T (n+1) b es cs=true):PA X es (tAr X.K (evA C ar (n+1) cs)):=by
 cases es with
 | nil=>
  cases cs with
  | nil=>exact PA.imp vL fun σ H Q q=>Er q
  | cons _ _=>simp [cj] at h
 | cons e es=>
  cases cs with
  | nil=>simp [cj] at h
  | cons c cs=>
   simp only [cj,bAE] at h
   exact PA.imp (gY (ih.e b X e c G h.1.1) (ih.a b X es cs G h.2) h.1.2) fun σ H Q q=>zU q
theorem c8 {e:Expr} {te:TE} (h:PE X e te) (hp:az e=true):PA X [e] (eD te me):=gY h vL hp
theorem cV {x:Str} {id:String} {e:Expr} {te:TE} {r:V->Hp->VK->Prop} {p pos:Pos} (hc:aN X (.builtin id) (r1 r)) (G:CtxOk T C ar k b X) (hg:b.glo x=true) (hb:x ∈ gX) (hv:bootBuiltins x=some (.builtin id)) (hn:x ≠ "__name__") (h:PE X e te) (hp:az e=true) :
  PE X (.Call (.Name x p) [e] [] pos) (tUn r te):=
 PE.imp (gF hc (G.gl hg).1 (G.bl x hb) hv (c8 h hp) hn (G.gl hg).2 (ao hp) rfl) fun σ H Q q=>q
theorem jG {x:Str} {id:String} {e:Expr} {te:TE} {r:V->Hp->VK->Prop} {p pos:Pos} (hc:aN X (.type id) (r1 r)) (G:CtxOk T C ar k b X) (hg:b.glo x=true) (hb:x ∈ gX) (hv:bootBuiltins x=some (.type id)) (hn:x ≠ "__name__") (h:PE X e te) (hp:az e=true) :
  PE X (.Call (.Name x p) [e] [] pos) (tUn r te):=
 PE.imp (ir hc (G.gl hg).1 (G.bl x hb) hv (c8 h hp) hn (G.gl hg).2 (ao hp) rfl) fun σ H Q q=>q
theorem iP {x:Str} {e:Expr} {a:CE} {f:Bool->List D->Sto->Option (D × Sto)} {p pos:Pos} (ih:Snd T C ar k n) (G:CtxOk T C ar k b X) (hq:∀ te:TE,PE X e te->PE X (.Call (.Name x p) [e] [] pos) (tUn (rSq X.K f) te)) (h:ag T n b e a=true) :
  PE X (.Call (.Name x p) [e] [] pos) (tE X.K (if af a=true then mN f (ci C ar n a) else mO f (evE C ar n a))):=by
 split
 ·rename_i ht
  exact PE.imp (hq _ (ih.tm b X e a G ht h)) fun σ H Q q=>Eo q
 ·exact PE.imp (hq _ (ih.e b X e a G h)) fun σ H Q q=>Et q
theorem sy {x y:Str} (h:(x == y)=true):x=y:=by simpa using h
theorem nu {K:PySem.W.Frag} {x:XE} {σ:L2.St} {H:Hp} {Q Q':VK} (h:tE K x σ H Q) (f:∀ v H',Q v H'->Q' v H'):tE K x σ H Q':=by
 obtain ⟨m,ρ,S,d,S',E,R,e,q⟩:=h
 exact ⟨m,ρ,S,d,S',E,R,e,fun m' H' v A vd=>f _ _ (q m' H' v A vd)⟩
theorem xF {x:XE} {σ:L2.St} {H:Hp} {Q:VK} {K:PySem.W.Frag} (h:dN K (kl x) σ H Q):tUn (rTm K fun _ ds=>some ds) (tE K x) σ H Q:=by
 obtain ⟨m,ρ,S,ds,S',E,R,e,q⟩:=h
 obtain ⟨d,S1,e1,e⟩:=aa e
 cases hi:aj d S1 with
 | none=>rw [hi] at e;cases e
 | some r=>
  rw [hi] at e
  cases e
  refine ⟨m,ρ,S,d,_,E,R,e1,fun m1 H1 v A1 vd=>?_⟩
  obtain ⟨a,vs,ev,sq,vds⟩:=dD (tu:=r.1) (ds:=r.2) A1.rel vd hi
  refine ⟨m1,_,r.1,r.2,a,vs,r.2,A1.rel,ev,sq,vds,rfl,fun m2 H2 p ws A2 hp n1 n2 n3 vw=>?_⟩
  have hn:H p=none:=by
   cases eh:H p with
   | none=>rfl
   | some o=>
    by_cases hm:p ∈ m
    ·exact absurd rfl (n2 p (A1.ext.pre.subset hm))
    ·have:=A1.ext.keep p o eh hm
     rw [n3] at this;cases this
  exact q m2 H2 p ws (A1.trans A2) hp n1 (fun b hb=>n2 b (A1.ext.pre.subset hb)) hn vw
theorem xG {x:XA} {σ:L2.St} {H:Hp} {Q:VK} {K:PySem.W.Frag} (h:dN K x σ H Q):tUn (rTm K fun _ ds=>some ds) (dN K x) σ H Q:=by
 obtain ⟨m,ρ,S,ds,S',E,R,e,q⟩:=h
 refine ⟨m,ρ,S,ds,S',E,R,e,fun m1 H1 a vs A1 ha na _ _ vd=>?_⟩
 refine ⟨m1,_,false,ds,a,vs,ds,A1.rel,rfl,show SqL K H1 a vs from SqL.of ha,vd,rfl,fun m2 H2 p ws A2 hp n1 n2 n3 vw=>?_⟩
 have hn:H p=none:=by
  cases eh:H p with
  | none=>rfl
  | some o=>
   by_cases hm:p ∈ m
   ·exact absurd rfl (n2 p (A1.ext.pre.subset hm))
   ·have:=A1.ext.keep p o eh hm
    rw [n3] at this;cases this
 exact q m2 H2 p ws (A1.trans A2) hp n1 (fun b hb=>n2 b (A1.ext.pre.subset hb)) hn vw
noncomputable def ifT (C:Calls) (ar:Nat->Nat) (n:Nat) (K:PySem.W.Frag):Option CE->TT
 | none=>zA
 | some c=>tT K (evT C ar n c)
theorem kr (ih:Snd T C ar k n) (G:CtxOk T C ar k b X) {ifs:List Expr} {cond:Option CE} (h:uI (bZ T n b) ifs cond=true):PTs X ifs (ifT C ar n X.K cond):=by
 unfold uI at h
 split at h
 ·exact zB
 ·rename_i e c
  exact zC (ih.t b X e c G h)
 ·cases h
theorem qN {K:PySem.W.Frag} {cond:Option CE} {acc:Addr} {c:XA} {D:Ends} {σ:L2.St} {H:Hp} (q:tCl K acc (cnd (evT C ar n) cond c) D σ H):eF (ifT C ar n K cond) (tCl K acc c) D σ H:=by
 cases cond with
 | none=>exact EX q
 | some c=>exact As q
theorem pd (ih:Snd T C ar k n) (G:CtxOk T C ar k b X) {l:Option Expr} {lo:Option CE} (h:sv (ag T n b) l lo=true):PO X l (tOI X.K (opt (evE C ar n) lo)):=by
 unfold sv at h
 split at h
 ·exact PO.imp zp fun σ H Q q=>z7 q
 ·rename_i e c
  exact PO.imp (zq (ih.e b X e c G h)) fun σ H Q q=>z8 q
 ·cases h
theorem Fm (ih:Snd T C ar k n) (e:Expr) (gs:List Comprehension) (elt:CE) (cls:List Cl) (G:CtxOk T C ar k b X) (h:i8 T (n+1) b e gs elt cls=true) (gens:List Comprehension) (scope:Scope) (pos:Pos) (acc:Addr) (d:Nat) (hd:gens.drop (d+1)=gs) :
  PTl X e gens scope pos acc d (tCl X.K acc (fU C ar (n+1) elt cls)):=by
 have imp:∀ {t t':TS},PTl X e gens scope pos acc d t->(∀ D σ H,t' D σ H->t D σ H)->PTl X e gens scope pos acc d t':=fun h f pins s σ H D I q=>h pins s σ H D I (f D σ H q)
 unfold i8 at h
 split at h
 ·have hn:gens[d+1]?=none:=by
   have:=congrArg List.length hd
   simp at this
   exact List.getElem?_eq_none_iff.mpr (by omega)
  exact imp (vZ G.xe hn (ih.e b X e elt G h)) fun D σ H q=>Ar q
 ·rename_i t i ifs gs' tg it cond rest
  simp only [bAE] at h
  obtain ⟨⟨⟨h1,h2⟩,h3⟩,h4⟩:=h
  have hn:gens[d+1]?=some ⟨t,i,ifs,0⟩:=by
   have:=congrArg (·[0]?) hd
   simpa using this
  have hd':gens.drop (d+1+1)=gs':=by
   have:=congrArg (List.drop 1) hd
   simpa [List.drop_drop] using this
  have hpl:=fL h1 (fun e he env=>dS he) X.env
  exact imp (zD hn (ih.i [acc] b X t i it G h1) (fM G h2) (kr ih G h3) (ih.cl b X e gs' elt rest G h4 gens scope pos acc (d+1) hd') G.xe G.calm hpl) fun D σ H q=>xf (fun D σ H z=>qN z) q
 ·cases h
theorem Jq (ih:Snd T C ar k n) (B:List Addr) (t e:Expr) (c:CI) (G:CtxOk T C ar k b X) (h:eN T (n+1) b t e c=true):PI X t e (tIt X.K B (evI C ar (n+1) c)):=by
 cases c with
 | val a=>
  simp only [eN,bAE] at h
  show PI X t _ (tIt X.K B (if af a=true then xIT (ci C ar n a) else xIV (evE C ar n a)))
  split
  ·rename_i ht
   exact PI.imp (rB (ih.tm b X _ a G ht h.1)) fun σ H R q=>K0 q
  ·exact PI.imp (PI.or (rB (ih.e b X _ a G h.1)) (DL (ih.e b X _ a G h.1))) fun σ H R q=>KZ q
 | r1 a=>
  simp only [eN] at h
  obtain ⟨x,p,q,rfl,h2,h3,h4⟩:=a8 h
  exact PI.imp (tG (G.gl h2).1 (G.bl _ (by decide)) (c8 (ih.e b X x a G h3) h4) (ao h4)) fun σ H R q=>Jh q
 | r2 a c=>
  simp only [eN] at h
  obtain ⟨x,y,p,q,rfl,h2,h3,h4,h5,h6⟩:=ko h
  exact PI.imp (tH (G.gl h2).1 (G.bl _ (by decide)) (gY (ih.e b X x a G h3) (c8 (ih.e b X y c G h5) h6) h4) (by rw [ao h4,ao h6];rfl) (ao h6)) fun σ H R q=>Ji q
 | en a=>
  simp only [eN,bAE] at h
  obtain ⟨x,p,q,rfl,h2,h3,h4⟩:=a8 h.1
  obtain ⟨elts,x1,tp,rfl,_⟩:=xy h.2
  show PI X _ _ (tIt X.K B (if af a=true then xET (ci C ar n a) else xEV (evE C ar n a)))
  split
  ·rename_i ht
   exact PI.imp (v9 (G.gl h2).1 (G.bl _ (by decide)) (c8 (ih.tm b X x a G ht h3) h4) (ao h4)) fun σ H R q=>Jg q
  ·exact PI.imp (PI.or (v9 (G.gl h2).1 (G.bl _ (by decide)) (c8 (ih.e b X x a G h3) h4) (ao h4)) (Ec (G.gl h2).1 (G.bl _ (by decide)) (c8 (ih.e b X x a G h3) h4) (ao h4))) fun σ H R q=>Jf q
end
end Ev
namespace Ev
open PySem PySem.Spec PyProof.Rows L2
section
variable {T:Tab} {C:Calls} {ar:Nat->Nat} {k n:Nat} {b:Blk} {X:Cx}
theorem pj {k:Nat} {A:Around} (r:Room k A):A.units+64 < cLine:=r.units
theorem gZ (K:PySem.W.Frag) (m:List Addr) (H:Hp):∀ l:List Nat,VDs K m H (l.map fun j=>D.int (Int.ofNat j)) (l.map fun (j:Nat)=>V.int j)
 | []=>by rw [List.map_nil,List.map_nil,VDs]
 | a::l=>by rw [List.map_cons,List.map_cons,VDs];exact ⟨_,_,rfl,bu,gZ K m H l⟩
theorem rq {H:Hp} {p:Addr} {x y:HO}:upd (upd H p x) p y=upd H p y:=by
 funext b
 unfold upd
 split <;> rfl
theorem Rel.adoptO {K:PySem.W.Frag} {m:List Addr} {S:Sto} {H:Hp} {a:Addr} (R:Rel K m S H) (n:a ∉ m) {ob:Ob} (h:ObR K (m++[a]) H a ob):Rel K (m++[a]) (S++[ob]) H:=by
 have p:=List.prefix_append m [a]
 have g:∀ {es:List D} {ws:List V},VDs K m H es ws->VDs K (m++[a]) H es ws:=fun z=>VDs.mono0 p (fun _ _ t=>t) z
 refine ⟨by simp [R.len],List.nodup_append.mpr ⟨R.nd,by simp,fun x hx y hy=>by simp at hy;subst hy;exact fun z=>n (z ▸ hx)⟩,fun i o e=>?_⟩
 by_cases hi:i < S.length
 ·rw [List.getElem?_append_left hi] at e
  obtain ⟨b,hb,r⟩:=R.ob i o e
  refine ⟨b,jA p hb,?_⟩
  cases o with
  | lst ds=>obtain ⟨vs,p,q⟩:=r;exact ⟨vs,p,g q⟩
  | frz ds=>obtain ⟨o,vs,p,q⟩:=r;exact ⟨o,vs,p,g q⟩
  | dic ks ds=>obtain ⟨vs,p,l,q⟩:=r;exact ⟨vs,p,l,g q⟩
 ·rw [List.getElem?_append_right (by omega)] at e
  have hz:i - S.length=0:=by
   have:=(List.getElem?_eq_some_iff.mp e).1
   simp at this;omega
  rw [hz] at e
  have e':ob=o:=by simpa using e
  subst e'
  refine ⟨a,?_,h⟩
  rw [List.getElem?_append_right (by rw [R.len];omega),R.len,hz];rfl
theorem sA {K:PySem.W.Frag} {m:List Addr} {H:Hp} {S:Sto} {p:Addr} {ks:List Key} {ds:List D} {vs:List V} {Q:VK} (R:Rel K m S H) (hp:H p=none) (vd:VDs K m H ds vs) (hl:ks.length=ds.length) (q:∀ m' H' u,Aft K m H (S++[.dic ks ds]) m' H'->VD K m' H' (.ref S.length) u->Q u H'):Q (.ref p) (upd H p (.dK (ks.zip vs))):=by
 have x:=Ext.beside R hp (.dK (ks.zip vs))
 have R1:=R.beside hp (.dK (ks.zip vs))
 refine q (m++[p]) _ _ ⟨x.adopt hp,?_⟩ ?_
 ·exact R1.adoptO (R.no hp) (ob:=.dic ks ds) ⟨vs,bj,hl,VDs.mono0 (List.prefix_append m [p]) (fun _ _ t=>t) (vd.mono R x)⟩
 ·rw [VD]
  exact ⟨p,by rw [List.getElem?_append_right (by rw [R.len];exact Nat.le_refl _),R.len,Nat.sub_self];rfl,rfl⟩
theorem qO {es:List Expr} {a:CE} (h:cj T n b es [a]=true):∃ y,es=[y]:=by
 cases n with
 | zero=>simp [cj] at h
 | succ n=>
  cases es with
  | nil=>simp [cj] at h
  | cons e es=>
   cases es with
   | nil=>exact ⟨e,rfl⟩
   | cons e' es=>
    simp only [cj,bAE] at h
    cases n with
    | zero=>have:=h.2;simp [cj] at this
    | succ n=>have:=h.2;simp [cj] at this
theorem AC (ih:Snd T C ar k n) {own:List Str} {elt:CE} {tg:Tg} {it:CI} {cond:Option CE} {rest:List Cl} {e t i:Expr} {ifs:List Expr} {gs:List Comprehension} {scope:Scope} {pos:Pos} (G:CtxOk T C ar k b X)
  (h0:cmB own (kn own b.N) b.N scope b.sc=true) (h1:eN T n b t i it=true) (h2:k9 (b.inner own scope) t tg=true) (h3:uI (bZ T n (b.inner own scope)) ifs cond=true) (h4:i8 T n (b.inner own scope) e gs elt rest=true) :
  PE X (.ListComp e (⟨t,i,ifs,0⟩::gs) scope pos) (dN X.K (kj own.length (evI C ar n it) tg (cnd (evT C ar n) cond (fU C ar n elt rest)) LF)):=by
 have S:CmScope own (kn own b.N) b.N scope b.sc:=wb _ h0
 have S':CmScope own (kn own b.N) X.N scope X.env.scope:=by rw [G.hN,G.hs];exact S
 have hpl:=fL h1 (fun e he env=>dS he) X.env
 refine PE.imp (zE (g:=tTg X.K tg) (ti:=ifT C ar n X.K cond) (t:=fun acc=>tCl X.K acc (fU C ar n elt rest)) G.calm S' (ih.i [] b X t i it G h1) (fun C' ex s H=>fM (G.inner S (C':=C') (ex:=ex) (s:=s) (H:=H)) h2) (fun C' ex s H=>kr ih (G.inner S (C':=C') (ex:=ex) (s:=s) (H:=H)) h3)
  (fun C' ex s H acc=>ih.cl _ _ e gs elt rest (G.inner S (C':=C') (ex:=ex) (s:=s) (H:=H)) h4 _ scope pos acc 0 rfl) hpl) fun σ H Q q=>?_
 exact sr (fun acc D σ H z=>qN z) q
theorem Fn {x:XE} {σ:L2.St} {H:Hp} {Q:VK} {K:PySem.W.Frag} (h:dN K (uE x) σ H Q):tE K x σ H fun v H1=>∃ i:Nat,v = .int i/\i<=1000/\∀ p,H1 p=none->∀ l,upd H1 p (.rng 0 i) l=none->Q (.ref l) (upd (upd H1 p (.rng 0 i)) l (.lst ((List.range i).map fun (j:Nat)=>V.int j))):=by
 obtain ⟨m,ρ,S,ds,S',E,R,e,q⟩:=h
 obtain ⟨d,S1,e1,e⟩:=aa e
 cases d with
 | int i=>
  dsimp only at e
  split at e
  ·rename_i hi
   cases e
   refine ⟨m,ρ,S,.int i,_,E,R,e1,fun m1 H1 v A1 vd=>⟨i.toNat,by rw [vd.ints];congr 1;omega,by omega,fun p hp l hl=>?_⟩⟩
   have A2:Aft K m1 H1 S' m1 (upd H1 p (.rng 0 i.toNat)):=⟨Ext.beside A1.rel hp _,A1.rel.beside hp _⟩
   have A3:Aft K m1 (upd H1 p (.rng 0 i.toNat)) S' m1 (upd (upd H1 p (.rng 0 i.toNat)) l (.lst ((List.range i.toNat).map fun (j:Nat)=>V.int j))):=⟨Ext.beside A2.rel hl _,A2.rel.beside hl _⟩
   have nl:l ∉ m1:=A2.rel.no hl
   have n1:H1 l=none:=by
    cases hh:H1 l with
    | none=>rfl
    | some o=>rw [(Ext.beside A1.rel hp (.rng 0 i.toNat)).keep l o hh nl] at hl;cases hl
   have nH:H l=none:=by
    cases hh:H l with
    | none=>rfl
    | some o=>
     by_cases hm:l ∈ m
     ·exact absurd (A1.ext.pre.subset hm) nl
     ·rw [A1.ext.keep l o hh hm] at n1;cases n1
   refine q m1 _ l _ (A1.trans (A2.trans A3)) bj nl (fun b hb z=>nl (z ▸ A1.ext.pre.subset hb)) nH ?_
   exact gZ _ _ _ _
  ·cases e
 | _=>cases e
theorem AD {σ:L2.St} {H:Hp} {Q:VK} {K:PySem.W.Frag} (h:tE K xm σ H Q):vU σ H Q:=by
 obtain ⟨m,ρ,S,d,S',E,R,e,q⟩:=h
 cases e
 exact fun p hp=>sA R hp (show VDs K m H [] [] by rw [VDs]) rfl q
theorem AE {σ:L2.St} {H:Hp} {Q:VK} {K:PySem.W.Frag} {i j:Int} (h:tE K (xn i j) σ H Q):vX [(tC (.int i),tC (.int j))] σ H Q:=by
 obtain ⟨m,ρ,S,d,S',E,R,e,q⟩:=h
 cases e
 intro p hp
 refine ⟨bj,[(k8 i,.int j)],rfl,by simp,?_⟩
 rw [rq]
 exact sA R hp (ks:=[k8 i]) (vs:=[.int j]) (show VDs K m H [.int j] [.int j] by rw [VDs];exact ⟨_,_,rfl,bu,by rw [VDs]⟩) rfl q
theorem Fo {f:Bool->List D->Option (List D)} {x:XE} {σ:L2.St} {H:Hp} {Q:VK} {K:PySem.W.Frag} (h:dN K (uD f x) σ H Q):tUn (rTm K f) (tE K x) σ H Q:=by
 obtain ⟨m,ρ,S,ds,S',E,R,e,q⟩:=h
 obtain ⟨d,S1,e1,e⟩:=aa e
 cases hi:aj d S1 with
 | none=>rw [hi] at e;cases e
 | some r=>
  rw [hi] at e
  dsimp only at e
  cases hf:f r.1 r.2 with
  | none=>rw [hf] at e;cases e
  | some es=>
  rw [hf] at e
  cases e
  refine ⟨m,ρ,S,d,_,E,R,e1,fun m1 H1 v A1 vd=>?_⟩
  obtain ⟨a,vs,ev,sq,vds⟩:=dD (tu:=r.1) (ds:=r.2) A1.rel vd hi
  refine ⟨m1,_,r.1,r.2,a,vs,ds,A1.rel,ev,sq,vds,hf,fun m2 H2 p ws A2 hp n1 n2 n3 vw=>?_⟩
  have hn:H p=none:=by
   cases eh:H p with
   | none=>rfl
   | some o=>
    by_cases hm:p ∈ m
    ·exact absurd rfl (n2 p (A1.ext.pre.subset hm))
    ·have:=A1.ext.keep p o eh hm
     rw [n3] at this;cases this
  exact q m2 H2 p ws (A1.trans A2) hp n1 (fun b hb=>n2 b (A1.ext.pre.subset hb)) hn vw
theorem Fp {f:Bool->List D->Option (List D)} {x:XA} {σ:L2.St} {H:Hp} {Q:VK} {K:PySem.W.Frag} (h:dN K (uC f x) σ H Q):tUn (rTm K f) (dN K x) σ H Q:=by
 obtain ⟨m,ρ,S,es,S',E,R,e,q⟩:=h
 obtain ⟨ds,S1,e1,e⟩:=aa e
 cases hf:f false ds with
 | none=>rw [hf] at e;cases e
 | some es'=>
 rw [hf] at e
 cases e
 refine ⟨m,ρ,S,ds,_,E,R,e1,fun m1 H1 a vs A1 ha na _ _ vd=>?_⟩
 refine ⟨m1,_,false,ds,a,vs,es,A1.rel,rfl,show SqL K H1 a vs from SqL.of ha,vd,hf,fun m2 H2 p ws A2 hp n1 n2 n3 vw=>?_⟩
 have hn:H p=none:=by
  cases eh:H p with
  | none=>rfl
  | some o=>
   by_cases hm:p ∈ m
   ·exact absurd rfl (n2 p (A1.ext.pre.subset hm))
   ·have:=A1.ext.keep p o eh hm
    rw [n3] at this;cases this
 exact q m2 H2 p ws (A1.trans A2) hp n1 (fun b hb=>n2 b (A1.ext.pre.subset hb)) hn vw
theorem xH (ih:Snd T C ar k n) (e:Expr) (c:CE) (G:CtxOk T C ar k b X) (ht:af c=true) (h:ag T (n+1) b e c=true):PE X e (dN X.K (ci C ar (n+1) c)):=by
 cases c with
 | lst cs=>
  simp only [ag] at h
  obtain ⟨es,p,rfl,hh⟩:=Fh h
  exact PE.imp (DY (ih.a b X es cs G hh)) fun σ H Q q=>zW q
 | listOf a=>
  simp only [ag] at h
  obtain ⟨x,p,q,rfl,h2,h3,h4⟩:=a8 h
  show PE X _ (dN X.K (if af a=true then ci C ar n a else kl (evE C ar n a)))
  split
  ·rename_i ht
   exact PE.imp (jG j8 G h2 (by decide) PyProof.Rows.boot_list (by decide) (ih.tm b X x a G ht h3) h4) fun σ H Q q=>xG q
  ·exact PE.imp (jG j8 G h2 (by decide) PyProof.Rows.boot_list (by decide) (ih.e b X x a G h3) h4) fun σ H Q q=>xF q
 | listR a=>
  simp only [ag] at h
  obtain ⟨x,p,q,rfl,h2,h3,h4⟩:=a8 h
  obtain ⟨y,p',q',rfl,h5,h6,h7⟩:=a8 h3
  exact PE.imp (ir (mv G.calm) (G.gl h2).1 (G.bl _ (by decide)) PyProof.Rows.boot_list (c8 (ir om (G.gl h5).1 (G.bl _ (by decide)) PyProof.Rows.boot_range (c8 (ih.e b X y a G h6) h7) (by decide) (G.gl h5).2 (ao h7) rfl) h4) (by decide) (G.gl h2).2 (ao h4) rfl) fun σ H Q q=>nu (Fn q) fun v H1 ⟨i,ev,hi,z⟩=>by
    subst ev
    exact ⟨i,rfl,fun p hp=>⟨p,i,rfl,bj,hi,fun l hl=>z p hp l hl⟩⟩
 | srt a=>
  simp only [ag] at h
  obtain ⟨x,p,q,rfl,h2,h3,h4⟩:=a8 h
  show PE X _ (dN X.K (if af a=true then uC dF (ci C ar n a) else uD dF (evE C ar n a)))
  split
  ·rename_i ht
   exact PE.imp (cV lJ G h2 (by decide) PyProof.Rows.boot_sorted (by decide) (ih.tm b X x a G ht h3) h4) fun σ H Q q=>Fp (f:=dF) q
  ·exact PE.imp (cV lJ G h2 (by decide) PyProof.Rows.boot_sorted (by decide) (ih.e b X x a G h3) h4) fun σ H Q q=>Fo (f:=dF) q
 | comp own elt cls=>
  simp only [ag] at h
  cases cls with
  | nil=>cases h
  | cons g rest=>
   obtain ⟨tg,it,cond⟩:=g
   obtain ⟨el,t,i,ifs,gs,scope,p,rfl,hh⟩:=su h
   simp only [bAE] at hh
   obtain ⟨⟨⟨⟨h0,h1⟩,h2⟩,h3⟩,h4⟩:=hh
   exact AC ih G h0 h1 h2 h3 h4
 | _=>simp [af] at ht
theorem nv {y:Expr} {pos:Pos} (h:az y=true):((backTo pos (starEach [y] X.env)).all (fun x=>!x.1) && (backToKw pos (keywordEach [] X.env)).all (fun x=>x.1.isSome) && decide (([y]:List Expr).length+([]:List Keyword).length+(if ([]:List Keyword).isEmpty then 0 else 1) < 30))=true:=by
 rw [ao h];rfl
theorem Jr (ih:Snd T C ar k n) (e:Expr) (c:CE) (G:CtxOk T C ar k b X) (h:ag T (n+1) b e c=true):PE X e (tE X.K (evE C ar (n+1) c)):=by
 have hu:=pj G.room
 have tmp:af c=true->evE C ar (n+1) c=cZ (ci C ar (n+1) c)->PE X e (tE X.K (evE C ar (n+1) c)):=fun ht he=>by
  rw [he]
  exact PE.imp (xH ih e c G ht h) fun σ H Q q=>oG q
 cases c with
 | non=>simp only [ag] at h;obtain ⟨_,_,rfl⟩:=Ff h;exact PE.imp Dz fun σ H Q q=>wy (fun _ _=>mQ) q
 | bl v=>simp only [ag] at h;obtain ⟨_,_,rfl⟩:=Jm h;exact PE.imp Ic fun σ H Q q=>wy (fun _ _=>cf) q
 | int v=>simp only [ag] at h;obtain ⟨_,_,rfl⟩:=qL h;exact PE.imp pQ fun σ H Q q=>wy (fun _ _=>bu) q
 | str v=>simp only [ag] at h;obtain ⟨_,_,rfl⟩:=Fg h;exact PE.imp DA fun σ H Q q=>wy (fun _ _=>mR) q
 | var i=>
  simp only [ag] at h
  obtain ⟨x,p,rfl,hh⟩:=nn h
  simp only [bAE] at hh
  have v:=G.vis hh.2
  exact PE.imp (Dy (i:=i) (by rw [G.hN];simpa using hh.1) v.1 v.2.1 v.2.2) fun σ H Q q=>Ep q
 | con k' v=>
  simp only [ag] at h
  obtain ⟨x,p,rfl,hh⟩:=nn h
  simp only [bAE] at hh
  have g:=G.gl hh.2
  obtain ⟨tk,hm⟩:=G.con k' x v (by simpa using hh.1)
  exact PE.imp (yZ (v:=.int v) g.1 hm ⟨tk,rfl⟩ g.2) fun σ H Q q=>wy (fun _ _=>bu) q
 | tup cs=>simp only [ag] at h;obtain ⟨es,_,_,rfl,hh⟩:=xy h;exact PE.imp (DX (ih.a b X es cs G hh)) fun σ H Q q=>Es q
 | lst cs=>exact tmp rfl rfl
 | dic0=>simp only [ag] at h;obtain ⟨p,rfl⟩:=AA h;exact PE.imp vV fun σ H Q q=>AD q
 | dic1 i j=>
  simp only [ag] at h
  obtain ⟨x,y,p,rfl,h1,h2⟩:=AB h
  obtain ⟨_,_,rfl⟩:=qL h1
  obtain ⟨_,_,rfl⟩:=qL h2
  exact PE.imp (wc pQ pQ) fun σ H Q q=>AE q
 | bin o a c'=>simp only [ag] at h;obtain ⟨l,r,p,rfl,h2,h3⟩:=Fi h;exact PE.imp (Iv (z6 o) (ih.e b X l a G h2) (ih.e b X r c' G h3)) fun σ H Q q=>mP q
 | neg a=>simp only [ag] at h;obtain ⟨x,p,rfl,hh⟩:=Fj h;exact PE.imp (Iw Au (ih.e b X x a G hh)) fun σ H Q q=>ww q
 | cmp o a c'=>simp only [ag] at h;obtain ⟨l,r,p,rfl,h2,h3,h4⟩:=xD h;exact PE.imp (zi (fI hu o) (ih.e b X l a G h2) (ih.e b X r c' G h3) (gk h4)) fun σ H Q q=>mP q
 | chn o p' a c' d=>simp only [ag] at h;obtain ⟨l,r,s,p,rfl,h2,h3,h4,h5⟩:=xE h;exact PE.imp (vI (fI hu o) (fI hu p') (ih.e b X l a G h2) (ih.e b X r c' G h3) (ih.e b X s d G h4) (kq h5)) fun σ H Q q=>xi q
 | and a c'=>
  simp only [ag,Bool.or_eq_true] at h
  rcases h with h | h
  ·obtain ⟨x,y,p,rfl,h1,h2⟩:=np h;exact PE.imp (vk (ih.e b X x a G h1) (vj (ih.e b X y c' G h2))) fun σ H Q q=>xh q
  ·obtain ⟨x,y,z,ys,p,rfl,h1,h2⟩:=nq h;exact PE.imp (vk (ih.e b X x a G h1) (ih.e b X _ c' G h2)) fun σ H Q q=>xh q
 | or a c'=>
  simp only [ag,Bool.or_eq_true] at h
  rcases h with h | h
  ·obtain ⟨x,y,p,rfl,h1,h2⟩:=np h;exact PE.imp (CJ (ih.e b X x a G h1) (vj (ih.e b X y c' G h2))) fun σ H Q q=>C4 q
  ·obtain ⟨x,y,z,ys,p,rfl,h1,h2⟩:=nq h;exact PE.imp (CJ (ih.e b X x a G h1) (ih.e b X _ c' G h2)) fun σ H Q q=>C4 q
 | not a=>simp only [ag] at h;obtain ⟨x,p,rfl,hh⟩:=xz h;exact PE.imp (DD (ih.e b X x a G hh)) fun σ H Q q=>E5 q
 | ite t a c'=>simp only [ag] at h;obtain ⟨x,y,z,p,rfl,h1,h2,h3⟩:=Fk h;exact PE.imp (vm (ih.t b X x t G h1) (ih.e b X y a G h2) (ih.e b X z c' G h3)) fun σ H Q q=>E6 q
 | ix a c'=>
  simp only [ag] at h
  obtain ⟨x,y,p,rfl,h1,h2,h3⟩:=Jn h
  show PE X _ (tE X.K (if af a=true then qp (ci C ar n a) (evE C ar n c') else oE ixS (evE C ar n a) (evE C ar n c')))
  split
  ·rename_i ht
   exact PE.imp (CV vO (ih.tm b X x a G ht h1) (ih.e b X y c' G h2) (pb h3)) fun σ H Q q=>ED q
  ·exact PE.imp (CV KW (ih.e b X x a G h1) (ih.e b X y c' G h2) (pb h3)) fun σ H Q q=>mP q
 | sl a lo hi=>simp only [ag] at h;obtain ⟨x,y,z,p,p',rfl,h1,h2,h3⟩:=Jo h;exact PE.imp (vN KY (ih.e b X x a G h1) (pd ih G h2) (pd ih G h3)) fun σ H Q q=>I0 q
 | call f cs=>
  simp only [ag] at h
  obtain ⟨x,e,es,p,p',rfl,h12,h3⟩:=Az h
  simp only [bAE] at h12
  obtain ⟨h1,h2⟩:=h12
  cases hy:T.fns[f]? with
  | none=>rw [hy] at h1;cases h1
  | some y=>
   rw [hy] at h1
   have hx:=sy h1
   subst hx
   obtain ⟨ha,fa,fd,ps,hm,hk,hb,F⟩:=G.fns f y hy
   have hpl:=bQ h3
   have g:=G.gl h2
   exact PE.imp (zn F G.room g.1 hm hk hb .nil IQ (ih.a b X (e::es) cs G h3) g.2 (ao (hpl e List.mem_cons_self)) (iO fun e he=>hpl e (List.mem_cons_of_mem _ he))) fun σ H Q q=>Av q
 | inst t a=>
  simp only [ag] at h
  obtain ⟨x,y,p,p',rfl,h2,h5,h6,h7,_⟩:=ko h
  obtain ⟨y,p'',rfl,h8⟩:=nn h7
  simp only [bAE] at h8
  obtain ⟨h3,h4⟩:=h8
  have hy:=sy h3
  subst hy
  have ty:PE X (.Name (Str.ofString t.nm) p'') (tC (.ty t.nm)):=by
   have g:=G.gl h4
   cases t with
   | int=>exact gD g.1 (G.bl _ (by decide)) PyProof.Rows.boot_int rfl (by decide) g.2
   | bool=>exact gD g.1 (G.bl _ (by decide)) PyProof.Rows.boot_bool rfl (by decide) g.2
   | tuple=>exact gD g.1 (G.bl _ (by decide)) PyProof.Rows.boot_tuple rfl (by decide) g.2
   | list=>exact gD g.1 (G.bl _ (by decide)) PyProof.Rows.boot_list rfl (by decide) g.2
   | str=>exact gD g.1 (G.bl _ (by decide)) PyProof.Rows.boot_str rfl (by decide) g.2
  exact PE.imp (gF (mw X.K) (G.gl h2).1 (G.bl _ (by decide)) PyProof.Rows.boot_isinstance (gY (ih.e b X x a G h5) (c8 ty rfl) h6) (by decide) (G.gl h2).2 (ao h6) rfl) fun σ H Q q=>Ab q
 | len a=>simp only [ag] at h;obtain ⟨x,p,p',rfl,h2,h3,h4⟩:=a8 h;exact iP ih G (fun te z=>cV ul G h2 (by decide) PySem.boot_len (by decide) z h4) h3
 | all a=>simp only [ag] at h;obtain ⟨x,p,p',rfl,h2,h3,h4⟩:=a8 h;exact iP ih G (fun te z=>cV (uo G.calm) G h2 (by decide) PyProof.Rows.boot_all (by decide) z h4) h3
 | any a=>simp only [ag] at h;obtain ⟨x,p,p',rfl,h2,h3,h4⟩:=a8 h;exact iP ih G (fun te z=>cV (uq G.calm) G h2 (by decide) PyProof.Rows.boot_any (by decide) z h4) h3
 | mxL a=>simp only [ag] at h;obtain ⟨x,p,p',rfl,h2,h3,h4⟩:=a8 h;exact iP ih G (fun te z=>cV (uw G.calm) G h2 (by decide) PyProof.Rows.boot_max (by decide) z h4) h3
 | mnL a=>simp only [ag] at h;obtain ⟨x,p,p',rfl,h2,h3,h4⟩:=a8 h;exact iP ih G (fun te z=>cV (ux G.calm) G h2 (by decide) PyProof.Rows.boot_min (by decide) z h4) h3
 | intOf a=>simp only [ag] at h;obtain ⟨x,p,p',rfl,h2,h3,h4⟩:=a8 h;exact PE.imp (jG uy G h2 (by decide) PyProof.Rows.boot_int (by decide) (ih.e b X x a G h3) h4) fun σ H Q q=>ww q
 | tupOf a=>simp only [ag] at h;obtain ⟨x,p,p',rfl,h2,h3,h4⟩:=a8 h;exact iP ih G (fun te z=>jG um G h2 (by decide) PyProof.Rows.boot_tuple (by decide) z h4) h3
 | listOf a=>exact tmp rfl rfl
 | listR a=>exact tmp rfl rfl
 | srt a=>exact tmp rfl rfl
 | mx a c'=>
  simp only [ag] at h
  obtain ⟨x,es,p,p',rfl,h2,h3⟩:=o9 h
  have hpl:=bQ h3
  exact PE.imp (gF (qw G.calm) (G.gl h2).1 (G.bl _ (by decide)) PyProof.Rows.boot_max (ih.a b X (x::es) [a,c'] G h3) (by decide) (G.gl h2).2 (ao (hpl x List.mem_cons_self)) (iO fun e he=>hpl e (List.mem_cons_of_mem _ he))) fun σ H Q q=>wx q
 | mn a c'=>
  simp only [ag] at h
  obtain ⟨x,es,p,p',rfl,h2,h3⟩:=o9 h
  have hpl:=bQ h3
  exact PE.imp (gF (qx G.calm) (G.gl h2).1 (G.bl _ (by decide)) PyProof.Rows.boot_min (ih.a b X (x::es) [a,c'] G h3) (by decide) (G.gl h2).2 (ao (hpl x List.mem_cons_self)) (iO fun e he=>hpl e (List.mem_cons_of_mem _ he))) fun σ H Q q=>wx q
 | rep a=>simp only [ag] at h;obtain ⟨x,p,p',rfl,h2,h3,h4⟩:=a8 h;exact PE.imp (cV (qI G.room) G h2 (by decide) PyProof.Rows.boot_repr (by decide) (ih.e b X x a G h3) h4) fun σ H Q q=>ww q
 | comp own elt cls=>exact tmp rfl rfl
 | app o a=>
  simp only [ag] at h
  obtain ⟨x,ap,es,p,rfl,h2,h3,h4,h5⟩:=nr h
  obtain ⟨y,rfl⟩:=qO h5
  have hpl:=bQ h5 y (by simp)
  exact PE.imp (vR PySem.F.plainAttrs_list PySem.F.slot_list_append PySem.F.type_list_append EO (ih.e b X x o G h4) (ih.a b X [y] [a] G h5) (dU h2) (nv hpl) h3 (ao hpl) rfl) fun σ H Q q=>qF (fun R vd c=>qG R vd c) q
 | pop o=>
  simp only [ag] at h
  obtain ⟨x,ap,es,p,rfl,h2,h3,h4,h5⟩:=nr h
  cases es with
  | cons _ _=>cases h5
  | nil=>exact PE.imp (D5 PySem.F.plainAttrs_list PySem.F.slot_list_pop PySem.F.type_list_pop Ai (ih.e b X x o G h4) (dU h2) h3) fun σ H Q q=>Ag (fun R vd c=>qG R vd c) q
 | popAt o a=>
  simp only [ag] at h
  obtain ⟨x,ap,es,p,rfl,h2,h3,h4,h5⟩:=nr h
  obtain ⟨y,rfl⟩:=qO h5
  have hpl:=bQ h5 y (by simp)
  exact PE.imp (vR PySem.F.plainAttrs_list PySem.F.slot_list_pop PySem.F.type_list_pop uz (ih.e b X x o G h4) (ih.a b X [y] [a] G h5) (dU h2) (nv hpl) h3 (ao hpl) rfl) fun σ H Q q=>qF (fun R vd c=>qG R vd c) q
 | cnt o a=>
  simp only [ag] at h
  obtain ⟨x,ap,es,p,rfl,h2,h3,h4,h5⟩:=nr h
  obtain ⟨y,rfl⟩:=qO h5
  have hpl:=bQ h5 y (by simp)
  exact PE.imp (vR PySem.F.plainAttrs_tuple PySem.F.slot_tuple_count PySem.F.type_tuple_count Aj (ih.e b X x o G h4) (ih.a b X [y] [a] G h5) (dU h2) (nv hpl) h3 (ao hpl) rfl) fun σ H Q q=>qF (fun R vd c=>EN R vd c) q
end
end Ev
namespace Ev
open PySem PySem.Spec PyProof.Rows L2
section
variable {T:Tab} {C:Calls} {ar:Nat->Nat} {k n:Nat} {b:Blk} {X:Cx}
theorem sC {op:BoolOp} {vs:List Expr} {p:Pos} {t:TT} (h:PT X (.BoolOp op vs p) t):PW X (.BoolOp op vs p) t:=fun whole pins s σ H Q I q=>h pins s σ H Q I q
theorem Js (ih:Snd T C ar k n) (e:Expr) (c:CE) (G:CtxOk T C ar k b X) (h:bZ T (n+1) b e c=true):PT X e (tT X.K (evT C ar (n+1) c)):=by
 have hu:=pj G.room
 have dflt:evT C ar (n+1) c=z9 (evE C ar n c)->(ag T n b e c && xo e)=true->PT X e (tT X.K (evT C ar (n+1) c)):=fun e1 hh=>by
  rw [e1]
  rw [bAE] at hh
  exact PT.imp (vK (ih.e b X e c G hh.1) (qM hh.2)) fun σ H Q q=>EG q
 cases c with
 | cmp o a c'=>simp only [bZ] at h;obtain ⟨l,r,p,rfl,h2,h3,h4⟩:=xD h;exact PT.imp (zj (fI hu o) (ih.e b X l a G h2) (ih.e b X r c' G h3) (gk h4)) fun σ H Q q=>mP (I8 (t:=tE X.K (evE C ar n a)) q)
 | chn o p' a c' d=>simp only [bZ] at h;obtain ⟨l,r,s,p,rfl,h2,h3,h4,h5⟩:=xE h;exact PT.imp (vJ (fI hu o) (fI hu p') (ih.e b X l a G h2) (ih.e b X r c' G h3) (ih.e b X s d G h4) (kq h5)) fun σ H Q q=>xi (I8 (t:=tE X.K (evE C ar n a)) q)
 | and a c'=>
  simp only [bZ,Bool.or_eq_true] at h
  rcases h with h | h
  ·obtain ⟨x,y,p,rfl,h1,h2⟩:=np h;exact PT.imp (vh (ih.t b X x a G h1) (y0 (ih.t b X y c' G h2))).pt fun σ H Q q=>xl q
  ·obtain ⟨x,y,z,ys,p,rfl,h1,h2⟩:=nq h;exact PT.imp (vh (ih.t b X x a G h1) (sC (ih.t b X _ c' G h2))).pt fun σ H Q q=>xl q
 | or a c'=>
  simp only [bZ,Bool.or_eq_true] at h
  rcases h with h | h
  ·obtain ⟨x,y,p,rfl,h1,h2⟩:=np h;exact PT.imp (CF (ih.t b X x a G h1) (DB (ih.t b X y c' G h2))).pt fun σ H Q q=>C5 q
  ·obtain ⟨x,y,z,ys,p,rfl,h1,h2⟩:=nq h;exact PT.imp (CF (ih.t b X x a G h1) (sC (ih.t b X _ c' G h2))).pt fun σ H Q q=>C5 q
 | not a=>simp only [bZ] at h;obtain ⟨x,p,rfl,h1⟩:=xz h;exact PT.imp (DC (ih.t b X x a G h1)) fun σ H Q q=>E8 q
 | ite _ _ _=>simp only [bZ] at h;cases h
 | _=>exact dflt rfl (by simpa only [bZ] using h)
theorem snd:∀ n,Snd T C ar k n
 | 0=>⟨fun b X e c _ h=>by simp [ag] at h,fun b X e c _ _ h=>by simp [ag] at h,fun b X e c _ h=>by simp [cj] at h,fun b X e c _ h=>by simp [bZ] at h,fun B b X t e c _ h=>by simp [eN] at h,fun b X e gs elt cls _ h=>by simp [i8] at h⟩
 | n+1=>⟨fun b X e c G h=>Jr (snd n) e c G h,fun b X e c G ht h=>xH (snd n) e c G ht h,fun b X es cs G h=>Jp (snd n) es cs G h,fun b X e c G h=>Js (snd n) e c G h,fun B b X t e c G h=>Jq (snd n) B t e c G h,fun b X e gs elt cls G h=>Fm (snd n) e gs elt cls G h⟩
end
end Ev
namespace Ev
open PySem PySem.Spec PyProof.Rows L2
inductive CS where
 | asg (t:Tg) (e:CE) | setI (v o i:CE) | ex (e:CE) | ret (e:CE) | retN
 | ifs (c:CE) (a b:List CS) | for_ (t:Tg) (it:CI) (b:List CS) | while_ (c:CE) (b:List CS)
 | pass | brk | cnt | never
noncomputable def AF:XS:=fun _ _=>none
mutual
noncomputable def evS (C:Calls) (ar:Nat->Nat):Nat->CS->XS
 | 0,_=>AF
 | n+1,s=>match s with
  | .asg t e=>ki (evE C ar n e) t
  | .setI v o i=>o0 (evE C ar n v) (evE C ar n o) (evE C ar n i)
  | .ex e=>oZ (evE C ar n e)
  | .ret e=>w6 (evE C ar n e)
  | .retN=>C2
  | .ifs c a b=>xIf (evT C ar n c) (eO C ar n a) (eO C ar n b)
  | .for_ t it b=>w8 (evI C ar n it) t (eO C ar n b) LF
  | .while_ c b=>c7 (evT C ar n c) (eO C ar n b) LF
  | .pass=>w5
  | .brk=>Jj
  | .cnt=>Jk
  | .never=>AF
noncomputable def eO (C:Calls) (ar:Nat->Nat):Nat->List CS->XS
 | 0,_=>AF
 | n+1,ss=>match ss with
  | []=>w5
  | s::ss=>w4 (evS C ar n s) (eO C ar n ss)
end
noncomputable def xI:Expr->Bool
 | .Starred _ _=>true
 | _=>false
noncomputable def fN (sc:Scope) (line:Nat) (ts:List Expr):List Str:=ts.filterMap fun
 | .Name id pos=>if sc.names.lookup id == some .local && pos.line == line then some id else none
 | _=>none
noncomputable def sD (sc:Scope) (ts vs:List Expr):Option (Option (List Str)):=
 if (!(ts.length == 2 || ts.length == 3) || vs.length != ts.length)=true then some none
 else if (vs.any xI)=true then some none
 else if ((fN sc ((ts.head?.map (·.pos.line)).getD 0) ts).length != ts.length || (fN sc ((ts.head?.map (·.pos.line)).getD 0) ts).eraseDups.length != (fN sc ((ts.head?.map (·.pos.line)).getD 0) ts).length)=true then some none
 else if (vs.all (foldedForSure 8))=true then some none
 else if (vs.all (constantsAlone 8))=true then none
 else some (some (fN sc ((ts.head?.map (·.pos.line)).getD 0) ts))
theorem Jt {sc:Scope} {ts vs:List Expr} {env:Env} {r:Option (List Str)} {k k2:Nat} {p p2:Pos} (hk:env.blockKind = .function) (hs:env.scope=sc) (h:sD sc ts vs=some r):swappedStores [.Tuple ts k p] (.Tuple vs k2 p2) env=pure r:=by
 unfold sD at h
 unfold swappedStores
 have e1:(vs.any fun | .Starred ..=>true | _=>false)=vs.any xI:=by
  congr 1
 have e2:(ts.filterMap fun
   | .Name id pos=>if env.kindOf id == some .local && pos.line == ((ts.head?.map (·.pos.line)).getD 0) then some id else none
   | _=>none)=fN sc ((ts.head?.map (·.pos.line)).getD 0) ts:=by
  unfold fN Env.kindOf
  rw [hs]
 have e3:(env.blockKind != .function)=false:=by rw [hk];rfl
 simp only [e3,Bool.or_false]
 split at h
 ·rename_i c1;rw [if_pos c1];cases h;rfl
 rename_i c1;rw [if_neg c1]
 split at h
 ·rename_i c2;cases h;exact if_pos (e1.trans c2)
 rename_i c2;refine Eq.trans (if_neg fun z=>c2 (e1.symm.trans z)) ?_
 split at h
 ·rename_i c3;cases h;rw [<-e2] at c3;exact if_pos c3
 rename_i c3;rw [<-e2] at c3 h;refine Eq.trans (if_neg c3) ?_
 split at h
 ·rename_i c4;cases h;exact if_pos c4
 rename_i c4;refine Eq.trans (if_neg c4) ?_
 split at h
 ·cases h
 rename_i c5;cases h;exact if_neg c5
noncomputable def xJ:Expr->Option (Scope × Pos)
 | .ListComp _ _ s p=>some (s,p)
 | .SetComp _ _ s p=>some (s,p)
 | .DictComp _ _ _ s p=>some (s,p)
 | _=>none
noncomputable def swW (sc:Scope) (v:Expr) (t:Str) (pos:Pos):Bool:=match xJ v with
 | none=>false
 | some (s,p)=>sc.names.lookup t == some .local && pos.line == p.line && !(s.names.any fun y=>y.1 == t && (y.2 == .local || y.2 == .cell))
theorem Fq {sc:Scope} {v:Expr} {t:Str} {pos:Pos} {line:Nat} {env:Env} (hk:env.blockKind = .function) (hs:env.scope=sc):swapsWith v (some (.Name t pos)) line env=pure (swW sc v t pos):=by
 unfold swapsWith swW xJ
 have e3:(env.blockKind == .function)=true:=by rw [hk];rfl
 cases v <;> first | rfl | (simp only [e3,Bool.true_and,Env.kindOf,hs];rfl)
theorem pk {v tg:Expr} {line:Nat} {env:Env} (h:∀ x p,tg ≠ .Name x p):swapsWithSole [tg] v line env=pure false:=by
 show swapsWith v (some tg) line env=pure false
 unfold swapsWith
 cases v <;> first | rfl | (cases tg <;> first | rfl | (exact absurd rfl (h _ _)))
theorem sE {v tg:Expr} {env:Env} (h:(∀ es k p,v ≠ .Tuple es k p)\/(∃ x p,tg = .Name x p)\/(∃ o i p,tg = .Subscript o i p)):swappedStores [tg] v env=pure none:=by
 unfold swappedStores
 rcases h with h | ⟨x,p,rfl⟩ | ⟨o,i,p,rfl⟩
 ·split
  ·rename_i e
   split at e
   ·exact absurd rfl (h _ _ _)
   ·exact absurd rfl (h _ _ _)
   ·cases e
  ·rfl
 ·rfl
 ·rfl
end Ev
namespace Ev
open PySem PySem.Spec PyProof.Rows L2
noncomputable def nmL:List Expr->Option (List Str)
 | []=>some []
 | e::es=>match qK e,nmL es with
  | some r,some xs=>some (r.1::xs)
  | _,_=>none
theorem eX {es:List Expr} {x:Str} {xs:List Str} (h:nmL es=some (x::xs)):∃ p es',es = .Name x p::es'/\nmL es'=some xs:=by
 cases es with
 | nil=>cases h
 | cons e es=>
  rw [nmL] at h
  split at h
  ·rename_i r ys h1 h2
   cases h
   exact ⟨_,es,by rw [nh h1],h2⟩
  ·cases h
theorem sF {es:List Expr} (h:nmL es=some []):es=[]:=by
 cases es with
 | nil=>rfl
 | cons e es=>
  rw [nmL] at h
  split at h <;> cases h
noncomputable def tgL:List Tg->Option (List Nat)
 | []=>some []
 | .name i::ts=>match tgL ts with
  | some is=>some (i::is)
  | none=>none
 | .tup _::_=>none
theorem xK:∀ {ts:List Tg} {is:List Nat},tgL ts=some is->ts=is.map Tg.name
 | [],_,h=>by cases h;rfl
 | .name i::ts,is,h=>by
  rw [tgL] at h
  cases e:tgL ts with
  | none=>rw [e] at h;cases h
  | some js=>rw [e] at h;cases h;rw [xK e];rfl
 | .tup _::_,_,h=>by cases h
noncomputable def Ju (b:Blk) (ns:List Str) (is:List Nat):Bool:=match ns with
 | [x,y]=>(match is with
  | [i,j]=>b.N[i]? == some x && b.N[j]? == some y && i != j && b.sc.names.lookup x == some .local && b.sc.names.lookup y == some .local
  | _=>false)
 | [x,y,z]=>(match is with
  | [i,j,l]=>b.N[i]? == some x && b.N[j]? == some y && b.N[l]? == some z && i != j && i != l && j != l && b.sc.names.lookup x == some .local && b.sc.names.lookup y == some .local && b.sc.names.lookup z == some .local
  | _=>false)
 | _=>false
noncomputable def Jv:Expr->Bool
 | .ListComp _ _ _ _=>true
 | _=>false
noncomputable def K1:Expr->Bool
 | .List _ _=>true
 | _=>false
noncomputable def qP (T:Tab) (n:Nat) (b:Blk) (tg e:Expr) (t:Tg) (c:CE):Bool:=match t with
 | .name i=>(match qK tg with
  | some r=>ag T n b e c && b.N[i]? == some r.1 && b.own r.1 && (!(swW b.sc e r.1 r.2) || (Jv e && b.sc.names.lookup r.1 == some .local))
  | none=>false)
 | .tup gs=>(match o6 tg with
  | some r=>ag T n b e c && (match o6 e with
   | some q=>(match sD b.sc r.1 q.1 with
    | some none=>dG b r.1 gs
    | some (some ns)=>(match tgL gs with
     | some is=>nmL r.1 == some ns && q.1.length == ns.length && Ju b ns is
     | none=>false)
    | none=>false)
   | none=>!(K1 e) && dG b r.1 gs)
  | none=>false)
noncomputable def nw:Expr->Bool
 | .ListComp _ _ _ _=>true
 | .SetComp _ _ _ _=>true
 | .DictComp _ _ _ _ _=>true
 | _=>false
noncomputable def Fr (k:Expr->Expr->Bool):Stmt->Bool
 | .Assign [tg] v _=>k tg v
 | _=>false
noncomputable def xL (k l m:Expr->Bool):Stmt->Bool
 | .Assign [.Subscript x y _] z _=>k z && l x && m y && az y
 | _=>false
noncomputable def zEx (k:Expr->Bool):Stmt->Bool
 | .Expr v _=>k v && !(nw v)
 | _=>false
noncomputable def Fs (k:Expr->Bool):Stmt->Bool
 | .Return (some v) _=>k v
 | _=>false
noncomputable def xM:Stmt->Bool
 | .Return none _=>true
 | _=>false
noncomputable def zIf (k:Expr->Bool) (l m:List Stmt->Bool):Stmt->Bool
 | .If t p q _=>k t && l p && m q
 | _=>false
noncomputable def Ft (k:Expr->Expr->Bool) (l:List Stmt->Bool):Stmt->Bool
 | .For tg i p [] _=>k tg i && l p
 | _=>false
noncomputable def qQ (k:Expr->Bool) (l:List Stmt->Bool):Stmt->Bool
 | .While t p [] _=>k t && l p
 | _=>false
noncomputable def xN:Stmt->Bool
 | .Pass _=>true
 | _=>false
noncomputable def Fu:Stmt->Bool
 | .Break _=>true
 | _=>false
noncomputable def Fv:Stmt->Bool
 | .Continue _=>true
 | _=>false
section
variable {s:Stmt} {k l m:Expr->Bool}
theorem Fw {k:Expr->Expr->Bool} (h:Fr k s=true):∃ tg v p,s = .Assign [tg] v p/\k tg v=true:=by unfold Fr at h;split at h <;> first | exact ⟨_,_,_,rfl,h⟩ | cases h
theorem AG (h:xL k l m s=true):∃ x y q z p,s = .Assign [.Subscript x y q] z p/\k z=true/\l x=true/\m y=true/\az y=true:=by unfold xL at h;split at h <;> first | (simp at h;exact ⟨_,_,_,_,_,rfl,h.1.1.1,h.1.1.2,h.1.2,h.2⟩) | cases h
theorem Jw (h:zEx k s=true):∃ v p,s = .Expr v p/\k v=true/\nw v=false:=by unfold zEx at h;split at h <;> first | (simp at h;exact ⟨_,_,rfl,h.1,h.2⟩) | cases h
theorem Fx (h:Fs k s=true):∃ v p,s = .Return (some v) p/\k v=true:=by unfold Fs at h;split at h <;> first | exact ⟨_,_,rfl,h⟩ | cases h
theorem AH (h:xM s=true):∃ p,s = .Return none p:=by unfold xM at h;split at h <;> first | exact ⟨_,rfl⟩ | cases h
theorem Jx {l m:List Stmt->Bool} (h:zIf k l m s=true):∃ t p q r,s = .If t p q r/\k t=true/\l p=true/\m q=true:=by unfold zIf at h;split at h <;> first | (simp at h;exact ⟨_,_,_,_,rfl,h.1.1,h.1.2,h.2⟩) | cases h
theorem Fy {k:Expr->Expr->Bool} {l:List Stmt->Bool} (h:Ft k l s=true):∃ tg i p q,s = .For tg i p [] q/\k tg i=true/\l p=true:=by unfold Ft at h;split at h <;> first | (simp at h;exact ⟨_,_,_,_,rfl,h.1,h.2⟩) | cases h
theorem xO {l:List Stmt->Bool} (h:qQ k l s=true):∃ t p q,s = .While t p [] q/\k t=true/\l p=true:=by unfold qQ at h;split at h <;> first | (simp at h;exact ⟨_,_,_,rfl,h.1,h.2⟩) | cases h
theorem AI (h:xN s=true):∃ p,s = .Pass p:=by unfold xN at h;split at h <;> first | exact ⟨_,rfl⟩ | cases h
theorem Fz (h:Fu s=true):∃ p,s = .Break p:=by unfold Fu at h;split at h <;> first | exact ⟨_,rfl⟩ | cases h
theorem FA (h:Fv s=true):∃ p,s = .Continue p:=by unfold Fv at h;split at h <;> first | exact ⟨_,rfl⟩ | cases h
end
mutual
noncomputable def g8 (T:Tab):Nat->Blk->Stmt->CS->Bool
 | 0,_,_,_=>false
 | n+1,b,s,c=>match c with
  | .asg t e=>Fr (fun tg v=>qP T n b tg v t e) s
  | .setI v o i=>xL (fun x=>ag T n b x v) (fun x=>ag T n b x o) (fun x=>ag T n b x i) s
  | .ex e=>zEx (fun x=>ag T n b x e) s
  | .ret e=>Fs (fun x=>ag T n b x e) s
  | .retN=>xM s
  | .ifs c x y=>zIf (fun e=>bZ T n b e c) (fun p=>eY T n b p x) (fun p=>eY T n b p y) s
  | .for_ t it x=>Ft (fun tg i=>eN T n b tg i it && k9 b tg t) (fun p=>eY T n b p x) s
  | .while_ c x=>qQ (fun e=>bZ T n b e c) (fun p=>eY T n b p x) s
  | .pass=>xN s
  | .brk=>Fu s
  | .cnt=>Fv s
  | .never=>true
noncomputable def eY (T:Tab):Nat->Blk->List Stmt->List CS->Bool
 | 0,_,_,_=>false
 | n+1,b,ss,cs=>match ss,cs with
  | [],[]=>true
  | s::ss,c::cs=>g8 T n b s c && eY T n b ss cs
  | _,_=>false
end
section
variable {T:Tab} {C:Calls} {ar:Nat->Nat} {k n:Nat} {b:Blk} {X:Cx}
theorem AJ {es:List Expr} {cs:List CE} {k':Nat} {p:Pos} (h:ag T (n+1) b (.Tuple es k' p) (.tup cs)=true):cj T n b es cs=true:=by simpa only [ag,xr] using h
theorem xP {es:List Expr} {c:CE} {k':Nat} {p:Pos} (h:ag T (n+1) b (.Tuple es k' p) c=true):∃ cs,c = .tup cs:=by
 cases c with
 | tup cs=>exact ⟨cs,rfl⟩
 | comp own elt cls=>
  cases cls with
  | nil=>simp only [ag] at h;cases h
  | cons g rest=>obtain ⟨tg,it,cond⟩:=g;simp only [ag] at h;cases h
 | _=>simp only [ag] at h;cases h
theorem gm:∀ (ts:List Tg) (ds:List D) (ρ ρ':Rho),aI ts ds ρ=some ρ'->ts.length=ds.length
 | [],[],_,_,_=>rfl
 | [],_::_,_,_,e=>by simp [aI] at e
 | _::_,[],_,_,e=>by simp [aI] at e
 | t::ts,d::ds,ρ,ρ',e=>by
  simp only [aI] at e
  split at e
  ·simp [gm _ _ _ _ e]
  ·cases e
theorem pw {K:PySem.W.Frag} {x:XA} {ts:List Tg} {D:Ends} {σ:L2.St} {H:Hp} (h:tSt K (ki (jt ju x) (.tup ts)) D σ H):tAr K x σ H fun vs H1=>∃ m1 ρ ρ' ds,EnvR K m1 H1 ρ σ/\VDs K m1 H1 ds vs/\aI ts ds ρ=some ρ'/\∀ σ',EnvR K m1 H1 ρ' σ'->D.nx σ' H1:=by
 obtain ⟨m,ρ,S,fl,ρ',S',E,R,e,q⟩:=h
 unfold ki at e
 cases hx:jt ju x ρ S with
 | none=>rw [hx] at e;cases e
 | some r=>
  rw [hx] at e
  obtain ⟨ds,S1,e1,e2⟩:=aa hx
  unfold ju at e2
  split at e2
  ·cases e2
   dsimp only at e
   simp only [aB] at e
   cases hb:aI ts ds ρ with
   | none=>rw [hb] at e;cases e
   | some ρ1=>
    rw [hb] at e
    cases e
    exact ⟨m,ρ,S,ds,_,E,R,e1,fun m1 H1 vs A1 vd=>⟨m1,ρ,_,ds,E.mono R A1.ext,vd,hb,fun σ' E'=>q m1 H1 A1 σ' E'⟩⟩
  ·cases e2
theorem pB {K:PySem.W.Frag} {x:XA} {σ:L2.St} {H:Hp} {Q Q':List V->Hp->Prop} (h:tAr K x σ H Q) (f:∀ v H',Q v H'->Q' v H'):tAr K x σ H Q':=by
 obtain ⟨m,ρ,S,d,S',E,R,e,q⟩:=h
 exact ⟨m,ρ,S,d,S',E,R,e,fun m' H' v A vd=>f _ _ (q m' H' v A vd)⟩
theorem ku {ρ ρ':Rho} {i:Nat} {d:D} (h:(if i < ρ.length then some (ρ.set i (some d)) else none)=some ρ'):ρ'=ρ.set i (some d):=by
 split at h
 ·cases h;rfl
 ·cases h
theorem AK {K:PySem.W.Frag} {x:XA} {i j:Nat} {D:Ends} {σ:L2.St} {H:Hp} (h:tSt K (ki (jt ju x) (.tup [.name i,.name j])) D σ H):Iq i j (tAr K x) D σ H:=by
 refine pB (pw h) fun vs H1 ⟨m1,ρ,ρ',ds,E,vd,e,q⟩=>?_
 have hl:=gm _ _ _ _ e
 match ds,hl with
 | [a,c],_=>
  obtain ⟨v,w,rfl,va,vc⟩:=wP vd
  refine ⟨v,w,rfl,q _ ?_⟩
  simp only [aI,aB] at e
  split at e
  ·rename_i r1 h1
   have:=ku h1
   subst this
   split at e
   ·rename_i r2 h2
    have:=ku h2
    subst this
    cases e
    exact (E.set va).set vc
   ·cases e
  ·cases e
theorem K2 {K:PySem.W.Frag} {m:List Addr} {H:Hp} {a b c:D} {vs:List V} (h:VDs K m H [a,b,c] vs):∃ v w z,vs=[v,w,z]/\VD K m H a v/\VD K m H b w/\VD K m H c z:=by
 rw [VDs] at h
 obtain ⟨v,r,rfl,p,q⟩:=h
 obtain ⟨w,z,rfl,p',q'⟩:=wP q
 exact ⟨v,w,z,rfl,p,p',q'⟩
theorem AL {K:PySem.W.Frag} {x:XA} {i j l:Nat} {D:Ends} {σ:L2.St} {H:Hp} (h:tSt K (ki (jt ju x) (.tup [.name i,.name j,.name l])) D σ H):CY i j l (tAr K x) D σ H:=by
 refine pB (pw h) fun vs H1 ⟨m1,ρ,ρ',ds,E,vd,e,q⟩=>?_
 have hl:=gm _ _ _ _ e
 match ds,hl with
 | [a,c,d],_=>
  obtain ⟨v,w,z,rfl,va,vc,vd'⟩:=K2 vd
  refine ⟨v,w,z,rfl,q _ ?_⟩
  simp only [aI,aB] at e
  split at e
  ·rename_i r1 h1
   have:=ku h1
   subst this
   split at e
   ·rename_i r2 h2
    have:=ku h2
    subst this
    split at e
    ·rename_i r3 h3
     have:=ku h3
     subst this
     cases e
     exact ((E.set va).set vc).set vd'
    ·cases e
   ·cases e
  ·cases e
theorem xQ {e:Expr} {gs:List Comprehension} {scope:Scope} {p:Pos} {c:CE} (h:ag T (n+1) b (.ListComp e gs scope p) c=true):∃ own elt tg it cond rest t i ifs gs',c = .comp own elt (⟨tg,it,cond⟩::rest)/\gs=⟨t,i,ifs,0⟩::gs' ∧
  cmB own (kn own b.N) b.N scope b.sc=true/\eN T n b t i it=true/\k9 (b.inner own scope) t tg=true/\uI (bZ T n (b.inner own scope)) ifs cond=true/\i8 T n (b.inner own scope) e gs' elt rest=true:=by
 cases c with
 | comp own elt cls=>
  cases cls with
  | nil=>simp only [ag] at h;cases h
  | cons g rest=>
   obtain ⟨tg,it,cond⟩:=g
   simp only [ag] at h
   obtain ⟨el,t,i,ifs,gs',scope',p',he,hh⟩:=su h
   cases he
   simp only [bAE] at hh
   obtain ⟨⟨⟨⟨h0,h1⟩,h2⟩,h3⟩,h4⟩:=hh
   exact ⟨own,elt,tg,it,cond,rest,t,i,ifs,gs',rfl,rfl,h0,h1,h2,h3,h4⟩
 | _=>simp only [ag] at h;cases h
end
end Ev
namespace Ev
open PySem PySem.Spec PyProof.Rows L2
section
variable {T:Tab} {C:Calls} {ar:Nat->Nat} {k n:Nat} {b:Blk} {X:Cx}
theorem AM (h:X.env.scope.kind = .function):X.env.blockKind = .function:=by
 unfold Env.blockKind
 rw [h];rfl
theorem AN {α:Type} {l:List α} (h:l.length=2):∃ a b,l=[a,b]:=by
 match l,h with
 | [a,b],_=>exact ⟨a,b,rfl⟩
theorem uJ {α:Type} {l:List α} (h:l.length=3):∃ a b c,l=[a,b,c]:=by
 match l,h with
 | [a,b,c],_=>exact ⟨a,b,c,rfl⟩
theorem FB (G:CtxOk T C ar k b X) (hk:X.env.scope.kind = .function) {tg e:Expr} {t:Tg} {c:CE} {p:Pos} (h:qP T n b tg e t c=true):PS X (.Assign [tg] e p) (tSt X.K (ki (evE C ar n c) t)):=by
 have hb:=AM hk
 unfold qP at h
 cases t with
 | name i=>
  dsimp only at h
  cases hx:qK tg with
  | none=>rw [hx] at h;cases h
  | some r=>
  obtain ⟨x,px⟩:=r
  rw [hx] at h
  rw [nh hx]
  simp only [bAE] at h
  obtain ⟨⟨⟨h1,h2⟩,h3⟩,h4⟩:=h
  have hi:X.N[i]?=some x:=by rw [G.hN];simpa using h2
  have nd:X.N.Nodup:=by rw [G.hN];exact G.nd
  have o:=G.own h3
  have sw:=Fq (sc:=b.sc) (v:=e) (t:=x) (pos:=px) (line:=p.line) hb G.hs
  cases hw:swW b.sc e x px with
  | false=>
   rw [hw] at sw
   exact PS.imp (DJ nd hi o.1 ((snd n).e b X e c G h1) sw o.2) fun D σ H q=>nu (qJ q) fun v H' z=>ng z
  | true=>
   rw [hw] at h4 sw
   simp only [Bool.not_true,Bool.false_or,bAE] at h4
   obtain ⟨h5,h4⟩:=h4
   unfold Jv at h5
   split at h5
   ·rename_i el gs scope pp
    cases n with
    | zero=>simp [ag] at h1
    | succ n=>
     obtain ⟨own,elt,tg',it,cond,rest,tt,ii,ifs,gs',rfl,rfl,c0,c1,c2,c3,c4⟩:=xQ h1
     have S:CmScope own (kn own b.N) b.N scope b.sc:=wb _ c0
     have S':CmScope own (kn own b.N) X.N scope X.env.scope:=by rw [G.hN,G.hs];exact S
     have hpl:=fL c1 (fun e he env=>dS he) X.env
     have hx:X.env.scope.names.lookup x=some .local:=by rw [G.hs];simpa using h4
     refine PS.imp (zF (g:=tTg X.K tg') (ti:=ifT C ar n X.K cond) (t:=fun acc=>tCl X.K acc (fU C ar n elt rest)) G.calm S' nd hi hx ((snd n).i [] b X tt ii it G c1) (fun C' ex s H=>fM (G.inner S (C':=C') (ex:=ex) (s:=s) (H:=H)) c2) (fun C' ex s H=>kr (snd n) (G.inner S (C':=C') (ex:=ex) (s:=s) (H:=H)) c3)
      (fun C' ex s H acc=>(snd n).cl _ _ el gs' elt rest (G.inner S (C':=C') (ex:=ex) (s:=s) (H:=H)) c4 _ scope pp acc 0 rfl) sw hpl) fun D σ H q=>?_
     exact sr (fun acc D σ H z=>qN z) (oG (nu (qJ q) fun v H' z=>ng z))
   ·cases h5
 | tup gs=>
  dsimp only at h
  cases hx:o6 tg with
  | none=>rw [hx] at h;cases h
  | some r=>
  obtain ⟨ts,kt,pt⟩:=r
  rw [hx] at h
  rw [ni hx]
  simp only [bAE] at h
  obtain ⟨h1,h3⟩:=h
  have so:swapsWithSole [.Tuple ts kt pt] e p.line X.env=pure false:=pk fun x p z=>nomatch z
  have plain:∀ (hw:swappedStores [.Tuple ts kt pt] e X.env=pure none) (hg:dG b ts gs=true),PS X (.Assign [.Tuple ts kt pt] e p) (tSt X.K (ki (evE C ar n c) (.tup gs))):=fun hw hg=>
   PS.imp (vC ((snd n).e b X e c G h1) (fM G (e:=.Tuple ts kt pt) (t:=.tup gs) (by rw [k9];exact hg)) so hw rfl) fun D σ H q=>qJ q
  cases hy:o6 e with
  | none=>
   rw [hy] at h3
   simp only [bAE] at h3
   exact plain (sE (.inl fun es k p z=>by rw [z] at hy;cases hy)) h3.2
  | some q=>
   obtain ⟨es,ke,pe⟩:=q
   rw [hy] at h3
   obtain rfl:=ni hy
   cases n with
   | zero=>simp [ag] at h1
   | succ n=>
    obtain ⟨cs,rfl⟩:=xP h1
    have ha:=AJ h1
    dsimp only at h3
    cases hr:sD b.sc ts es with
    | none=>rw [hr] at h3;cases h3
    | some w=>
     have hw:=Jt (k:=kt) (p:=pt) (k2:=ke) (p2:=pe) hb G.hs hr
     rw [hr] at h3
     cases w with
     | none=>exact plain hw h3
     | some ns=>
      dsimp only at h3
      cases ht:tgL gs with
      | none=>rw [ht] at h3;cases h3
      | some is=>
       rw [ht] at h3
       simp only [bAE] at h3
       obtain ⟨⟨hn0,hl0⟩,h3⟩:=h3
       have hn:nmL ts=some ns:=by simpa using hn0
       have hl:es.length=ns.length:=by simpa using hl0
       clear hn0 hl0
       obtain rfl:=xK ht
       unfold Ju at h3
       split at h3
       ·rename_i x y
        split at h3
        ·rename_i i j
         obtain ⟨p1,t1,rfl,hn1⟩:=eX hn
         obtain ⟨p2,t2,rfl,hn2⟩:=eX hn1
         obtain rfl:=sF hn2
         obtain ⟨a1,a2,rfl⟩:=AN hl
         simp only [bAE] at h3
         obtain ⟨⟨⟨⟨q2,q3⟩,q4⟩,q5⟩,q6⟩:=h3
         exact PS.imp (DK (i:=i) (j:=j) G.calm (by rw [G.hN];exact G.nd) (by rw [G.hN];simpa using q2) (by rw [G.hN];simpa using q3) (by simpa using q4) (by rw [G.hs];simpa using q5) (by rw [G.hs];simpa using q6) ((snd n).a b X _ cs G ha) hw so) fun D σ H q=>AK q
        ·cases h3
       ·rename_i x y z
        split at h3
        ·rename_i i j l
         obtain ⟨p1,t1,rfl,hn1⟩:=eX hn
         obtain ⟨p2,t2,rfl,hn2⟩:=eX hn1
         obtain ⟨p3,t3,rfl,hn3⟩:=eX hn2
         obtain rfl:=sF hn3
         obtain ⟨a1,a2,a3,rfl⟩:=uJ hl
         simp only [bAE] at h3
         obtain ⟨⟨⟨⟨⟨⟨⟨⟨q2,q3⟩,q3'⟩,q4⟩,q4'⟩,q4''⟩,q5⟩,q6⟩,q7⟩:=h3
         exact PS.imp (zI (i:=i) (j:=j) (k:=l) G.calm (by rw [G.hN];exact G.nd) (by rw [G.hN];simpa using q2) (by rw [G.hN];simpa using q3) (by rw [G.hN];simpa using q3') (by simpa using q4) (by simpa using q4') (by simpa using q4'') (by rw [G.hs];simpa using q5) (by rw [G.hs];simpa using q6) (by rw [G.hs];simpa using q7) ((snd n).a b X _ cs G ha) hw so) fun D σ H q=>AL q
        ·cases h3
       ·cases h3
theorem xR {v:Expr} {line:Nat} (h:nw v=false):swapsWith v none line X.env=pure false:=by
 unfold swapsWith
 cases v <;> first | rfl | (exact absurd h (by simp [nw]))
structure SndS (T:Tab) (C:Calls) (ar:Nat->Nat) (k n:Nat):Prop where
 s:∀ (b:Blk) (X:Cx) (s:Stmt) (c:CS),CtxOk T C ar k b X->X.env.scope.kind = .function->g8 T n b s c=true->PS X s (tSt X.K (evS C ar n c))
 ss:∀ (b:Blk) (X:Cx) (s:List Stmt) (c:List CS),CtxOk T C ar k b X->X.env.scope.kind = .function->eY T n b s c=true->PSs X s (tSt X.K (eO C ar n c))
theorem Jy {K:PySem.W.Frag} {D:Ends} {σ:L2.St} {H:Hp} (h:tSt K AF D σ H):False:=by
 obtain ⟨m,ρ,S,fl,ρ',S',E,R,e,q⟩:=h
 cases e
theorem Jz:∀ n,SndS T C ar k n
 | 0=>⟨fun b X s c _ _ h=>by simp [g8] at h,fun b X s c _ _ h=>by simp [eY] at h⟩
 | n+1=>by
  have ih:=Jz n
  refine ⟨fun b X s c G hk h=>?_,fun b X ss cs G hk h=>?_⟩
  ·have hp:PassesOwn (model X.prog X.w) X.A X.env X.xe:=by rw [G.xe];exact PassesOwn.never
   cases c with
   | asg t e=>simp only [g8] at h;obtain ⟨tg,v,p,rfl,h1⟩:=Fw h;exact FB G hk h1
   | setI v o i=>
    simp only [g8] at h
    obtain ⟨x,y,px,z,p,rfl,h1,h2,h3,pl⟩:=AG h
    exact PS.imp (vC ((snd n).e b X z v G h1) (DI ((snd n).e b X x o G h2) ((snd n).e b X y i G h3) Jd (fun v=>by
     cases y <;> first | rfl | (exact absurd pl (by simp [az])))) (pk fun x p z=>nomatch z) (sE (.inr (.inr ⟨_,_,_,rfl⟩))) rfl) fun D σ H q=>Ap q
   | ex e=>simp only [g8] at h;obtain ⟨v,p,rfl,h1,h2⟩:=Jw h;exact PS.imp (y8 ((snd n).e b X v e G h1) (xR h2)) fun D σ H q=>An q
   | ret e=>simp only [g8] at h;obtain ⟨v,p,rfl,h1⟩:=Fx h;exact PS.imp (DE ((snd n).e b X _ _ G h1)) fun D σ H q=>ET q
   | retN=>simp only [g8] at h;obtain ⟨p,rfl⟩:=AH h;exact PS.imp y9 fun D σ H q=>Ao q
   | ifs c x y=>simp only [g8] at h;obtain ⟨t,p,q,r,rfl,h1,h2,h3⟩:=Jx h;exact PS.imp (Il ((snd n).t b X _ _ G h1) (ih.ss b X _ _ G hk h2) (ih.ss b X _ _ G hk h3)) fun D σ H q=>Jl q
   | for_ t it x=>
    simp only [g8] at h
    obtain ⟨tg,i,p,pos,rfl,h1,h2⟩:=Fy h
    simp only [bAE] at h1
    exact PS.imp (DM hp G.calm ((snd n).i [] b X _ _ _ G h1.1) (fM G h1.2) (ih.ss b X _ _ G hk h2) (fL h1.1 (fun e he env=>dS he) X.env)) fun D σ H q=>EW q
   | while_ c x=>simp only [g8] at h;obtain ⟨t,p,q,rfl,h1,h2⟩:=xO h;exact PS.imp (vE hp ((snd n).t b X _ _ G h1) (ih.ss b X _ _ G hk h2)) fun D σ H q=>w9 q
   | pass=>simp only [g8] at h;obtain ⟨p,rfl⟩:=AI h;exact PS.imp y7 fun D σ H q=>sj q
   | brk=>simp only [g8] at h;obtain ⟨p,rfl⟩:=Fz h;exact PS.imp vq fun D σ H q=>EU q
   | cnt=>simp only [g8] at h;obtain ⟨p,rfl⟩:=FA h;exact PS.imp nW fun D σ H q=>EV q
   | never=>exact PS.imp vt fun D σ H q=>(Jy q).elim
  ·cases ss with
   | nil=>
    cases cs with
    | nil=>exact PSs.imp y6 fun D σ H q=>sj q
    | cons _ _=>simp [eY] at h
   | cons s ss=>
    cases cs with
    | nil=>simp [eY] at h
    | cons c cs=>
     simp only [eY,bAE] at h
     exact PSs.imp (vo (ih.s b X s c G hk h.1) (ih.ss b X ss cs G hk h.2)) fun D σ H q=>ES q
end
end Ev
namespace Ev
open PySem PySem.Spec PyProof.Rows L2
structure DefE where
 x:Str
 st:Stmt
 N:List Str
 ps:List Str
 body:List CS
noncomputable def FU:Nat:=60
noncomputable def jv (ak:List DefE) (f:Nat):Nat:=match ak[f]? with
 | some d=>d.ps.length
 | none=>0
noncomputable def FC (C:Calls) (ar:Nat->Nat) (d:DefE) (ds:List D) (S:Sto):Option (D × Sto):=
 match eO C ar FU d.body (ds.map some++List.replicate (d.N.length - ds.length) none) S with
 | some (.rt v,_,S')=>some (v,S')
 | some (.nx,_,S')=>some (.non,S')
 | _=>none
noncomputable def evC (ak:List DefE):Nat->Calls
 | 0=>fun _ _ _=>none
 | k+1=>fun f ds S=>match ak[f]? with
  | some d=>FC (evC ak k) (jv ak) d ds S
  | none=>none
noncomputable def xS (N ps:List Str) (sc:Scope):Bool:=sc.kind == .function && sc.isCoroutine == false && sc.isGenerator == false && iA N && N.take ps.length == ps && (ps.all fun x=>sc.names.lookup x == some .local || sc.names.lookup x == some .cell) && sc.names.all fun y=>y.2 != .free
theorem AO {N ps:List Str} {sc:Scope} (h:xS N ps sc=true):FnScope N ps sc:=by
 unfold xS at h
 simp only [bAE,List.all_eq_true] at h
 obtain ⟨⟨⟨⟨⟨⟨h1,h2⟩,h3⟩,h4⟩,h5⟩,h6⟩,h7⟩:=h
 refine ⟨by simpa using h1,by simpa using h2,by simpa using h3,gI h4,by simpa using h5,fun x hx=>?_,fun y hy=>by simpa using h7 y hy⟩
 have:=h6 x hx
 simpa using this
noncomputable def AQ (T:Tab) (d:DefE):Bool:=xS d.N d.ps (bm d.st) && eY T FU ⟨bm d.st,none,d.N⟩ (b8 d.st) d.body
noncomputable def sG (con:List (Str × Int)) (ak:List DefE):Tab:=⟨con,ak.map fun d=>(d.x,d.ps.length)⟩
structure TextOk (K:PySem.W.Frag) (mg:Str->Option Value) (con:List (Str × Int)) (ak:List DefE):Prop where
 con:∀ (i:Nat) (x:Str) (v:Int),con[i]?=some (x,v)->∃ tk,mg x=some (.int v tk)
 bl:∀ x,x ∈ gX->mg x=none
 fn:∀ (i:Nat) (d:DefE),ak[i]?=some d->∃ f fd,mg d.x=some (.ref f)/\PySem.W.keepIn K (.ref f)=true/\lp K fd d.ps []/\Fun K d.x d.x d.st f fd
section
variable {P:Program} {w:World} {K:PySem.W.Frag} {mg:Str->Option Value} {base:Heap} {con:List (Str × Int)} {ak:List DefE}
theorem AR {f:Addr} {fd:FuncData} {ps:List Str} {i n:Nat}:FnOk P w K mg base CX0 0 f fd ps (spC K (evC ak 0 i) n):=
 ⟨fun vs H Q E h=>(by obtain ⟨m,ds,S,d,S',_,_,_,e,_⟩:=h;cases e),fun A outer s H args us vs Q E _ _ _ _ h=>(by obtain ⟨m,ds,S,d,S',_,_,_,e,_⟩:=h;cases e)⟩
theorem uK {m:List Addr} {H:Hp} {N:List Str} {ds:List D} {vs:List V} (vd:VDs K m H ds vs):EnvR K m H (ds.map some++List.replicate (N.length - ds.length) none) (L2.fV N vs):=by
 have hl:=vd.length
 unfold L2.fV
 refine ⟨by simp [hl],fun i d e=>?_⟩
 by_cases hi:i < ds.length
 ·rw [List.getElem?_append_left (by simpa using hi),List.getElem?_map] at e
  cases h:ds[i]? with
  | none=>rw [h] at e;cases e
  | some d'=>
   rw [h] at e
   cases e
   obtain ⟨v,hv,vv⟩:=vd.get h
   exact ⟨v,by rw [List.getElem?_append_left (by simp;omega),List.getElem?_map,hv];rfl,vv⟩
 ·rw [List.getElem?_append_right (by simpa using hi),List.getElem?_replicate] at e
  split at e <;> cases e
theorem sH (T:TextOk K mg con ak) (hc:ak.all (AQ (sG con ak))=true):∀ (k i:Nat) (d:DefE),ak[i]?=some d->∀ f fd,mg d.x=some (.ref f)->Fun K d.x d.x d.st f fd->FnOk P w K mg base CX0 k f fd d.ps (spC K (evC ak k i) d.ps.length)
 | 0,i,d,_,f,fd,_,_=>AR
 | k+1,i,d,hd,f,fd,hm,F=>by
  have ih:=sH T hc k
  have ck:=List.all_eq_true.mp hc d (List.mem_of_getElem? hd)
  unfold AQ at ck
  rw [bAE] at ck
  have S:=AO ck.1
  refine F.ok S (fun vs H Q E h=>?_) fun cdv A outer s H vs Q E hr h=>?_
  ·obtain ⟨m,ds,S,d',S',vd,_,hl,_⟩:=h
   rw [<-vd.length,hl]
  ·have G:CtxOk (sG con ak) (evC ak k) (jv ak) k ⟨bm d.st,none,d.N⟩ (pX CX0 P w K mg base d.N d.x (bm d.st) f cdv A outer s H E).nox:=by
    refine ⟨rfl,rfl,rfl,rfl,S.nd,fun _ _=>rfl,hr,T.con,T.bl,fun j y hy=>?_⟩
    have hy':(ak.map fun d=>(d.x,d.ps.length))[j]?=some y:=hy
    rw [List.getElem?_map] at hy'
    cases hj:ak[j]? with
    | none=>rw [hj] at hy';cases hy'
    | some e=>
     rw [hj] at hy'
     cases hy'
     have ha:jv ak j=e.ps.length:=by unfold jv;rw [hj]
     obtain ⟨f',fd',m',k',b',F'⟩:=T.fn j e hj
     refine ⟨ha,f',fd',e.ps,m',k',b',?_⟩
     rw [ha]
     exact ih j e hj f' fd' m' F'
   refine ⟨_,(Jz FU).ss _ _ (b8 d.st) d.body G S.kind ck.2,?_⟩
   obtain ⟨m,ds,S0,r,S',vd,R,hl,e,q⟩:=h
   simp only [evC,hd,FC] at e
   cases hx:eO (evC ak k) (jv ak) FU d.body (ds.map some++List.replicate (d.N.length - ds.length) none) S0 with
   | none=>rw [hx] at e;cases e
   | some z=>
    obtain ⟨fl,ρ',S1⟩:=z
    rw [hx] at e
    refine ⟨m,_,S0,fl,ρ',S1,uK vd,R,hx,fun m' H' A'=>?_⟩
    cases fl with
    | nx=>cases e;exact fun σ _=>q m' H' .non A' mQ
    | rt v=>cases e;exact fun u vu=>q m' H' u A' vu
    | bk=>cases e
    | ct=>cases e
end
end Ev
namespace Ev
open PySem PySem.Spec PyProof.Rows L2
noncomputable abbrev sI:=(Str × Str) × (Arguments × List Stmt) × (Scope × Addr) × (List (Str × Addr) × Value) × (Addr × Option Str)
noncomputable def C6 (h:Heap):Value->Option Str
 | .ref c=>(match h.get? c with
  | some ⟨_,_,.fields vs,_⟩=>(match vs.toList with | _ :: .str n _::_=>some n | _=>none)
  | _=>none)
 | _=>none
noncomputable def JA (h:Heap):Option Obj->Option sI
 | some ⟨_,_,.func ⟨nm,qn,ps,.stmts b,sc,gl,cl,dv,_,_,_,_,cd,_,bi⟩,_⟩=>some ((nm,qn),(ps,b),(sc,gl),(cl,dv),(bi,C6 h cd))
 | _=>none
noncomputable def AS (h:Heap) (x:Str):Option sI:=match h.nsMap mainGlobals x with
 | some (.ref f)=>JA h (h.get? f)
 | _=>none
noncomputable def sJ (d:DefE):Option sI:=some ((d.x,d.x),(dI d.st,b8 d.st),(bm d.st,mainGlobals),([],.none),(builtinsNs,some d.x))
noncomputable def JB (h:Heap) (x:Str):Option Int:=match h.nsMap mainGlobals x with
 | some (.int v _)=>some v
 | _=>none
noncomputable abbrev xT:=Bool × List (Option sI) × List (Option Int) × List Bool
noncomputable def FD (con:List (Str × Int)) (ak:List DefE) (h:Heap):xT:=(h.isNs mainGlobals,ak.map (fun d=>AS h d.x),con.map (fun c=>JB h c.1),gX.map fun x=>(h.nsMap mainGlobals x).isNone)
noncomputable def xU (con:List (Str × Int)) (ak:List DefE):xT:=(true,ak.map sJ,con.map (fun c=>some c.2),gX.map fun _=>true)
noncomputable def C7 (d:DefE):Prop:=∀ (kV doc pm:Value) (an:Option Addr) (cdv ct:Value) (us:List Value),us.length=d.ps.length->bindArgs (PySem.W.fnOf d.x d.x (dI d.st) (b8 d.st) (bm d.st) .none kV doc pm an cdv ct) ⟨us,[]⟩=pure (d.ps.zip us)
noncomputable def uL:List DefE->Prop
 | []=>True
 | d::ds=>C7 d/\uL ds
theorem uL.at:∀ {ds:List DefE} {d:DefE},uL ds->d ∈ ds->C7 d
 | e::ds,d,h,hd=>by
  rcases List.mem_cons.mp hd with rfl | hd
  ·exact h.1
  ·exact uL.at h.2 hd
noncomputable def lO (h:Heap) (f:Addr):PySem.W.Frag:=match h.get? f with
 | some o=>(f,o)::(match o.data with
  | .func fd=>(match fd.code with
   | .ref c=>(match h.get? c with | some oc=>[(c,oc)] | none=>[])
   | _=>[])
  | _=>[])
 | none=>[]
noncomputable def cW (h:Heap) (d:DefE):PySem.W.Frag:=match h.nsMap mainGlobals d.x with
 | some (.ref f)=>lO h f
 | _=>[]
noncomputable def JC (K:PySem.W.Frag):Prop:=∀ a o,K.lookup a=some o->∀ its n,o.data ≠ .seq its n
structure Says (con:List (Str × Int)) (ak:List DefE) (h:Heap):Prop where
 ns:∃ m,h.Ns mainGlobals m
 frag:∃ K:PySem.W.Frag,K.In h/\JC K/\∀ mg,h.Ns mainGlobals mg->TextOk K mg con ak
theorem kw {K:PySem.W.Frag} {a:Addr} {o:Obj} (h:K.lookup a=some o):(a,o) ∈ K:=by
 induction K with
 | nil=>cases h
 | cons p K ih=>
  obtain ⟨b,q⟩:=p
  rw [List.lookup_cons] at h
  cases hb:a == b with
  | true=>
   rw [hb] at h
   cases h
   have:a=b:=by simpa using hb
   subst this
   exact List.mem_cons_self
  | false=>rw [hb] at h;exact List.mem_cons_of_mem _ (ih h)
theorem xV {K:PySem.W.Frag} {a:Addr} {o:Obj} (h:(a,o) ∈ K):∃ o',K.lookup a=some o':=by
 induction K with
 | nil=>cases h
 | cons p K ih=>
  obtain ⟨b,q⟩:=p
  rw [List.lookup_cons]
  cases hb:a == b with
  | true=>exact ⟨_,rfl⟩
  | false=>
   rcases List.mem_cons.mp h with e | h
   ·cases e;simp at hb
   ·exact ih h
theorem xW {h:Heap} {f a:Addr} {o:Obj} (e:(a,o) ∈ lO h f):h.get? a=some o:=by
 unfold lO at e
 cases hf:h.get? f with
 | none=>rw [hf] at e;cases e
 | some of=>
  rw [hf] at e
  dsimp only at e
  rcases List.mem_cons.mp e with q | e
  ·cases q;exact hf
  ·split at e
   ·split at e
    ·rename_i c hc
     cases hc':h.get? c with
     | none=>rw [hc'] at e;cases e
     | some oc=>
      rw [hc'] at e
      dsimp only at e
      rcases List.mem_cons.mp e with q | e
      ·cases q;exact hc'
      ·cases e
    ·cases e
   ·cases e
theorem FE {h:Heap} {a:Addr} {mg:Str->Option Value} (N:h.Ns a mg):h.nsMap a=mg:=by
 obtain ⟨o,es,ep,ho,hd,_,hm⟩:=N
 funext x
 unfold Heap.nsMap
 rw [ho]
 dsimp only
 rw [hd]
 exact hm x
theorem xX {h:Heap} {d:DefE} (e:AS h d.x=sJ d):∃ f oc od kV doc pm an c ct osl cc cd vs a t r cs,h.nsMap mainGlobals d.x=some (.ref f)/\h.get? f=some ⟨oc,od,.func (PySem.W.fnOf d.x d.x (dI d.st) (b8 d.st) (bm d.st) .none kV doc pm an (.ref c) ct),osl⟩ ∧
  h.get? c=some ⟨cc,cd,.fields vs,cs⟩/\vs.toList=a :: .str d.x t::r:=by
 unfold AS sJ at e
 split at e
 ·rename_i f hf
  unfold JA at e
  split at e
  ·rename_i oc od nm qn ps b sc gl cl dv kV doc pm an cdv ct bi osl hg
   simp only [Option.some.injEq,Prod.mk.injEq] at e
   obtain ⟨⟨rfl,rfl⟩,⟨rfl,rfl⟩,⟨rfl,rfl⟩,⟨rfl,rfl⟩,rfl,e⟩:=e
   unfold C6 at e
   split at e
   ·rename_i c
    split at e
    ·rename_i cc cd vs cs hc
     split at e
     ·rename_i a n t r hv
      cases e
      exact ⟨f,oc,od,kV,doc,pm,an,c,ct,osl,cc,cd,vs,a,t,r,cs,hf,hg,hc,hv⟩
     ·cases e
    ·cases e
   ·cases e
  ·cases e
 ·cases e
theorem AU {con:List (Str × Int)} {ak:List DefE} (hb:uL ak) {h:Heap} (e:FD con ak h=xU con ak):Says con ak h:=by
 unfold FD xU at e
 simp only [Prod.mk.injEq] at e
 obtain ⟨e0,e1,e2,e3⟩:=e
 have N:=Heap.Ns.of_isNs e0
 have D:∀ d ∈ ak,AS h d.x=sJ d:=fun d hd=>List.map_inj_left.mp e1 d hd
 have inK:∀ a o,(a,o) ∈ ak.flatMap (cW h)->h.get? a=some o:=fun a o he=>by
  obtain ⟨d,hd,he⟩:=List.mem_flatMap.mp he
  obtain ⟨f,oc,od,kV,doc,pm,an,c,ct,osl,cc,cd,vs,a',t,r,cs,g1,g2,g3,g4⟩:=xX (D d hd)
  unfold cW at he
  rw [g1] at he
  exact xW he
 have lk:∀ a o,(a,o) ∈ ak.flatMap (cW h)->(ak.flatMap (cW h)).lookup a=some o:=fun a o he=>by
  obtain ⟨o',q⟩:=xV he
  have z:=inK a o' (kw q)
  rw [inK a o he] at z
  cases z
  exact q
 refine ⟨⟨_,N⟩,ak.flatMap (cW h),fun a o q=>inK a o (kw q),fun a o q its n hs=>?_,fun mg G=>?_⟩
 ·obtain ⟨d,hd,he⟩:=List.mem_flatMap.mp (kw q)
  obtain ⟨f,oc,od,kV,doc,pm,an,c,ct,osl,cc,cd,vs,a',t,r,cs,g1,g2,g3,g4⟩:=xX (D d hd)
  unfold cW at he
  rw [g1] at he
  dsimp only at he
  unfold lO at he
  rw [g2] at he
  dsimp only at he
  rw [g3] at he
  dsimp only at he
  rcases List.mem_cons.mp he with z | he
  ·cases z;cases hs
  ·rcases List.mem_cons.mp he with z | he
   ·cases z;cases hs
   ·cases he
 ·have hm:=FE G
  refine ⟨fun i x v hi=>?_,fun x hx=>?_,fun i d hi=>?_⟩
  ·have z:=List.map_inj_left.mp e2 (x,v) (List.mem_of_getElem? hi)
   unfold JB at z
   rw [hm] at z
   dsimp only at z
   split at z
   ·rename_i v' t hv;cases z;exact ⟨t,hv⟩
   ·cases z
  ·have z:=List.map_inj_left.mp e3 x hx
   rw [hm] at z
   simpa using z
  ·have hd:=List.mem_of_getElem? hi
   obtain ⟨f,oc,od,kV,doc,pm,an,c,ct,osl,cc,cd,vs,a',t,r,cs,g1,g2,g3,g4⟩:=xX (D d hd)
   have m1:(f,_) ∈ ak.flatMap (cW h):=List.mem_flatMap.mpr ⟨d,hd,by
    show _ ∈ cW h d
    unfold cW
    rw [g1]
    dsimp only
    unfold lO
    rw [g2]
    exact List.mem_cons_self⟩
   have m2:(c,_) ∈ ak.flatMap (cW h):=List.mem_flatMap.mpr ⟨d,hd,by
    show _ ∈ cW h d
    unfold cW
    rw [g1]
    dsimp only
    unfold lO
    rw [g2]
    dsimp only
    rw [g3]
    exact List.mem_cons_of_mem _ List.mem_cons_self⟩
   have l1:=lk _ _ m1
   have l2:=lk _ _ m2
   have kp:PySem.W.keepIn (ak.flatMap (cW h)) (.ref f)=true:=by unfold PySem.W.keepIn;dsimp only;rw [l1]
   have cdI:PySem.W.codeIn (ak.flatMap (cW h)) (.ref c) d.x=true:=by
    unfold PySem.W.codeIn
    dsimp only
    rw [l2]
    dsimp only
    rw [g4]
    simp
   have F:=D8 (st:=d.st) (x:=d.x) (qual:=d.x) l1 cdI kp
   refine ⟨f,_,by rw [<-hm];exact g1,kp,F.binds (hb.at hd),F⟩
theorem qR {con:List (Str × Int)} {ak:List DefE} {h h':Heap} (x:Says con ak h) (k:∀ b o,h.get? b=some o->h'.get? b=some o):Says con ak h':=by
 obtain ⟨⟨m,N⟩,K,KX,ns,T⟩:=x
 have back:∀ mg,h'.Ns mainGlobals mg->h.Ns mainGlobals mg:=fun mg ⟨o,es,ep,ho,r⟩=>by
  obtain ⟨o',es',ep',ho',r'⟩:=N
  have z:=k _ _ ho'
  rw [ho] at z
  cases z
  exact ⟨o,es,ep,ho',r⟩
 refine ⟨⟨m,let ⟨o,es,ep,ho,r⟩:=N;⟨o,es,ep,k _ _ ho,r⟩⟩,K,fun a o q=>k _ _ (KX a o q),ns,fun mg G=>T mg (back mg G)⟩
noncomputable def ny (con:List (Str × Int)) (ak:List DefE) (hb:uL ak):PySem.W.Hook:=
 ⟨xT,fun s=>FD con ak s.heap,fun _=>xU con ak,fun _ h=>Says con ak h,fun _ _ e=>AU hb e,fun _ _ _ x k=>qR x k⟩
theorem kx {K:PySem.W.Frag} {m:List Addr} {H:Hp}:∀ ns:List Int,VDs K m H (ns.map D.int) (ns.map V.int)
 | []=>by rw [List.map_nil,List.map_nil,VDs]
 | a::l=>by rw [List.map_cons,List.map_cons,VDs];exact ⟨_,_,rfl,bu,kx l⟩
theorem AV {l:PySem.W.OpenLaw} {n k i:Nat} {q:Program} {loose:List Str} {XP:(Str->Option Value)->Heap->Prop} {d:DefRec} {con:List (Str × Int)} {ak:List DefE} {hb:uL ak} {dl:DefE} {x:Str}
  (hn:l.most=some n) (hn2:n<=sizeLine) (hdf:d.params.defaults=[]) (hr:Room k callerA) (hx:d.name=dl.x) (hi:ak[i]?=some dl) (hps:dl.ps=[x]) (hc:ak.all (AQ (sG con ak))=true)
  (main:∀ ns:List Int,ns.length<=n->∃ S',evC ak k i [.ref 0] [.frz (ns.map D.int)]=some (.bl true,S')) :
  PySem.W.WalkO q loose XP (ny con ak hb).says l.row.toRowW d [] (fun f vs=>PySem.call f vs):=by
 refine Att.attach_call hn hdf fun w s₀ s₁ mg mb fa o pm cd doc a vs ns G Y ho hd hcd hmg hobj hints hlen hg=>?_
 obtain ⟨_,K,KX,noS,T⟩:=(show Says con ak s₁.heap from Y)
 have T:=T mg G.T.g
 obtain ⟨f,fd,hm,kp,_,F⟩:=T.fn i dl hi
 rw [hx] at hmg
 rw [hmg] at hm
 cases hm
 have bd:∀ (s:Shared) (u:Value),BindsTo s fd ⟨[u],[]⟩ [(x,u)]:=fun s u=>by
  obtain ⟨oc,od,kV,doc,pm,an,cdv,ct,osl,rfl,lk,hcd⟩:=F.ex
  have z:=(hb.at (List.mem_of_getElem? hi)) kV doc pm an cdv ct [u] (by rw [hps];rfl)
  rw [hps] at z
  exact .of_eq z
 refine vT (CX:=CX0) (sp:=spC K (evC ak k i) dl.ps.length) KX G.T.g G.T.b G.T.builtins G.T.nolimit hg hobj hints (Nat.le_trans hlen hn2) hr (fun base _ _=>by
  have:=sH (P:=l.row.toRowW.prog) (w:=w) (base:=base) T hc k i dl hi fa fd hmg F
  rw [hps] at this ⊢
  exact this) bd (fun H hO hS=>?_) fun H e s' z=>z
 have fz:∃ o,H a=some (.frz o (.lst (ns.map V.int))):=by
  rcases hS with (z | ⟨o,z⟩) | ⟨o,its,n',hk,hc,hdd,hdt,_⟩
  ·rcases hO a with y | ⟨o',xs,y⟩
   ·rw [y] at z;cases z
   ·rw [y] at z;cases z
  ·exact ⟨o,z⟩
  ·exact absurd hdt (noS a o hk its n')
 obtain ⟨o,fz⟩:=fz
 obtain ⟨S',e⟩:=main ns hlen
 refine ⟨[a],[.ref 0],[.frz (ns.map D.int)],.bl true,S',?_,⟨rfl,by simp,fun j ob ej=>?_⟩,by rw [hps];rfl,e,fun m' H' v A vv=>vv.bls⟩
 ·rw [VDs]
  exact ⟨_,_,rfl,by rw [VD];exact ⟨a,rfl,rfl⟩,by rw [VDs]⟩
 ·cases j with
  | zero=>cases ej;exact ⟨a,rfl,o,_,fz,kx ns⟩
  | succ j=>simp at ej
end Ev
namespace Lw
open PySem Ev
noncomputable def top (i:Nat):Stmt:=PySem.Challenge.pw_downrings_k03_skies_looked_at.main.body.getD i (.Pass ⟨0,0,0,0⟩)
noncomputable abbrev ky:Nat:=0
noncomputable abbrev bp:Nat:=1
noncomputable abbrev cm:Nat:=2
noncomputable abbrev bc:Nat:=3
noncomputable abbrev g9:Nat:=4
noncomputable abbrev i9:Nat:=5
noncomputable abbrev kz:Nat:=6
noncomputable abbrev hF:Nat:=7
noncomputable abbrev bK:Nat:=8
noncomputable abbrev ja:Nat:=9
noncomputable abbrev hJ:Nat:=10
noncomputable abbrev iQ:Nat:=11
noncomputable abbrev kB:Nat:=12
noncomputable abbrev kC:Nat:=13
noncomputable abbrev fY:Nat:=14
noncomputable abbrev jb:Nat:=15
noncomputable abbrev jc:Nat:=16
noncomputable abbrev fZ:Nat:=17
noncomputable abbrev lP:Nat:=18
noncomputable abbrev ac:Nat:=19
noncomputable abbrev eZ:Nat:=20
noncomputable abbrev aL:Nat:=21
noncomputable abbrev kD:Nat:=22
noncomputable abbrev jd:Nat:=23
noncomputable abbrev hR:Nat:=24
noncomputable abbrev hU:Nat:=25
noncomputable abbrev je:Nat:=26
noncomputable abbrev lQ:Nat:=27
noncomputable abbrev cE:Nat:=28
noncomputable abbrev dW:Nat:=29
noncomputable abbrev eG:Nat:=30
noncomputable abbrev eI:Nat:=31
noncomputable abbrev hV:Nat:=32
noncomputable abbrev cx:Nat:=33
noncomputable abbrev sK:Nat:=34
noncomputable def kE:List CS:=[.ret (.and (.inst .int (.var 0)) (.not (.inst .bool (.var 0))))]
noncomputable def jg:List CS:=[.ret (.and (.call ky [(.var 0)]) (.chn .le .le (.var 1) (.var 0) (.var 2)))]
noncomputable def jh:List CS:=[.ret (.call bp [(.var 0),(.int 0),(.con 0 9999)])]
noncomputable def kF:List CS:=[.ret (.and (.inst .tuple (.var 0)) (.chn .le .le (.var 1) (.len (.var 0)) (.var 2)))]
noncomputable def hX:List CS:=[.ifs (.or (.not (.call bc [(.var 0),(.int 0),(.var 1)])) (.not (.all (.comp ["number"] (.call bp [(.var 2),(.int 0),(.bin .sub (.var 1) (.int 1))]) [⟨(.name 2),(.val (.var 0)),none⟩])))) [.ret (.bl false)] [],.ret (.all (.comp ["number"] (.cmp .eq (.cnt (.var 0) (.var 2)) (.int 1)) [⟨(.name 2),(.val (.var 0)),none⟩]))]
noncomputable def ji:List CS:=[.ifs (.not (.call bc [(.var 0),(.int 4),(.int 4)])) [.ret (.bl false)] [],.asg (.tup [(.name 1),(.name 2),(.name 3),(.name 4)]) (.var 0),.ret (.and (.call bp [(.var 1),(.int 0),(.con 1 8)]) (.and (.call bp [(.var 2),(.int 0),(.con 2 60)]) (.and (.call kz [(.var 3)]) (.call ja [(.var 4)]))))]
noncomputable def kG:List CS:=[.ifs (.not (.call bc [(.var 0),(.int 1),(.con 3 4)])) [.ret (.bl false)] [],.ret (.and (.all (.comp ["row"] (.call hF [(.var 1),(.len (.var 0))]) [⟨(.name 1),(.val (.var 0)),none⟩])) (.call bK [(.var 0)]))]
noncomputable def hY:List CS:=[.ret (.and (.call bc [(.var 0),(.var 1),(.var 1)]) (.all (.comp ["gap"] (.call bp [(.var 2),(.int 1),(.con 4 99)]) [⟨(.name 2),(.val (.var 0)),none⟩])))]
noncomputable def bL:List CS:=[.asg (.name 1) (.listR (.len (.var 0))),.ret (.all (.comp ["a", "b", "c"] (.cmp .le (.ix (.ix (.var 0) (.var 2)) (.var 3)) (.bin .add (.ix (.ix (.var 0) (.var 2)) (.var 4)) (.ix (.ix (.var 0) (.var 4)) (.var 3)))) [⟨(.name 2),(.val (.var 1)),none⟩,⟨(.name 3),(.val (.var 1)),none⟩,⟨(.name 4),(.val (.var 1)),none⟩]))]
noncomputable def jj:List CS:=[.ifs (.or (.not (.call bc [(.var 0),(.int 0),(.con 5 4)])) (.not (.all (.comp ["part"] (.call hJ [(.var 1)]) [⟨(.name 1),(.val (.var 0)),none⟩])))) [.ret (.bl false)] [],.ret (.all (.comp ["at"] (.cmp .gt (.ix (.ix (.var 0) (.var 1)) (.int 0)) (.ix (.ix (.var 0) (.bin .sub (.var 1) (.int 1))) (.int 1))) [⟨(.name 1),(.r2 (.int 1) (.len (.var 0))),none⟩]))]
noncomputable def hZ:List CS:=[.ret (.and (.call bc [(.var 0),(.int 2),(.int 2)]) (.and (.call cm [(.ix (.var 0) (.int 0))]) (.and (.call cm [(.ix (.var 0) (.int 1))]) (.cmp .lt (.ix (.var 0) (.int 0)) (.ix (.var 0) (.int 1))))))]
noncomputable def lR:List CS:=[.ret (.call bp [(.var 1),(.int 0),(.bin .sub (.len (.ix (.var 0) (.int 2))) (.int 1))])]
noncomputable def pC:List CS:=[.ifs (.not (.call bc [(.var 0),(.int 4),(.int 4)])) [.ret (.bl false)] [],.asg (.tup [(.name 1),(.name 2),(.name 3),(.name 4)]) (.var 0),.ret (.and (.call i9 [(.var 1)]) (.and (.call kC [(.var 1),(.var 2)]) (.and (.call fY [(.var 1),(.var 3)]) (.call jc [(.var 3),(.var 4)]))))]
noncomputable def kH:List CS:=[.ifs (.cmp .is (.var 1) .non) [.ret (.bl true)] [],.ret (.and (.call bc [(.var 1),(.int 2),(.int 2)]) (.and (.call iQ [(.var 0),(.ix (.var 1) (.int 0))]) (.call cm [(.ix (.var 1) (.int 1))])))]
noncomputable def f7:List CS:=[.ret (.and (.call bc [(.var 1),(.int 0),(.con 6 7)]) (.all (.comp ["part"] (.call jb [(.var 0),(.var 2)]) [⟨(.name 2),(.val (.var 1)),none⟩])))]
noncomputable def jk:List CS:=[.ifs (.not (.call bc [(.var 1),(.int 7),(.int 7)])) [.ret (.bl false)] [],.asg (.tup [(.name 2),(.name 3),(.name 4),(.name 5),(.name 6),(.name 7),(.name 8)]) (.var 1),.ifs (.not (.all (.comp ["minute"] (.call cm [(.var 9)]) [⟨(.name 9),(.val (.tup [(.var 3),(.var 4),(.var 5),(.var 6)])),none⟩]))) [.ret (.bl false)] [],.ifs (.not (.chn .le .le (.bin .add (.var 3) (.ix (.var 0) (.int 1))) (.var 4) (.var 5))) [.ret (.bl false)] [],.ret (.and (.call iQ [(.var 0),(.var 2)]) (.and (.call bp [(.var 7),(.int 0),(.con 7 99)]) (.call bp [(.var 8),(.int 0),(.ix (.var 0) (.int 0))])))]
noncomputable def jl:List CS:=[.ifs (.not (.call g9 [(.var 1),(.len (.var 0))])) [.ret (.bl false)] [],.ret (.all (.comp ["number", "glider"] (.or (.cmp .eq (.ix (.var 3) (.int 6)) (.int 0)) (.cmp .isin (.var 2) (.var 1))) [⟨(.tup [(.name 2),(.name 3)]),(.en (.var 0)),none⟩]))]
noncomputable def f8:List CS:=[.ifs (.cmp .lt (.var 1) (.len (.var 0))) [.ret (.ix (.var 0) (.var 1))] [],.ret (.int 0)]
noncomputable def lU:List CS:=[.ifs (.cmp .ge (.var 0) (.bin .pow (.int 10) (.int 18))) [.ret (.lst [(.bin .sub (.var 0) (.bin .pow (.int 10) (.int 18)))])] [],.asg (.name 1) (.int 0),.for_ (.name 2) (.r1 (.int 64)) [.asg (.name 3) (.bin .mod (.bin .mul (.bin .add (.bin .add (.bin .mod (.var 0) (.int 2147483629)) (.bin .mul (.int 7919) (.var 2))) (.int 1)) (.int 48271)) (.int 2147483647)),.asg (.name 3) (.bin .mod (.bin .add (.bin .add (.bin .mul (.var 3) (.var 3)) (.bin .mul (.int 69621) (.var 2))) (.int 7)) (.int 2147483587)),.asg (.name 1) (.bin .add (.bin .mul (.var 1) (.int 2147483587)) (.var 3))],.ret (.lst [(.var 1)])]
noncomputable def kI:List CS:=[.asg (.name 2) (.bin .mod (.ix (.var 0) (.int 0)) (.var 1)),.setI (.bin .fdiv (.ix (.var 0) (.int 0)) (.var 1)) (.var 0) (.int 0),.ret (.var 2)]
noncomputable def jm:List CS:=[.ret (.and (.inst .int (.var 0)) (.not (.inst .bool (.var 0))))]
noncomputable def ia:List CS:=[.ret (.and (.call eZ [(.var 0)]) (.chn .le .le (.var 1) (.var 0) (.var 2)))]
noncomputable def cL:List CS:=[.asg (.name 1) (.bin .add (.int 1) (.call ac [(.var 0),(.int 4)])),.asg (.name 2) (.comp ["_law_a"] (.comp ["_law_b"] (.bin .add (.int 1) (.call ac [(.var 0),(.int 9)])) [⟨(.name 5),(.r1 (.var 1)),none⟩]) [⟨(.name 4),(.r1 (.var 1)),none⟩]),.ifs (.cmp .eq (.call ac [(.var 0),(.int 8)]) (.int 0)) [.asg (.name 2) (.comp ["_law_row"] (.comp ["_law_gap"] (.bin .sub (.int 99) (.call ac [(.var 0),(.int 3)])) [⟨(.name 5),(.val (.var 4)),none⟩]) [⟨(.name 4),(.val (.var 2)),none⟩])] [],.for_ (.name 3) (.r1 (.var 1)) [.asg (.name 2) (.comp ["_law_row"] (.comp ["_law_b", "_law_gap"] (.mn (.var 6) (.bin .add (.ix (.var 4) (.var 3)) (.ix (.ix (.var 2) (.var 3)) (.var 5)))) [⟨(.tup [(.name 5),(.name 6)]),(.en (.var 4)),none⟩]) [⟨(.name 4),(.val (.var 2)),none⟩])],.ret (.tupOf (.comp ["_law_row"] (.tupOf (.var 4)) [⟨(.name 4),(.val (.var 2)),none⟩]))]
noncomputable def jn:List CS:=[.asg (.tup [(.name 2),(.name 3)]) (.tup [(.lst []),(.var 1)]),.for_ (.name 4) (.r1 (.ix (.lst [(.int 0),(.int 1),(.int 2),(.int 3),(.int 4)]) (.call ac [(.var 0),(.int 5)]))) [.asg (.name 3) (.bin .add (.bin .add (.var 3) (.int 1)) (.call ac [(.var 0),(.int 14)])),.ex (.app (.var 2) (.tup [(.var 3),(.bin .add (.bin .add (.var 3) (.int 1)) (.call ac [(.var 0),(.int 6)]))])),.asg (.name 3) (.ix (.ix (.var 2) (.neg (.int 1))) (.int 1))],.ret (.tupOf (.var 2))]
noncomputable def ic:List CS:=[.asg (.name 1) (.ix (.lst [(.int 2),(.int 1),(.int 3),(.int 8),(.int 0)]) (.call ac [(.var 0),(.int 5)])),.ret (.tup [(.var 1),(.ix (.lst [(.int 2),(.int 0),(.int 1),(.int 5),(.int 60)]) (.call ac [(.var 0),(.int 5)])),(.call kD [(.var 0)]),(.call jd [(.var 0),(.int 0)])])]
noncomputable def ig:List CS:=[.asg (.name 2) (.call ac [(.var 0),(.int 40)]),.asg (.name 3) (.bin .add (.bin .add (.var 2) (.ix (.var 1) (.int 1))) (.ix (.lst [(.int 0),(.int 0),(.call ac [(.var 0),(.int 9)])]) (.call ac [(.var 0),(.int 3)]))),.asg (.name 4) (.bin .add (.var 3) (.ix (.lst [(.call ac [(.var 0),(.int 5)]),(.bin .add (.int 5) (.call ac [(.var 0),(.int 20)])),(.int 60),(.int 200)]) (.call ac [(.var 0),(.int 4)]))),.asg (.name 5) (.ix (.lst [(.var 3),(.bin .add (.var 2) (.call ac [(.var 0),(.int 30)])),(.call ac [(.var 0),(.int 90)])]) (.call ac [(.var 0),(.int 3)])),.ret (.tup [(.call ac [(.var 0),(.len (.ix (.var 1) (.int 2)))]),(.var 2),(.var 3),(.var 4),(.var 5),(.call ac [(.var 0),(.int 10)]),(.int 0)])]
noncomputable def jo:List CS:=[.asg (.name 2) (.listOf (.var 1)),.ret (.comp ["_law_one"] (.popAt (.var 2) (.call ac [(.var 0),(.len (.var 2))])) [⟨(.name 3),(.val (.var 1)),none⟩])]
noncomputable def fO:List CS:=[.asg (.name 2) (.call hR [(.var 0)]),.asg (.name 3) (.comp ["_law_g"] (.call hU [(.var 0),(.var 2)]) [⟨(.name 8),(.r1 (.call ac [(.var 0),(.bin .add (.var 1) (.int 1))])),none⟩]),.asg (.name 4) (.listR (.len (.var 3))),.ifs (.cmp .eq (.call ac [(.var 0),(.int 2)]) (.int 0)) [.asg (.name 4) (.comp ["_law_pair"] (.ix (.var 8) (.int 1)) [⟨(.name 8),(.val (.srt (.comp ["_law_g", "_law_glider_here"] (.tup [(.ix (.var 9) (.int 2)),(.var 8)]) [⟨(.tup [(.name 8),(.name 9)]),(.en (.var 3)),none⟩]))),none⟩])] [.asg (.name 4) (.call je [(.var 0),(.var 4)])],.asg (.name 5) (.sl (.var 4) none (some (.ix (.lst [(.int 0),(.int 1),(.int 2),(.int 3)]) (.call ac [(.var 0),(.int 4)])))),.for_ (.name 6) (.val (.var 5)) [.ifs (.and (.cmp .eq (.call ac [(.var 0),(.int 2)]) (.int 0)) (.cmp .gt (.ix (.var 2) (.int 0)) (.int 0))) [.setI (.bin .add (.sl (.ix (.var 3) (.var 6)) none (some (.int 6))) (.tup [(.bin .add (.int 1) (.call ac [(.var 0),(.ix (.var 2) (.int 0))]))])) (.var 3) (.var 6)] []],.asg (.name 7) .non,.ifs (.cmp .eq (.call ac [(.var 0),(.int 2)]) (.int 0)) [.asg (.name 7) (.tup [(.call ac [(.var 0),(.len (.ix (.var 2) (.int 2)))]),(.call ac [(.var 0),(.int 20)])])] [],.ret (.tup [(.var 2),(.var 7),(.tupOf (.var 3)),(.tupOf (.var 5))])]
noncomputable def lV:List CS:=[.asg (.name 1) (.lst [.non,(.bl true),(.bl false),(.neg (.int 1)),(.bin .pow (.int 10) (.int 30)),(.str ""),(.str "a"),(.str "1"),(.tup []),(.lst []),.dic0,(.lst [(.tup [])]),(.tup [(.tup [])]),(.tup [(.int 0)]),(.lst [(.int 0)]),(.dic1 0 1),(.tup [(.bl true),(.bl true)])]),.ret (.ix (.var 1) (.call ac [(.var 0),(.len (.var 1))]))]
noncomputable def gn:List CS:=[.ifs (.not (.inst .tuple (.var 1))) [.ifs (.and (.call eZ [(.var 1)]) (.cmp .gt (.call ac [(.var 0),(.int 3)]) (.int 0))) [.ret (.bin .add (.var 1) (.ix (.lst [(.int 1),(.neg (.int 1)),(.int 9),(.int 100),(.int 9999),(.neg (.bin .pow (.int 10) (.int 4)))]) (.call ac [(.var 0),(.int 6)])))] [],.ret (.call cE [(.var 0)])] [],.asg (.name 2) (.call ac [(.var 0),(.int 12)]),.ifs (.or (.cmp .eq (.var 2) (.int 0)) (.cmp .eq (.var 1) (.tup []))) [.ret (.ix (.lst [(.call cE [(.var 0)]),(.listOf (.var 1)),(.bin .add (.var 1) (.tup [(.call cE [(.var 0)])])),(.bin .add (.var 1) (.sl (.var 1) (some (.neg (.int 1))) none))]) (.call ac [(.var 0),(.int 4)]))] [],.asg (.name 3) (.call ac [(.var 0),(.len (.var 1))]),.ifs (.cmp .eq (.var 2) (.int 1)) [.ret (.bin .add (.sl (.var 1) none (some (.var 3))) (.sl (.var 1) (some (.bin .add (.var 3) (.int 1))) none))] [],.ifs (.cmp .eq (.var 2) (.int 2)) [.ret (.bin .add (.bin .add (.sl (.var 1) none (some (.var 3))) (.sl (.var 1) (some (.var 3)) (some (.bin .add (.var 3) (.int 1))))) (.sl (.var 1) (some (.var 3)) none))] [],.ret (.bin .add (.bin .add (.sl (.var 1) none (some (.var 3))) (.tup [(.call dW [(.var 0),(.ix (.var 1) (.var 3))])])) (.sl (.var 1) (some (.bin .add (.var 3) (.int 1))) none))]
noncomputable def eJ:List CS:=[.ifs (.or (.not (.inst .tuple (.var 0))) (.cmp .ne (.len (.var 0)) (.int 4))) [.ret (.bl false)] [],.asg (.tup [(.name 1),(.name 2),(.name 3),(.name 4)]) (.var 0),.ifs (.or (.not (.call aL [(.var 1),(.int 0),(.int 8)])) (.not (.call aL [(.var 2),(.int 0),(.int 60)]))) [.ret (.bl false)] [],.ifs (.or (.not (.inst .tuple (.var 3))) (.or (.not (.chn .le .le (.int 1) (.len (.var 3)) (.int 4))) (.or (.not (.inst .tuple (.var 4))) (.cmp .gt (.len (.var 4)) (.int 4))))) [.ret (.bl false)] [],.for_ (.name 5) (.val (.var 3)) [.ifs (.or (.not (.inst .tuple (.var 5))) (.or (.cmp .ne (.len (.var 5)) (.len (.var 3))) (.not (.all (.comp ["_law_gap"] (.call aL [(.var 10),(.int 1),(.int 99)]) [⟨(.name 10),(.val (.var 5)),none⟩]))))) [.ret (.bl false)] []],.for_ (.name 5) (.val (.var 3)) [.for_ (.tup [(.name 6),(.name 7)]) (.en (.var 5)) [.ifs (.cmp .ne (.comp ["_law_b", "_law_gap"] (.var 10) [⟨(.tup [(.name 10),(.name 11)]),(.en (.var 5)),some (.cmp .gt (.var 11) (.bin .add (.var 7) (.ix (.ix (.var 3) (.var 6)) (.var 10))))⟩]) (.lst [])) [.ret (.bl false)] []]],.asg (.name 8) (.neg (.int 1)),.for_ (.name 9) (.val (.var 4)) [.ifs (.or (.not (.inst .tuple (.var 9))) (.or (.cmp .ne (.len (.var 9)) (.int 2)) (.not (.all (.comp ["_law_end"] (.call aL [(.var 10),(.int 0),(.int 9999)]) [⟨(.name 10),(.val (.var 9)),none⟩]))))) [.ret (.bl false)] [],.ifs (.or (.cmp .ge (.ix (.var 9) (.int 0)) (.ix (.var 9) (.int 1))) (.cmp .le (.ix (.var 9) (.int 0)) (.var 8))) [.ret (.bl false)] [],.asg (.name 8) (.ix (.var 9) (.int 1))],.ret (.bl true)]
noncomputable def eK:List CS:=[.ifs (.or (.not (.inst .tuple (.var 0))) (.or (.cmp .ne (.len (.var 0)) (.int 7)) (.not (.call aL [(.ix (.var 0) (.int 0)),(.int 0),(.bin .sub (.len (.ix (.var 1) (.int 2))) (.int 1))])))) [.ret (.bl false)] [],.for_ (.name 2) (.val (.sl (.var 0) (some (.int 1)) (some (.int 5)))) [.ifs (.not (.call aL [(.var 2),(.int 0),(.int 9999)])) [.ret (.bl false)] []],.ifs (.or (.not (.call aL [(.ix (.var 0) (.int 5)),(.int 0),(.int 99)])) (.not (.call aL [(.ix (.var 0) (.int 6)),(.int 0),(.ix (.var 1) (.int 0))]))) [.ret (.bl false)] [],.ret (.and (.cmp .ge (.ix (.var 0) (.int 2)) (.bin .add (.ix (.var 0) (.int 1)) (.ix (.var 1) (.int 1)))) (.cmp .ge (.ix (.var 0) (.int 3)) (.ix (.var 0) (.int 2))))]
noncomputable def cy:List CS:=[.ifs (.or (.not (.inst .tuple (.var 0))) (.or (.cmp .ne (.len (.var 0)) (.int 4)) (.not (.call eG [(.ix (.var 0) (.int 0))])))) [.ret (.bl false)] [],.asg (.tup [(.name 1),(.name 2),(.name 3),(.name 4)]) (.var 0),.ifs (.cmp .isnot (.var 2) .non) [.ifs (.or (.not (.inst .tuple (.var 2))) (.or (.cmp .ne (.len (.var 2)) (.int 2)) (.not (.call aL [(.ix (.var 2) (.int 0)),(.int 0),(.bin .sub (.len (.ix (.var 1) (.int 2))) (.int 1))])))) [.ret (.bl false)] [],.ifs (.not (.call aL [(.ix (.var 2) (.int 1)),(.int 0),(.int 9999)])) [.ret (.bl false)] []] [],.ifs (.or (.not (.inst .tuple (.var 3))) (.or (.cmp .gt (.len (.var 3)) (.int 7)) (.not (.inst .tuple (.var 4))))) [.ret (.bl false)] [],.for_ (.name 5) (.val (.var 3)) [.ifs (.not (.call eI [(.var 5),(.var 1)])) [.ret (.bl false)] []],.for_ (.tup [(.name 6),(.name 7)]) (.en (.var 4)) [.ifs (.or (.not (.call aL [(.var 7),(.int 0),(.bin .sub (.len (.var 3)) (.int 1))])) (.cmp .isin (.var 7) (.sl (.var 4) none (some (.var 6))))) [.ret (.bl false)] []],.ret (.cmp .eq (.comp ["_law_g", "_law_glider_here"] (.var 8) [⟨(.tup [(.name 8),(.name 9)]),(.en (.var 3)),some (.and (.cmp .gt (.ix (.var 9) (.int 6)) (.int 0)) (.cmp .notin (.var 8) (.var 4)))⟩]) (.lst []))]
noncomputable def cz:List CS:=[.asg (.tup [(.name 2),(.name 3),(.name 4),(.name 5)]) (.var 1),.asg (.name 6) (.call ac [(.var 0),(.int 8)]),.ifs (.and (.cmp .eq (.var 6) (.int 0)) (.cmp .ne (.var 4) (.tup []))) [.ret (.tup [(.var 2),(.var 3),(.var 4),(.bin .add (.var 5) (.tup [(.call ac [(.var 0),(.len (.var 4))])]))])] [],.ifs (.and (.cmp .eq (.var 6) (.int 1)) (.cmp .ne (.var 5) (.tup []))) [.asg (.name 7) (.call ac [(.var 0),(.len (.var 5))]),.ret (.tup [(.var 2),(.var 3),(.var 4),(.bin .add (.sl (.var 5) none (some (.var 7))) (.sl (.var 5) (some (.bin .add (.var 7) (.int 1))) none))])] [],.ifs (.and (.cmp .eq (.var 6) (.int 2)) (.cmp .ne (.var 4) (.tup []))) [.asg (.name 8) (.call ac [(.var 0),(.len (.var 4))]),.asg (.name 9) (.ix (.var 4) (.var 8)),.asg (.name 10) (.lst [(.bin .add (.bin .add (.sl (.var 9) none (some (.int 2))) (.tup [(.bin .sub (.bin .add (.ix (.var 9) (.int 1)) (.ix (.var 2) (.int 1))) (.int 1))])) (.sl (.var 9) (some (.int 3)) none)),(.bin .add (.bin .add (.sl (.var 9) none (some (.int 3))) (.tup [(.bin .sub (.ix (.var 9) (.int 2)) (.int 1))])) (.sl (.var 9) (some (.int 4)) none))]),.ex (.app (.var 10) (.bin .add (.sl (.var 9) none (some (.int 6))) (.tup [(.bin .add (.ix (.var 2) (.int 0)) (.int 1))]))),.ret (.tup [(.var 2),(.var 3),(.bin .add (.bin .add (.sl (.var 4) none (some (.var 8))) (.tup [(.ix (.var 10) (.call ac [(.var 0),(.int 3)]))])) (.sl (.var 4) (some (.bin .add (.var 8) (.int 1))) none)),(.var 5)])] [],.ifs (.and (.cmp .eq (.var 6) (.int 3)) (.cmp .ne (.var 4) (.tup []))) [.ret (.tup [(.var 2),(.var 3),(.sl (.bin .mul (.var 4) (.int 8)) none (some (.bin .add (.int 7) (.call ac [(.var 0),(.int 2)])))),(.var 5)])] [],.asg (.name 11) (.var 1),.for_ (.name 12) (.r1 (.bin .add (.int 1) (.call ac [(.var 0),(.int 3)]))) [.asg (.name 11) (.call dW [(.var 0),(.var 11)])],.ret (.var 11)]
noncomputable def C8:List CS:=[.for_ (.name 1) (.r1 (.mx (.int 1) (.mn (.len (.var 0)) (.int 20)))) [.asg (.name 2) (.call lP [(.call fZ [(.var 0),(.var 1)])]),.asg (.name 3) (.call lQ [(.var 2),(.int 7)]),.ifs (.cmp .isnot (.call kB [(.var 3)]) (.bl true)) [.ret (.bl false)] [],.for_ (.name 4) (.val (.lst [(.call cx [(.var 2),(.var 3)]),(.call cx [(.var 2),(.var 3)]),(.call cx [(.var 2),(.var 3)]),(.call cE [(.var 2)])])) [.asg (.name 5) (.rep (.var 4)),.ifs (.or (.cmp .ne (.rep (.call kB [(.var 4)])) (.rep (.call hV [(.var 4)]))) (.cmp .ne (.rep (.var 4)) (.var 5))) [.ret (.bl false)] []]],.ret (.bl true)]
noncomputable def gp:DefE:=⟨"is_whole", top 2,["thing"],["thing"],kE⟩
noncomputable def e9:DefE:=⟨"is_within", top 3,["thing", "least", "most"],["thing", "least", "most"],jg⟩
noncomputable def fc:DefE:=⟨"is_minute", top 4,["thing"],["thing"],jh⟩
noncomputable def gq:DefE:=⟨"is_tuple", top 5,["thing", "least", "most"],["thing", "least", "most"],kF⟩
noncomputable def dX:DefE:=⟨"are_unlike", top 6,["thing", "many"],["thing", "many"],hX⟩
noncomputable def fe:DefE:=⟨"is_meadow", top 13,["thing", "rings", "sink", "gaps", "shuts"],["thing"],ji⟩
noncomputable def gr:DefE:=⟨"are_gaps", top 14,["thing"],["thing"],kG⟩
noncomputable def dY:DefE:=⟨"is_gap_row", top 15,["thing", "many"],["thing", "many"],hY⟩
noncomputable def bf:DefE:=⟨"no_glider_between_helps", top 16,["gaps", "kinds"],["gaps"],bL⟩
noncomputable def fg:DefE:=⟨"are_shuts", top 17,["thing"],["thing"],jj⟩
noncomputable def dZ:DefE:=⟨"is_stretch", top 18,["thing"],["thing"],hZ⟩
noncomputable def iR:DefE:=⟨"is_kind", top 19,["meadow", "thing"],["meadow", "thing"],lR⟩
noncomputable def kJ:DefE:=⟨"is_sky", top 23,["thing", "meadow", "ahead", "gliders", "fixed"],["thing"],pC⟩
noncomputable def gu:DefE:=⟨"is_ahead", top 24,["meadow", "thing"],["meadow", "thing"],kH⟩
noncomputable def c9:DefE:=⟨"are_gliders", top 25,["meadow", "thing"],["meadow", "thing"],f7⟩
noncomputable def fh:DefE:=⟨"is_glider", top 26,["meadow", "thing", "kind", "joins", "first", "last", "due", "weight", "ring"],["meadow", "thing"],jk⟩
noncomputable def fi:DefE:=⟨"are_fixed", top 27,["gliders", "thing"],["gliders", "thing"],jl⟩
noncomputable def dh:DefE:=⟨"_law_cell_at", top 29,["_law_script", "_law_k"],["_law_script", "_law_k"],f8⟩
noncomputable def iS:DefE:=⟨"_law_pot", top 30,["_law_cell", "_law_number", "_law_j", "_law_more"],["_law_cell"],lU⟩
noncomputable def gw:DefE:=⟨"_law_take", top 31,["_law_pot_here", "_law_far", "_law_found"],["_law_pot_here", "_law_far"],kI⟩
noncomputable def fj:DefE:=⟨"_law_whole", top 32,["_law_thing"],["_law_thing"],jm⟩
noncomputable def ek:DefE:=⟨"_law_within", top 33,["_law_thing", "_law_low", "_law_high"],["_law_thing", "_law_low", "_law_high"],ia⟩
noncomputable def gy:DefE:=⟨"_law_gaps", top 34,["_law_pot_here", "_law_many", "_law_rows", "_law_c"],["_law_pot_here"],cL⟩
noncomputable def fk:DefE:=⟨"_law_shuts", top 35,["_law_pot_here", "_law_now", "_law_found", "_law_begin", "_law_turn"],["_law_pot_here", "_law_now"],jn⟩
noncomputable def eu:DefE:=⟨"_law_meadow", top 36,["_law_pot_here", "_law_rings"],["_law_pot_here"],ic⟩
noncomputable def ez:DefE:=⟨"_law_glider", top 37,["_law_pot_here", "_law_meadow_here", "_law_joins", "_law_first", "_law_last", "_law_due"],["_law_pot_here", "_law_meadow_here"],ig⟩
noncomputable def fo:DefE:=⟨"_law_mixed", top 38,["_law_pot_here", "_law_some", "_law_left"],["_law_pot_here", "_law_some"],jo⟩
noncomputable def iT:DefE:=⟨"_law_sky", top 39,["_law_pot_here", "_law_most", "_law_meadow_here", "_law_gliders", "_law_numbers", "_law_fixed", "_law_g", "_law_ahead"],["_law_pot_here", "_law_most"],fO⟩
noncomputable def iU:DefE:=⟨"_law_odd", top 40,["_law_pot_here", "_law_some"],["_law_pot_here"],lV⟩
noncomputable def cM:DefE:=⟨"_law_bent", top 41,["_law_pot_here", "_law_thing", "_law_way", "_law_at"],["_law_pot_here", "_law_thing"],gn⟩
noncomputable def cp:DefE:=⟨"_law_is_meadow", top 42,["_law_thing", "_law_rings", "_law_sink", "_law_gaps_here", "_law_shuts_here", "_law_row", "_law_c", "_law_first", "_law_behind", "_law_one"],["_law_thing"],eJ⟩
noncomputable def cq:DefE:=⟨"_law_is_glider", top 43,["_law_thing", "_law_meadow_here", "_law_minute"],["_law_thing", "_law_meadow_here"],eK⟩
noncomputable def eA:DefE:=⟨"_law_is_sky", top 44,["_law_thing", "_law_meadow_here", "_law_ahead", "_law_gliders", "_law_fixed", "_law_glider_here", "_law_k", "_law_g"],["_law_thing"],cy⟩
noncomputable def eB:DefE:=⟨"_law_spoilt", top 45,["_law_pot_here", "_law_sky_here", "_law_meadow_here", "_law_ahead", "_law_gliders", "_law_fixed", "_law_way", "_law_k", "_law_g", "_law_glider_here", "_law_some", "_law_found", "_law_turn"],["_law_pot_here", "_law_sky_here"],cz⟩
noncomputable def sL:DefE:=⟨"law", top 46,["_law_script", "_law_k", "_law_pot_here", "_law_sky_here", "_law_thing", "_law_kept"],["_law_script"],C8⟩
noncomputable def ak:List DefE:=[gp,e9,fc,gq,dX,fe,gr,dY,bf,fg,dZ,iR,kJ,gu,c9,fh,fi,dh,iS,gw,fj,ek,gy,fk,eu,ez,fo,iT,iU,cM,cp,cq,eA,eB,sL]
noncomputable def con:List (Str × Int):=[("LAST_MINUTE", 9999),("MOST_RINGS", 8),("MOST_SINK", 60),("MOST_KINDS", 4),("MOST_GAP", 99),("MOST_SHUTS", 4),("MOST_GLIDERS", 7),("MOST_WEIGHT", 99)]
end Lw
section
namespace Lw
open PySem Ev
theorem chk:ak.all (AQ (sG con ak))=true:=by kernel_rfl
theorem us1:∀ {us:List Value},us.length=1->∃ a0,us=[a0]
 | [a0],_=>⟨a0,rfl⟩
theorem us2:∀ {us:List Value},us.length=2->∃ a0 a1,us=[a0,a1]
 | [a0,a1],_=>⟨a0,a1,rfl⟩
theorem us3:∀ {us:List Value},us.length=3->∃ a0 a1 a2,us=[a0,a1,a2]
 | [a0,a1,a2],_=>⟨a0,a1,a2,rfl⟩
theorem bind:uL ak:=
 ⟨fun _ _ _ _ _ _ us hl=>by obtain ⟨_,rfl⟩:=us1 hl;rfl,
  fun _ _ _ _ _ _ us hl=>by obtain ⟨_,_,_,rfl⟩:=us3 hl;rfl,
  fun _ _ _ _ _ _ us hl=>by obtain ⟨_,rfl⟩:=us1 hl;rfl,
  fun _ _ _ _ _ _ us hl=>by obtain ⟨_,_,_,rfl⟩:=us3 hl;rfl,
  fun _ _ _ _ _ _ us hl=>by obtain ⟨_,_,rfl⟩:=us2 hl;rfl,
  fun _ _ _ _ _ _ us hl=>by obtain ⟨_,rfl⟩:=us1 hl;rfl,
  fun _ _ _ _ _ _ us hl=>by obtain ⟨_,rfl⟩:=us1 hl;rfl,
  fun _ _ _ _ _ _ us hl=>by obtain ⟨_,_,rfl⟩:=us2 hl;rfl,
  fun _ _ _ _ _ _ us hl=>by obtain ⟨_,rfl⟩:=us1 hl;rfl,
  fun _ _ _ _ _ _ us hl=>by obtain ⟨_,rfl⟩:=us1 hl;rfl,
  fun _ _ _ _ _ _ us hl=>by obtain ⟨_,rfl⟩:=us1 hl;rfl,
  fun _ _ _ _ _ _ us hl=>by obtain ⟨_,_,rfl⟩:=us2 hl;rfl,
  fun _ _ _ _ _ _ us hl=>by obtain ⟨_,rfl⟩:=us1 hl;rfl,
  fun _ _ _ _ _ _ us hl=>by obtain ⟨_,_,rfl⟩:=us2 hl;rfl,
  fun _ _ _ _ _ _ us hl=>by obtain ⟨_,_,rfl⟩:=us2 hl;rfl,
  fun _ _ _ _ _ _ us hl=>by obtain ⟨_,_,rfl⟩:=us2 hl;rfl,
  fun _ _ _ _ _ _ us hl=>by obtain ⟨_,_,rfl⟩:=us2 hl;rfl,
  fun _ _ _ _ _ _ us hl=>by obtain ⟨_,_,rfl⟩:=us2 hl;rfl,
  fun _ _ _ _ _ _ us hl=>by obtain ⟨_,rfl⟩:=us1 hl;rfl,
  fun _ _ _ _ _ _ us hl=>by obtain ⟨_,_,rfl⟩:=us2 hl;rfl,
  fun _ _ _ _ _ _ us hl=>by obtain ⟨_,rfl⟩:=us1 hl;rfl,
  fun _ _ _ _ _ _ us hl=>by obtain ⟨_,_,_,rfl⟩:=us3 hl;rfl,
  fun _ _ _ _ _ _ us hl=>by obtain ⟨_,rfl⟩:=us1 hl;rfl,
  fun _ _ _ _ _ _ us hl=>by obtain ⟨_,_,rfl⟩:=us2 hl;rfl,
  fun _ _ _ _ _ _ us hl=>by obtain ⟨_,rfl⟩:=us1 hl;rfl,
  fun _ _ _ _ _ _ us hl=>by obtain ⟨_,_,rfl⟩:=us2 hl;rfl,
  fun _ _ _ _ _ _ us hl=>by obtain ⟨_,_,rfl⟩:=us2 hl;rfl,
  fun _ _ _ _ _ _ us hl=>by obtain ⟨_,_,rfl⟩:=us2 hl;rfl,
  fun _ _ _ _ _ _ us hl=>by obtain ⟨_,rfl⟩:=us1 hl;rfl,
  fun _ _ _ _ _ _ us hl=>by obtain ⟨_,_,rfl⟩:=us2 hl;rfl,
  fun _ _ _ _ _ _ us hl=>by obtain ⟨_,rfl⟩:=us1 hl;rfl,
  fun _ _ _ _ _ _ us hl=>by obtain ⟨_,_,rfl⟩:=us2 hl;rfl,
  fun _ _ _ _ _ _ us hl=>by obtain ⟨_,rfl⟩:=us1 hl;rfl,
  fun _ _ _ _ _ _ us hl=>by obtain ⟨_,_,rfl⟩:=us2 hl;rfl,
  fun _ _ _ _ _ _ us hl=>by obtain ⟨_,rfl⟩:=us1 hl;rfl,trivial⟩
end Lw
open PySem PySem.W PyProof.Rows
noncomputable abbrev Lw.view:Program:={ PySem.Challenge.pw_downrings_k03_skies_looked_at with main:={ PySem.Challenge.pw_downrings_k03_skies_looked_at.main with body:=[Lw.top 46] } }
noncomputable abbrev Lw.loose:List PySem.Str:=[Str.ofString "is_whole", Str.ofString "is_within", Str.ofString "is_minute", Str.ofString "is_tuple", Str.ofString "are_unlike", Str.ofString "is_meadow", Str.ofString "are_gaps", Str.ofString "is_gap_row", Str.ofString "no_glider_between_helps", Str.ofString "are_shuts", Str.ofString "is_stretch", Str.ofString "is_kind", Str.ofString "is_sky", Str.ofString "is_ahead", Str.ofString "are_gliders", Str.ofString "is_glider", Str.ofString "are_fixed", Str.ofString "_law_cell_at", Str.ofString "_law_pot", Str.ofString "_law_take", Str.ofString "_law_whole", Str.ofString "_law_within", Str.ofString "_law_gaps", Str.ofString "_law_shuts", Str.ofString "_law_meadow", Str.ofString "_law_glider", Str.ofString "_law_mixed", Str.ofString "_law_sky", Str.ofString "_law_odd", Str.ofString "_law_bent", Str.ofString "_law_is_meadow", Str.ofString "_law_is_glider", Str.ofString "_law_is_sky", Str.ofString "_law_spoilt", Str.ofString "LAST_MINUTE", Str.ofString "MOST_RINGS", Str.ofString "MOST_SINK", Str.ofString "MOST_KINDS", Str.ofString "MOST_GAP", Str.ofString "MOST_SHUTS", Str.ofString "MOST_GLIDERS", Str.ofString "MOST_WEIGHT"]
set_option maxHeartbeats 0 in
theorem Lw.head (hmain:∀ ns:List Int,ns.length<=63->∃ S',Ev.evC Lw.ak 40 Lw.sK [.ref 0] [.frz (ns.map Ev.D.int)]=some (.bl true,S')):PySem.Challenge.rw_downrings_k03_skies_looked_at.Holds:=by
 w_on;refine holds_law (by kernel_rfl) fun said=>?_
 refine holds_open (q:=Lw.view) (loose:=Lw.loose) (Xt:=fun s=>xlAt Lw.view [] s && recOk (RowW.records PySem.Challenge.rw_downrings_k03_skies_looked_at.row.toRowW) s) (XP:=XL Lw.view []) (Yf:=Hook.obs (Ev.ny Lw.con Lw.ak Lw.bind)) (Ya:=Hook.val (Ev.ny Lw.con Lw.ak Lw.bind)) (YP:=Hook.says (Ev.ny Lw.con Lw.ak Lw.bind)) (N:=4000) ?hl (Hook.of _) (Hook.keeps _) (fun s e=>xl_of s (Bool.and_eq_true_iff.mp e).1) XL.keeps (by rfl) (by rfl) (by rfl) (fun s e=>recFacts_of (Bool.and_eq_true_iff.mp e).2) (by rfl) (by first | assumption | decide +kernel) (by decide +kernel) ⟨rfl,rfl,rfl,rfl,rfl,by decide +kernel⟩ ?hw ?hc
 case hw=>w_witness2
 case hl=>exact fun w=>by kernel_rfl
 case hc=>exact Ev.AV (l:=PySem.Challenge.rw_downrings_k03_skies_looked_at) (n:=63) (k:=40) (i:=Lw.sK) (dl:=Lw.sL) rfl (by decide) rfl ⟨rfl,by decide,by decide,rfl⟩ rfl rfl rfl Lw.chk hmain
end
namespace Ev
open PySem PySem.Spec PyProof.Rows L2
noncomputable def Ok {α:Type} (x:Option (α × Sto)) (Q:α->Sto->Prop):Prop:=∃ a S,x=some (a,S)/\Q a S
noncomputable def OkS (x:Option (Fl × Rho × Sto)) (Q:Fl->Rho->Sto->Prop):Prop:=∃ f ρ S,x=some (f,ρ,S)/\Q f ρ S
section
variable {α β:Type} {S S':Sto} {ρ ρ':Rho}
theorem ad {a:α} {Q:α->Sto->Prop}:Ok (some (a,S)) Q=Q a S:=by
 apply propext
 exact ⟨fun ⟨_,_,e,q⟩=>by cases e;exact q,fun q=>⟨a,S,rfl,q⟩⟩
theorem a9 {Q:α->Sto->Prop}:Ok none Q=False:=propext ⟨fun ⟨_,_,e,_⟩=>(nomatch e),fun h=>h.elim⟩
theorem bI {x:Option (α × Sto)} {f:α->Sto->Option (β × Sto)} {Q:β->Sto->Prop}:Ok (bnd x f) Q=Ok x fun a S=>Ok (f a S) Q:=by
 apply propext
 constructor
 ·rintro ⟨b,S',e,q⟩
  obtain ⟨a,S,e1,e2⟩:=aa e
  exact ⟨a,S,e1,b,S',e2,q⟩
 ·rintro ⟨a,S,e1,b,S',e2,q⟩
  exact ⟨b,S',by rw [e1];exact e2,q⟩
theorem cN {c:Prop} [Decidable c] {x y:Option (α × Sto)} {Q:α->Sto->Prop}:Ok (if c then x else y) Q=if c then Ok x Q else Ok y Q:=by split <;> rfl
theorem FF {x:Option β} {f:β->α × Sto} {Q:α->Sto->Prop}:Ok (x.map f) Q=∃ b,x=some b/\Q (f b).1 (f b).2:=by
 apply propext
 cases x with
 | none=>exact ⟨fun ⟨_,_,e,_⟩=>(nomatch e),fun ⟨_,e,_⟩=>(nomatch e)⟩
 | some b=>exact ⟨fun ⟨a,S,e,q⟩=>⟨b,rfl,by have e':=Option.some.inj e;rw [e'];exact q⟩,fun ⟨b',e,q⟩=>by cases e;exact ⟨_,_,rfl,q⟩⟩
theorem Ok.mono {x:Option (α × Sto)} {Q Q':α->Sto->Prop} (h:Ok x Q) (f:∀ a S,Q a S->Q' a S):Ok x Q':=let ⟨a,S,e,q⟩:=h;⟨a,S,e,f a S q⟩
theorem OkS.mono {x:Option (Fl × Rho × Sto)} {Q Q':Fl->Rho->Sto->Prop} (h:OkS x Q) (f:∀ a ρ S,Q a ρ S->Q' a ρ S):OkS x Q':=let ⟨a,ρ,S,e,q⟩:=h;⟨a,ρ,S,e,f a ρ S q⟩
noncomputable def nxt (y:XS) (Q:Fl->Rho->Sto->Prop) (f:Fl) (ρ:Rho) (S:Sto):Prop:=match f with
 | .nx=>OkS (y ρ S) Q
 | f=>Q f ρ S
theorem AW {x y:XS} {Q:Fl->Rho->Sto->Prop}:OkS (w4 x y ρ S) Q=OkS (x ρ S) (nxt y Q):=by
 apply propext
 unfold w4
 constructor
 ·rintro ⟨f,ρ1,S1,e,q⟩
  split at e
  ·cases e
  ·rename_i ρ2 S2 h;exact ⟨_,_,_,h,f,ρ1,S1,e,q⟩
  ·rename_i r n h
   cases e
   cases f with
   | nx=>exact absurd rfl (n ρ1 S1)
   | _=>exact ⟨_,_,_,h,q⟩
 ·rintro ⟨f,ρ1,S1,e,q⟩
  rw [e]
  cases f with
  | nx=>exact q
  | _=>exact ⟨_,_,_,rfl,q⟩
theorem FG {c:XT} {x y:XS} {Q:Fl->Rho->Sto->Prop}:OkS (xIf c x y ρ S) Q=Ok (c ρ S) fun b S1=>if b=true then OkS (x ρ S1) Q else OkS (y ρ S1) Q:=by
 apply propext
 unfold xIf
 constructor
 ·rintro ⟨f,ρ1,S1,e,q⟩
  cases h:c ρ S with
  | none=>rw [h] at e;cases e
  | some r=>
   obtain ⟨b,S2⟩:=r
   rw [h] at e
   refine ⟨b,S2,rfl,?_⟩
   dsimp only at e ⊢
   split
   ·rename_i hb;rw [if_pos hb] at e;exact ⟨f,ρ1,S1,e,q⟩
   ·rename_i hb;rw [if_neg hb] at e;exact ⟨f,ρ1,S1,e,q⟩
 ·rintro ⟨b,S2,e,q⟩
  rw [e]
  dsimp only
  split
  ·rename_i hb;rw [if_pos hb] at q;exact q
  ·rename_i hb;rw [if_neg hb] at q;exact q
theorem AX {x:XE} {t:Tg} {Q:Fl->Rho->Sto->Prop}:OkS (ki x t ρ S) Q=Ok (x ρ S) fun d S1=>∃ ρ1,aB t d ρ=some ρ1/\Q .nx ρ1 S1:=by
 apply propext
 unfold ki
 constructor
 ·rintro ⟨f,ρ1,S1,e,q⟩
  cases h:x ρ S with
  | none=>rw [h] at e;cases e
  | some r=>
   obtain ⟨d,S2⟩:=r
   rw [h] at e
   dsimp only at e
   cases h2:aB t d ρ with
   | none=>rw [h2] at e;cases e
   | some ρ2=>rw [h2] at e;cases e;exact ⟨d,_,rfl,ρ1,h2,q⟩
 ·rintro ⟨d,S2,e,ρ1,e2,q⟩
  rw [e]
  dsimp only
  rw [e2]
  exact ⟨_,_,_,rfl,q⟩
theorem xY {x:XE} {Q:Fl->Rho->Sto->Prop}:OkS (oZ x ρ S) Q=Ok (x ρ S) fun _ S1=>Q .nx ρ S1:=by
 apply propext
 unfold oZ
 constructor
 ·rintro ⟨f,ρ1,S1,e,q⟩
  cases h:x ρ S with
  | none=>rw [h] at e;cases e
  | some r=>rw [h] at e;cases e;exact ⟨_,_,rfl,q⟩
 ·rintro ⟨d,S2,e,q⟩
  rw [e];exact ⟨_,_,_,rfl,q⟩
theorem AY {x:XE} {Q:Fl->Rho->Sto->Prop}:OkS (w6 x ρ S) Q=Ok (x ρ S) fun d S1=>Q (.rt d) ρ S1:=by
 apply propext
 unfold w6
 constructor
 ·rintro ⟨f,ρ1,S1,e,q⟩
  cases h:x ρ S with
  | none=>rw [h] at e;cases e
  | some r=>rw [h] at e;cases e;exact ⟨_,_,rfl,q⟩
 ·rintro ⟨d,S2,e,q⟩
  rw [e];exact ⟨_,_,_,rfl,q⟩
theorem xZ {v o i:XE} {Q:Fl->Rho->Sto->Prop}:OkS (o0 v o i ρ S) Q=Ok (v ρ S) fun a S1=>Ok (o ρ S1) fun b S2=>Ok (i ρ S2) fun c S3=>∃ S4,k7 b c a S3=some S4/\Q .nx ρ S4:=by
 apply propext
 unfold o0
 constructor
 ·rintro ⟨f,ρ1,S1,e,q⟩
  cases h:v ρ S with
  | none=>rw [h] at e;cases e
  | some r=>
   rw [h] at e
   dsimp only at e
   cases h2:o ρ r.2 with
   | none=>rw [h2] at e;cases e
   | some r2=>
    rw [h2] at e
    dsimp only at e
    cases h3:i ρ r2.2 with
    | none=>rw [h3] at e;cases e
    | some r3=>
     rw [h3] at e
     dsimp only at e
     cases h4:k7 r2.1 r3.1 r.1 r3.2 with
     | none=>rw [h4] at e;cases e
     | some S4=>rw [h4] at e;cases e;exact ⟨_,_,rfl,_,_,h2,_,_,h3,_,h4,q⟩
 ·rintro ⟨a,S1,e1,b,S2,e2,c,S3,e3,S4,e4,q⟩
  rw [e1];dsimp only;rw [e2];dsimp only;rw [e3];dsimp only;rw [e4];exact ⟨_,_,_,rfl,q⟩
theorem AZ {it:XI} {tg:Tg} {b:XS} {k:Nat} {Q:Fl->Rho->Sto->Prop}:OkS (w8 it tg b k ρ S) Q=Ok (it ρ S) fun nx S1=>OkS (eM nx tg b k 0 ρ S1) Q:=by
 apply propext
 unfold w8
 constructor
 ·rintro ⟨f,ρ1,S1,e,q⟩
  cases h:it ρ S with
  | none=>rw [h] at e;cases e
  | some r=>rw [h] at e;exact ⟨_,_,rfl,_,_,_,e,q⟩
 ·rintro ⟨d,S2,e,q⟩
  rw [e];exact q
noncomputable def out (Q:D->Sto->Prop) (f:Fl) (_:Rho) (S:Sto):Prop:=match f with
 | .rt v=>Q v S
 | .nx=>Q .non S
 | _=>False
theorem FH {Q:D->Sto->Prop} {d:D}:out Q (.rt d) ρ S=Q d S:=rfl
theorem FI {Q:D->Sto->Prop}:out Q .nx ρ S=Q .non S:=rfl
theorem aS {ak:List DefE} {k f:Nat} {d:DefE} {ds:List D} {Q:D->Sto->Prop} (hd:ak[f]?=some d) (hρ:ds.map some++List.replicate (d.N.length - ds.length) none=ρ) (h:OkS (eO (evC ak k) (jv ak) 60 d.body ρ S) (out Q)):Ok (evC ak (k+1) f ds S) Q:=by
 subst hρ
 simp only [evC,hd,FC]
 obtain ⟨fl,ρ1,S1,e,q⟩:=h
 show Ok (match eO (evC ak k) (jv ak) FU d.body _ S with | some (.rt v,_,S')=>some (v,S') | some (.nx,_,S')=>some (.non,S') | _=>none) Q
 unfold FU
 rw [e]
 cases fl with
 | rt v=>exact ⟨_,_,rfl,q⟩
 | nx=>exact ⟨_,_,rfl,q⟩
 | bk=>exact q.elim
 | ct=>exact q.elim
theorem lW {nx:Nxt} {tg:Tg} {c:XA} {N:Nat} (I:Nat->List D->Sto->Prop)
  (step:∀ i acc S,i < N->I i acc S->∃ d ρ1,nx i S=some (some d)/\aB tg d ρ=some ρ1/\Ok (c ρ1 S) fun es S1=>I (i+1) (acc++es) S1) (stop:∀ acc S,I N acc S->nx N S=some none) :
  ∀ (n i k:Nat) (acc:List D) (S:Sto),N=i+n->n < k->I i acc S->Ok (bq nx tg c ρ k i S) fun es S'=>I N (acc++es) S'
 | 0,i,k+1,acc,S,hN,hk,h=>by
  obtain rfl:N=i:=by omega
  simp only [bq,stop acc S h]
  exact ⟨_,_,rfl,by show I _ (acc++[]) S;rw [List.append_nil];exact h⟩
 | n+1,i,k+1,acc,S,hN,hk,h=>by
  obtain ⟨d,ρ1,e1,e2,es,S1,e3,h'⟩:=step i acc S (by omega) h
  simp only [bq,e1,e2,e3,bnd]
  obtain ⟨rs,S2,e4,h2⟩:=lW I step stop n (i+1) k (acc++es) S1 (by omega) (by omega) h'
  simp only [e4]
  exact ⟨_,_,rfl,by show I _ (acc++(es++rs)) S2;rw [<-List.append_assoc];exact h2⟩
theorem cO {nx:Nxt} {tg:Tg} {c:XA} {k:Nat} (N:Nat) (I:Nat->List D->Sto->Prop) (hk:N < k)
  (step:∀ i acc S,i < N->I i acc S->∃ d ρ1,nx i S=some (some d)/\aB tg d ρ=some ρ1/\Ok (c ρ1 S) fun es S1=>I (i+1) (acc++es) S1) (stop:∀ acc S,I N acc S->nx N S=some none) (h:I 0 [] S) :
  Ok (bq nx tg c ρ k 0 S) (I N):=(lW I step stop N 0 k [] S (by omega) hk h).mono fun es S' z=>by rw [List.nil_append] at z;exact z
theorem kK {nx:Nxt} {tg:Tg} {b:XS} {N:Nat} {Q:Fl->Rho->Sto->Prop} (I:Nat->Rho->Sto->Prop)
  (step:∀ i ρ S,i < N->I i ρ S->∃ d ρ1,nx i S=some (some d)/\aB tg d ρ=some ρ1/\OkS (b ρ1 S) fun fl ρ2 S2=>match fl with | .nx=>I (i+1) ρ2 S2 | .ct=>I (i+1) ρ2 S2 | .bk=>Q .nx ρ2 S2 | .rt d=>Q (.rt d) ρ2 S2)
  (stop:∀ ρ S,I N ρ S->nx N S=some none/\Q .nx ρ S) :
  ∀ (n i k:Nat) (ρ:Rho) (S:Sto),N=i+n->n < k->I i ρ S->OkS (eM nx tg b k i ρ S) Q
 | 0,i,k+1,ρ,S,hN,hk,h=>by
  obtain rfl:N=i:=by omega
  simp only [eM,(stop ρ S h).1]
  exact ⟨_,_,_,rfl,(stop ρ S h).2⟩
 | n+1,i,k+1,ρ,S,hN,hk,h=>by
  obtain ⟨d,ρ1,e1,e2,fl,ρ2,S2,e3,h'⟩:=step i ρ S (by omega) h
  simp only [eM,e1,e2,e3]
  cases fl with
  | nx=>exact kK I step stop n (i+1) k ρ2 S2 (by omega) (by omega) h'
  | ct=>exact kK I step stop n (i+1) k ρ2 S2 (by omega) (by omega) h'
  | bk=>exact ⟨_,_,_,rfl,h'⟩
  | rt d=>exact ⟨_,_,_,rfl,h'⟩
theorem jH {nx:Nxt} {tg:Tg} {b:XS} {k:Nat} {Q:Fl->Rho->Sto->Prop} (N:Nat) (I:Nat->Rho->Sto->Prop) (hk:N < k)
  (step:∀ i ρ S,i < N->I i ρ S->∃ d ρ1,nx i S=some (some d)/\aB tg d ρ=some ρ1/\OkS (b ρ1 S) fun fl ρ2 S2=>match fl with | .nx=>I (i+1) ρ2 S2 | .ct=>I (i+1) ρ2 S2 | .bk=>Q .nx ρ2 S2 | .rt d=>Q (.rt d) ρ2 S2)
  (stop:∀ ρ S,I N ρ S->nx N S=some none/\Q .nx ρ S) (h:I 0 ρ S):OkS (eM nx tg b k 0 ρ S) Q:=kK I step stop N 0 k ρ S (by omega) hk h
end
mutual
noncomputable def TD (p:Nat) (S:Sto):Dw.D->D->Prop
 | .non,d=>d = .non
 | .bl b,d=>d = .bl b
 | .int i,d=>d = .int i
 | .str x,d=>d = .str x
 | .tup ts,d=>∃ ds,d = .tup ds/\TDs p S ts ds
 | .lst ts,d=>∃ n ds,d = .ref n/\n ≠ p/\S[n]?=some (.lst ds)/\TDs p S ts ds
 | .dic ks ts,d=>∃ n ds,d = .ref n/\n ≠ p/\S[n]?=some (.dic ks ds)/\TDs p S ts ds
noncomputable def TDs (p:Nat) (S:Sto):List Dw.D->List D->Prop
 | [],ds=>ds=[]
 | t::ts,ds=>∃ d r,ds=d::r/\TD p S t d/\TDs p S ts r
end
noncomputable def Kp (p:Nat) (S S':Sto):Prop:=∀ i o,i ≠ p->S[i]?=some o->S'[i]?=some o
noncomputable def Sm (S S':Sto):Prop:=∀ (i:Nat) (o:Ob),S[i]?=some o->S'[i]?=some o
theorem Sm.kp {p:Nat} {S S':Sto} (h:Sm S S'):Kp p S S':=fun i o _ e=>h i o e
theorem Sm.refl (S:Sto):Sm S S:=fun _ _ e=>e
theorem Sm.trans {S S1 S2:Sto} (a:Sm S S1) (b:Sm S1 S2):Sm S S2:=fun i o e=>b i o (a i o e)
theorem Sm.app (S X:Sto):Sm S (S++X):=fun i o e=>by
 have hi:=(List.getElem?_eq_some_iff.mp e).1
 rw [List.getElem?_append_left hi];exact e
theorem Kp.refl (p:Nat) (S:Sto):Kp p S S:=fun _ _ _ e=>e
theorem Kp.trans {p:Nat} {S S1 S2:Sto} (a:Kp p S S1) (b:Kp p S1 S2):Kp p S S2:=fun i o n e=>b i o n (a i o n e)
mutual
theorem TD.keep {p:Nat} {S S':Sto} (k:Kp p S S'):∀ {t:Dw.D} {d:D},TD p S t d->TD p S' t d
 | .non,_,h=>by rw [TD] at h ⊢;exact h
 | .bl _,_,h=>by rw [TD] at h ⊢;exact h
 | .int _,_,h=>by rw [TD] at h ⊢;exact h
 | .str _,_,h=>by rw [TD] at h ⊢;exact h
 | .tup ts,_,h=>by rw [TD] at h ⊢;obtain ⟨ds,e,q⟩:=h;exact ⟨ds,e,TDs.keep k q⟩
 | .lst ts,_,h=>by rw [TD] at h ⊢;obtain ⟨n,ds,e,ne,a,q⟩:=h;exact ⟨n,ds,e,ne,k _ _ ne a,TDs.keep k q⟩
 | .dic ks ts,_,h=>by rw [TD] at h ⊢;obtain ⟨n,ds,e,ne,a,q⟩:=h;exact ⟨n,ds,e,ne,k _ _ ne a,TDs.keep k q⟩
theorem TDs.keep {p:Nat} {S S':Sto} (k:Kp p S S'):∀ {ts:List Dw.D} {ds:List D},TDs p S ts ds->TDs p S' ts ds
 | [],_,h=>by rw [TDs] at h ⊢;exact h
 | t::ts,_,h=>by rw [TDs] at h ⊢;obtain ⟨d,r,e,a,q⟩:=h;exact ⟨d,r,e,TD.keep k a,TDs.keep k q⟩
end
section
variable {p:Nat} {S S':Sto}
theorem qS:TD p S .non .non:=by rw [TD]
theorem pD {b:Bool}:TD p S (.bl b) (.bl b):=by rw [TD]
theorem bR {i:Int}:TD p S (.int i) (.int i):=by rw [TD]
theorem qT {x:Str}:TD p S (.str x) (.str x):=by rw [TD]
theorem aR {ts:List Dw.D} {ds:List D} (h:TDs p S ts ds):TD p S (.tup ts) (.tup ds):=by rw [TD];exact ⟨ds,rfl,h⟩
theorem aw:TDs p S [] []:=by rw [TDs]
theorem ab {t:Dw.D} {d:D} {ts:List Dw.D} {ds:List D} (h:TD p S t d) (q:TDs p S ts ds):TDs p S (t::ts) (d::ds):=by rw [TDs];exact ⟨d,ds,rfl,h,q⟩
theorem TD.non {d:D} (h:TD p S .non d):d = .non:=by rw [TD] at h;exact h
theorem TD.bl {b:Bool} {d:D} (h:TD p S (.bl b) d):d = .bl b:=by rw [TD] at h;exact h
theorem TD.int {i:Int} {d:D} (h:TD p S (.int i) d):d = .int i:=by rw [TD] at h;exact h
theorem TD.str {x:Str} {d:D} (h:TD p S (.str x) d):d = .str x:=by rw [TD] at h;exact h
theorem TD.tup {ts:List Dw.D} {d:D} (h:TD p S (.tup ts) d):∃ ds,d = .tup ds/\TDs p S ts ds:=by rw [TD] at h;exact h
theorem TDs.cons {t:Dw.D} {ts:List Dw.D} {ds:List D} (h:TDs p S (t::ts) ds):∃ d r,ds=d::r/\TD p S t d/\TDs p S ts r:=by rw [TDs] at h;exact h
theorem TDs.nil {ds:List D} (h:TDs p S [] ds):ds=[]:=by rw [TDs] at h;exact h
theorem TDs.len:∀ {ts:List Dw.D} {ds:List D},TDs p S ts ds->ds.length=ts.length
 | [],_,h=>by rw [h.nil];rfl
 | t::ts,_,h=>by obtain ⟨d,r,rfl,_,q⟩:=h.cons;simp [q.len]
theorem TDs.get:∀ {ts:List Dw.D} {ds:List D} {i:Nat} {t:Dw.D},TDs p S ts ds->ts[i]?=some t->∃ d,ds[i]?=some d/\TD p S t d
 | [],_,_,_,_,e=>by simp at e
 | t::ts,_,0,_,h,e=>by obtain ⟨d,r,rfl,a,q⟩:=h.cons;simp at e;subst e;exact ⟨d,rfl,a⟩
 | t::ts,_,i+1,_,h,e=>by obtain ⟨d,r,rfl,a,q⟩:=h.cons;simp at e;obtain ⟨x,hx,y⟩:=q.get e;exact ⟨x,by simpa using hx,y⟩
theorem TDs.app:∀ {ts us:List Dw.D} {ds es:List D},TDs p S ts ds->TDs p S us es->TDs p S (ts++us) (ds++es)
 | [],_,_,_,h,q=>by rw [h.nil];exact q
 | t::ts,_,_,_,h,q=>by obtain ⟨d,r,rfl,a,z⟩:=h.cons;exact ab a (z.app q)
theorem TDs.drop:∀ {ts:List Dw.D} {ds:List D} (n:Nat),TDs p S ts ds->TDs p S (ts.drop n) (ds.drop n)
 | [],_,n,h=>by rw [h.nil];simp [aw]
 | t::ts,_,0,h=>by simpa using h
 | t::ts,_,n+1,h=>by obtain ⟨d,r,rfl,a,z⟩:=h.cons;simpa using z.drop n
theorem TDs.take:∀ {ts:List Dw.D} {ds:List D} (n:Nat),TDs p S ts ds->TDs p S (ts.take n) (ds.take n)
 | [],_,n,h=>by rw [h.nil];simp [aw]
 | t::ts,_,0,h=>by simp [aw]
 | t::ts,_,n+1,h=>by obtain ⟨d,r,rfl,a,z⟩:=h.cons;simpa using ab a (z.take n)
theorem TDs.cut {ts:List Dw.D} {ds:List D} (lo hi:Option Int) (h:TDs p S ts ds):TDs p S (Dw.aX ts lo hi) (aX ds lo hi):=by
 unfold Dw.aX aX
 rw [h.len]
 exact (h.drop _).take _
noncomputable def tyT:Dw.D->String
 | .non => "NoneType" | .bl _ => "bool" | .int _ => "int" | .str _ => "str" | .tup _ => "tuple" | .lst _ => "list" | .dic _ _ => "dict"
theorem JD {t:Dw.D} {d:D} (h:TD p S t d):tyN d S=some (tyT t):=by
 cases t with
 | non=>rw [h.non];rfl
 | bl _=>rw [h.bl];rfl
 | int _=>rw [h.int];rfl
 | str _=>rw [h.str];rfl
 | tup _=>obtain ⟨_,rfl,_⟩:=h.tup;rfl
 | lst _=>rw [TD] at h;obtain ⟨n,ds,rfl,_,e,_⟩:=h;simp only [tyN,e];rfl
 | dic _ _=>rw [TD] at h;obtain ⟨n,ds,rfl,_,e,_⟩:=h;simp only [tyN,e];rfl
theorem fP {ty:Ty} {t:Dw.D} {d:D} (h:TD p S t d):iZ ty d S=some (.bl (eU ty (tyT t)),S):=by
 unfold iZ;rw [JD h];rfl
end
end Ev
namespace Ev
open PySem PySem.Spec PyProof.Rows L2
theorem A0 {g:List D->Sto->Option (D × Sto)} {n:Nat} {x:XA} {ρ:Rho} {S:Sto} {Q:D->Sto->Prop}:Ok (o5 g n x ρ S) Q=Ok (x ρ S) fun ds S1=>ds.length=n/\Ok (g ds S1) Q:=by
 unfold o5
 rw [bI]
 congr 1
 funext ds S1
 rw [cN,a9]
 apply propext
 split
 ·rename_i h;exact ⟨fun z=>⟨h,z⟩,fun z=>z.2⟩
 ·rename_i h;exact ⟨fun z=>z.elim,fun z=>(h z.1).elim⟩
theorem FJ {x y:XE} {ρ:Rho} {S:Sto} {Q:D->Sto->Prop}:Ok (xg x y ρ S) Q=Ok (x ρ S) fun d S1=>∃ b,d = .bl b/\if b=true then Ok (y ρ S1) Q else Q (.bl false) S1:=by
 unfold xg
 rw [bI]
 congr 1
 funext d S1
 apply propext
 cases d with
 | bl b=>cases b <;> simp [ad]
 | _=>simp [a9]
theorem JE {x y:XE} {ρ:Rho} {S:Sto} {Q:D->Sto->Prop}:Ok (xOr x y ρ S) Q=Ok (x ρ S) fun d S1=>∃ b,d = .bl b/\if b=true then Q (.bl true) S1 else Ok (y ρ S1) Q:=by
 unfold xOr
 rw [bI]
 congr 1
 funext d S1
 apply propext
 cases d with
 | bl b=>cases b <;> simp [ad]
 | _=>simp [a9]
theorem FK {d:D} {S:Sto} {Q:D->Sto->Prop}:Ok (uA d S) Q=∃ b,d = .bl b/\Q (.bl (!b)) S:=by
 apply propext
 cases d with
 | bl b=>simp [uA,ad]
 | _=>simp [uA,a9]
theorem FL {f g:D->D->Sto->Option (D × Sto)} {x y z:XE} {ρ:Rho} {S:Sto} {Q:D->Sto->Prop}:Ok (uB f g x y z ρ S) Q=Ok (x ρ S) fun a S1=>Ok (y ρ S1) fun b S2=>Ok (f a b S2) fun r S3=>∃ c,r = .bl c/\if c=true then Ok (z ρ S3) fun e S4=>Ok (g b e S4) Q else Q (.bl false) S3:=by
 unfold uB
 rw [bI]
 congr 1
 funext a S1
 rw [bI]
 congr 1
 funext b S2
 rw [bI]
 congr 1
 funext r S3
 apply propext
 cases r with
 | bl c=>cases c <;> simp [ad,bI]
 | _=>simp [a9]
theorem FM {i:Nat} {ρ:Rho} {S:Sto} {Q:D->Sto->Prop}:Ok (ud i ρ S) Q=∃ d,ρ[i]?=some (some d)/\Q d S:=by
 apply propext
 unfold ud
 cases h:ρ[i]? with
 | none=>simp [a9]
 | some o=>cases o with
  | none=>simp [a9]
  | some d=>simp [ad]
theorem JF {i j:Int} {S:Sto} {Q:D->Sto->Prop}:Ok (av .le (.int i) (.int j) S) Q=Q (.bl (decide (i<=j))) S:=ad
theorem JG {i j:Int} {S:Sto} {Q:D->Sto->Prop}:Ok (av .lt (.int i) (.int j) S) Q=Q (.bl (decide (i < j))) S:=ad
theorem JH {i j:Int} {S:Sto} {Q:D->Sto->Prop}:Ok (av .gt (.int i) (.int j) S) Q=Q (.bl (decide (j < i))) S:=ad
theorem JI {i j:Int} {S:Sto} {Q:D->Sto->Prop}:Ok (av .ge (.int i) (.int j) S) Q=Q (.bl (decide (j<=i))) S:=ad
theorem FN {i j:Int} {S:Sto} {Q:D->Sto->Prop}:Ok (bP .add (.int i) (.int j) S) Q=Q (.int (i+j)) S:=ad
theorem FO {i j:Int} {S:Sto} {Q:D->Sto->Prop}:Ok (bP .sub (.int i) (.int j) S) Q=Q (.int (i - j)) S:=ad
theorem JJ {x:XE} {ρ:Rho} {S:Sto} {Q:Bool->Sto->Prop}:Ok (xB x ρ S) Q=Ok (x ρ S) fun d S1=>∃ b,d = .bl b/\Q b S1:=by
 unfold xB
 rw [bI]
 congr 1
 funext d S1
 apply propext
 cases d with
 | bl b=>simp [ad]
 | _=>simp [a9]
theorem A6 {own k:Nat} {it:XI} {tg:Tg} {c:XA} {ρ:Rho} {S:Sto} {Q:List D->Sto->Prop}:Ok (kj own it tg c k ρ S) Q=Ok (it ρ S) fun nx S1=>cU tg (ρ++List.replicate own none)=true/\Ok (bq nx tg c (ρ++List.replicate own none) k 0 S1) fun es S2=>es.length<=100000/\Q es S2:=by
 unfold kj
 rw [bI]
 congr 1
 funext nx S1
 rw [cN,a9]
 apply propext
 have e:Ok (bnd (bq nx tg c (ρ++List.replicate own none) k 0 S1) fun es S2=>if es.length<=100000 then some (es,S2) else none) Q=Ok (bq nx tg c (ρ++List.replicate own none) k 0 S1) fun es S2=>es.length<=100000/\Q es S2:=by
  rw [bI]
  congr 1
  funext es S2
  rw [cN,a9,ad]
  apply propext
  split
  ·rename_i h;exact ⟨fun z=>⟨h,z⟩,fun z=>z.2⟩
  ·rename_i h;exact ⟨fun z=>z.elim,fun z=>(h z.1).elim⟩
 rw [e]
 split
 ·rename_i h;exact ⟨fun z=>⟨h,z⟩,fun z=>z.2⟩
 ·rename_i h;exact ⟨fun z=>z.elim,fun z=>(h z.1).elim⟩
theorem x5 {k:Nat} {it:XI} {tg:Tg} {c:XA} {ρ:Rho} {S:Sto} {Q:List D->Sto->Prop}:Ok (iM it tg c k ρ S) Q=(cU tg ρ=true/\Ok (it ρ S) fun nx S1=>Ok (bq nx tg c ρ k 0 S1) Q):=by
 unfold iM
 rw [cN,a9,bI]
 apply propext
 split
 ·rename_i h;exact ⟨fun z=>⟨h,z⟩,fun z=>z.2⟩
 ·rename_i h;exact ⟨fun z=>z.elim,fun z=>(h z.1).elim⟩
theorem A7 {x:XA} {ρ:Rho} {S:Sto} {Q:List D->Sto->Prop}:Ok (lF x ρ S) Q=Ok (x ρ S) fun ds S1=>ds.length<=1000/\Q ds S1:=by
 unfold lF
 rw [bI]
 congr 1
 funext ds S1
 rw [cN,a9,ad]
 apply propext
 split
 ·rename_i h;exact ⟨fun z=>⟨h,z⟩,fun z=>z.2⟩
 ·rename_i h;exact ⟨fun z=>z.elim,fun z=>(h z.1).elim⟩
theorem A8 {ds:List D} {S:Sto} {Q:D->Sto->Prop}:Ok (ju ds S) Q=(ds.length<=1000/\Q (.tup ds) S):=by
 unfold ju
 rw [cN,a9,ad]
 apply propext
 split
 ·rename_i h;exact ⟨fun z=>⟨h,z⟩,fun z=>z.2⟩
 ·rename_i h;exact ⟨fun z=>z.elim,fun z=>(h z.1).elim⟩
theorem bO {α:Type} (l:List α) (g:α->Bool) (S:Sto):kZ false (l.map fun t=>D.bl (g t)) S=some (.bl (l.all g),S):=by
 unfold kZ
 have h1:(l.map fun t=>D.bl (g t)).all uk=true:=by rw [List.all_map];simp [Function.comp_def,uk]
 have h2:(l.map fun t=>D.bl (g t)).all kY=l.all g:=by rw [List.all_map];rfl
 rw [if_pos ⟨rfl,h1⟩,h2]
theorem cA {p:Nat} {S:Sto} {ts:List Dw.D} {ds:List D} {tg:Tg} {c:XA} {ρ:Rho} {Q:List D->Sto->Prop} (h:TDs p S ts ds) (hl:ts.length<=100000) (g:Dw.D->Bool)
  (step:∀ (i:Nat) t d S',ts[i]?=some t->Sm S S'->TD p S' t d->∃ ρ1,aB tg d ρ=some ρ1/\Ok (c ρ1 S') fun es S1=>es=[.bl (g t)]/\Sm S' S1) (q:∀ S',Sm S S'->Q (ts.map fun t=>.bl (g t)) S') :
  Ok (bq (nxL ds) tg c ρ LF 0 S) fun es S2=>es.length<=100000/\Q es S2:=by
 refine (cO ts.length (fun i acc S'=>Sm S S'/\acc=(ts.take i).map fun t=>.bl (g t)) (by unfold LF;omega) (fun i acc S' hi ⟨sm,ea⟩=>?_) (fun acc S' ⟨sm,ea⟩=>?_) ⟨Sm.refl S,by simp⟩).mono fun es S' ⟨sm,ea⟩=>?_
 ·obtain ⟨d,e1,td⟩:=h.get (gEG hi)
  obtain ⟨ρ1,e2,es,S1,e3,rfl,sm'⟩:=step i ts[i] d S' (gEG hi) sm (td.keep sm.kp)
  refine ⟨d,ρ1,by show some ds[i]?=_;rw [e1],e2,_,S1,e3,sm.trans sm',?_⟩
  rw [ea,List.take_succ_eq_append_getElem hi,List.map_append];rfl
 ·show some ds[ts.length]?=_
  rw [List.getElem?_eq_none (by rw [h.len];omega)]
 ·rw [List.take_length] at ea
  subst ea
  exact ⟨by rw [List.length_map];exact hl,q S' sm⟩
theorem A9 {S:Sto} {n:Nat} {lo:Int} {tg:Tg} {c:XA} {ρ:Rho} {Q:List D->Sto->Prop} (hl:n<=100000) (g:Nat->Bool)
  (step:∀ (i:Nat) S',i < n->Sm S S'->∃ ρ1,aB tg (.int (lo+i)) ρ=some ρ1/\Ok (c ρ1 S') fun es S1=>es=[.bl (g i)]/\Sm S' S1) (q:∀ S',Sm S S'->Q ((List.range n).map fun i=>.bl (g i)) S') :
  Ok (bq (nxR lo n) tg c ρ LF 0 S) fun es S2=>es.length<=100000/\Q es S2:=by
 refine (cO n (fun i acc S'=>Sm S S'/\acc=(List.range i).map fun t=>.bl (g t)) (by unfold LF;omega) (fun i acc S' hi ⟨sm,ea⟩=>?_) (fun acc S' ⟨sm,ea⟩=>?_) ⟨Sm.refl S,by simp⟩).mono fun es S' ⟨sm,ea⟩=>?_
 ·obtain ⟨ρ1,e2,es,S1,e3,rfl,sm'⟩:=step i S' hi sm
  refine ⟨_,ρ1,by show some (if i < n then some (D.int (lo+i)) else none)=_;rw [if_pos hi],e2,_,S1,e3,sm.trans sm',?_⟩
  rw [ea,List.range_succ,List.map_append];rfl
 ·show some (if n < n then some (D.int (lo+n)) else none)=_
  rw [if_neg (Nat.lt_irrefl n)]
 ·subst ea
  exact ⟨by rw [List.length_map,List.length_range];exact hl,q S' sm⟩
theorem Ba {p:Nat} {S:Sto} {ts:List Dw.D} {ds:List D} {tg:Tg} {c:XA} {ρ:Rho} {Q:List D->Sto->Prop} (h:TDs p S ts ds) (hl:ts.length<=100000) (g:Nat->Bool)
  (step:∀ (i:Nat) t d S',ts[i]?=some t->Sm S S'->TD p S' t d->∃ ρ1,aB tg (.tup [.int i,d]) ρ=some ρ1/\Ok (c ρ1 S') fun es S1=>es=[.bl (g i)]/\Sm S' S1) (q:∀ S',Sm S S'->Q ((List.range ts.length).map fun i=>.bl (g i)) S') :
  Ok (bq (m9 ds) tg c ρ LF 0 S) fun es S2=>es.length<=100000/\Q es S2:=by
 refine (cO ts.length (fun i acc S'=>Sm S S'/\acc=(List.range i).map fun t=>.bl (g t)) (by unfold LF;omega) (fun i acc S' hi ⟨sm,ea⟩=>?_) (fun acc S' ⟨sm,ea⟩=>?_) ⟨Sm.refl S,by simp⟩).mono fun es S' ⟨sm,ea⟩=>?_
 ·obtain ⟨d,e1,td⟩:=h.get (gEG hi)
  obtain ⟨ρ1,e2,es,S1,e3,rfl,sm'⟩:=step i ts[i] d S' (gEG hi) sm (td.keep sm.kp)
  refine ⟨.tup [.int i,d],ρ1,?_,e2,_,S1,e3,sm.trans sm',?_⟩
  ·show enm ds i=_
   unfold enm
   rw [if_pos (by rw [h.len];omega),e1];rfl
  ·rw [ea,List.range_succ,List.map_append];rfl
 ·show enm ds ts.length=_
  unfold enm
  rw [if_pos (by rw [h.len];omega),List.getElem?_eq_none (by rw [h.len];omega)];rfl
 ·subst ea
  exact ⟨by rw [List.length_map,List.length_range];exact hl,q S' sm⟩
theorem qU {S:Sto} {m n:Nat} {tg:Tg} {c:XA} {ρ:Rho} (hm:S[m]?=some (.lst ((List.range n).map fun j=>.int (Int.ofNat j)))) (hn:n<=1000) (f:Nat->List D)
  (step:∀ (i:Nat) S',i < n->Sm S S'->∃ ρ1,aB tg (.int i) ρ=some ρ1/\Ok (c ρ1 S') fun es S1=>es=f i/\Sm S' S1):Ok (bq (nxS m) tg c ρ LF 0 S) fun es S2=>es=(List.range n).flatMap f/\Sm S S2:=by
 refine (cO n (fun i acc S'=>Sm S S'/\acc=(List.range i).flatMap f) (by unfold LF;omega) (fun i acc S' hi ⟨sm,ea⟩=>?_) (fun acc S' ⟨sm,ea⟩=>?_) ⟨Sm.refl S,by simp⟩).mono fun es S' ⟨sm,ea⟩=>⟨ea,sm⟩
 ·obtain ⟨ρ1,e2,es,S1,e3,rfl,sm'⟩:=step i S' hi sm
  refine ⟨.int i,ρ1,?_,e2,_,S1,e3,sm.trans sm',?_⟩
  ·show (am S' m).map (fun ds=>ds[i]?)=_
   simp only [am,sm _ _ hm,Option.map_some,List.getElem?_map,List.getElem?_range hi];rfl
  ·rw [ea,Dw.fv]
 ·show (am S' m).map (fun ds=>ds[n]?)=_
  simp only [am,sm _ _ hm,Option.map_some]
  rw [List.getElem?_eq_none (by simp)]
theorem x6 {x:XA} {ρ:Rho} {S:Sto} {Q:D->Sto->Prop}:Ok (cZ x ρ S) Q=Ok (x ρ S) fun ds S1=>Q (.ref S1.length) (S1++[.lst ds]):=by
 unfold cZ
 rw [bI]
 congr 1
 funext ds S1
 rw [ad]
theorem FP {x:XE} {ρ:Rho} {S:Sto} {Q:List D->Sto->Prop} (h:Ok (x ρ S) fun d S1=>∃ i:Nat,d = .int i/\i<=1000/\Q ((List.range i).map fun j=>.int (Int.ofNat j)) S1):Ok (uE x ρ S) Q:=by
 unfold uE
 rw [bI]
 refine h.mono fun d S1 ⟨i,e,hi,q⟩=>?_
 subst e
 dsimp only
 rw [if_pos (by omega),ad,Int.toNat_natCast]
 exact q
theorem ik {p:Nat} {S:Sto} {a b:Int}:∀ {fs:List Dw.D} {ds:List D},fs.all (fun e=>Dw.ae e a b)=true->TDs p S fs ds->ds=(Dw.aC fs).map D.int
 | [],ds,_,h=>by rw [h.nil];rfl
 | t::fs,ds,hw,h=>by
  obtain ⟨d,r,rfl,h1,h2⟩:=h.cons
  rw [List.all_cons,bAE] at hw
  obtain ⟨i,rfl,_⟩:=Dw.ah hw.1
  rw [h1.int,ik hw.2 h2]
  rfl
theorem pE (is:List Int):(is.map D.int).all cg=true:=by rw [List.all_map];simp [Function.comp_def,cg]
theorem x8 (is:List Int) (i:Int) (S:Sto):qH (.tup (is.map D.int)) [.int i] S=some (.int (is.count i:Nat),S):=by
 have e:((is.map D.int).countP fun z=>eqF z (.int i))=is.count i:=by
  rw [List.countP_map]
  unfold List.count
  congr 1
 simp only [qH]
 rw [if_pos ⟨rfl,pE is⟩,e]
theorem nz (neg:Bool) (is:List Int) (i:Int) (S:Sto):inS neg (.int i) (.tup (is.map D.int)) S=some (.bl (neg != decide (i ∈ is)),S):=by
 have e:inF (.int i) (is.map D.int)=decide (i ∈ is):=by
  unfold inF
  rw [List.any_map,Bool.eq_iff_iff,List.any_eq_true]
  simp only [Function.comp_def,eqF,beq_iff_eq,decide_eq_true_eq]
  exact ⟨fun ⟨x,hx,e⟩=>e ▸ hx,fun h=>⟨i,h,rfl⟩⟩
 simp only [inS,aj]
 rw [if_pos ⟨rfl,pE is⟩,e]
theorem Bb (i j:Int) (S:Sto):av .eq (.int i) (.int j) S=some (.bl (decide (i=j)),S):=by
 simp only [av,eqS]
 have:eqD 60 S (.int i) (.int j)=some (i == j):=rfl
 rw [this]
 rfl
theorem Bc (i j:Int) (S:Sto):av .ne (.int i) (.int j) S=some (.bl (!decide (i=j)),S):=by
 simp only [av,neS]
 have:eqD 60 S (.int i) (.int j)=some (i == j):=rfl
 rw [this]
 rfl
theorem FQ {i j:Int} {S:Sto} {Q:D->Sto->Prop}:Ok (av .eq (.int i) (.int j) S) Q=Q (.bl (decide (i=j))) S:=by rw [Bb,ad]
theorem FR {i j:Int} {S:Sto} {Q:D->Sto->Prop}:Ok (av .ne (.int i) (.int j) S) Q=Q (.bl (!decide (i=j))) S:=by rw [Bc,ad]
noncomputable def qV:Dw.D->Bool
 | .non=>true
 | _=>false
theorem x9 {p:Nat} {S:Sto} {t:Dw.D} {d:D} (h:TD p S t d):j6 d=qV t:=by
 cases t with
 | non=>rw [h.non];rfl
 | bl _=>rw [h.bl];rfl
 | int _=>rw [h.int];rfl
 | str _=>rw [h.str];rfl
 | tup _=>obtain ⟨_,rfl,_⟩:=h.tup;rfl
 | lst _=>rw [TD] at h;obtain ⟨n,ds,rfl,_⟩:=h;rfl
 | dic _ _=>rw [TD] at h;obtain ⟨n,ds,rfl,_⟩:=h;rfl
theorem JK {p:Nat} {S:Sto} {t:Dw.D} {d:D} (h:TD p S t d):av .is d .non S=some (.bl (qV t),S):=by
 rw [<-x9 h]
 simp only [av]
 have:isB false d .non S=some (.bl (false != j6 d),S):=by cases d <;> rfl
 rw [this]
 cases j6 d <;> rfl
theorem ya {p:Nat} {S:Sto} {t:Dw.D} {d:D} (h:TD p S t d):av .isnot d .non S=some (.bl (!qV t),S):=by
 rw [<-x9 h]
 simp only [av]
 have:isB true d .non S=some (.bl (true != j6 d),S):=by cases d <;> rfl
 rw [this]
 cases j6 d <;> rfl
theorem Be {i:Nat} {d:D} {ρ:Rho}:aB (.name i) d ρ=if i < ρ.length then some (ρ.set i (some d)) else none:=by simp only [aB]
theorem yb {ts:List Tg} {ds:List D} {ρ:Rho}:aB (.tup ts) (.tup ds) ρ=aI ts ds ρ:=by simp only [aB]
theorem sM {ρ:Rho}:aI [] [] ρ=some ρ:=by simp only [aI]
theorem pF {i:Nat} {ts:List Tg} {d:D} {ds:List D} {ρ:Rho}:aI (.name i::ts) (d::ds) ρ=if i < ρ.length then aI ts ds (ρ.set i (some d)) else none:=by
 simp only [aI,aB]
 split
 ·rename_i ρ' h
  split at h
  ·rename_i hc;cases h;rw [if_pos hc]
  ·cases h
 ·rename_i h
  split at h
  ·cases h
  ·rename_i hc;rw [if_neg hc]
theorem gz {i j:Nat} {a b:D} {ρ:Rho} (h1:i < ρ.length) (h2:j < ρ.length):aB (.tup [.name i,.name j]) (.tup [a,b]) ρ=some ((ρ.set i (some a)).set j (some b)):=by
 rw [yb,pF,if_pos h1,pF,if_pos (by rw [List.length_set];exact h2),sM]
noncomputable def bV:Dw.D->Bool
 | .tup _=>true
 | _=>false
theorem bv {p:Nat} {S:Sto} {t:Dw.D} {d:D} (h:TD p S t d):iZ .tuple d S=some (.bl (bV t),S):=by
 rw [fP h]
 cases t <;> rfl
theorem aM {S:Sto} {a:Nat} {es:List D} (h:S[a]?=some (.lst es)):am S a=some es:=by simp only [am,h]
theorem sN {S:Sto} {a b n:Nat} {es:List D} (h1:S[a]?=some (.lst es)) (h2:S[b]?=some (.lst [])) (hn:a ≠ b):eqD (n+1) S (.ref a) (.ref b)=some es.isEmpty:=by
 show (match am S a,am S b with | some xs,some ys=>if a=b then some true else if xs.length=ys.length then eqL (eqD n S) xs ys else some false | _,_=>none)=_
 rw [aM h1,aM h2]
 show (if a=b then some true else if es.length=([]:List D).length then eqL (eqD n S) es [] else some false)=_
 rw [if_neg hn]
 cases es with
 | nil=>simp [eqL]
 | cons x xs=>simp
theorem ne_nil {S:Sto} {a b:Nat} {es:List D} (h1:S[a]?=some (.lst es)) (h2:S[b]?=some (.lst [])) (hn:a ≠ b):av .ne (.ref a) (.ref b) S=some (.bl (!es.isEmpty),S):=by
 simp only [av,neS,sN h1 h2 hn,Option.map_some]
theorem eq_nil {S:Sto} {a b:Nat} {es:List D} (h1:S[a]?=some (.lst es)) (h2:S[b]?=some (.lst [])) (hn:a ≠ b):av .eq (.ref a) (.ref b) S=some (.bl es.isEmpty,S):=by
 simp only [av,eqS,sN h1 h2 hn,Option.map_some]
theorem Bf {S:Sto} {es:List D}:av .ne (.ref (List.length S)) (.ref (List.length (S++[Ob.lst es]))) (S++[Ob.lst es]++[Ob.lst []])=some (.bl (!es.isEmpty),S++[Ob.lst es]++[Ob.lst []]):=
 ne_nil (by rw [List.append_assoc,List.getElem?_append_right (Nat.le_refl _),Nat.sub_self];rfl) (by rw [List.getElem?_append_right (Nat.le_refl _),Nat.sub_self];rfl) (by simp)
theorem Bg {S:Sto} {es:List D}:av .eq (.ref (List.length S)) (.ref (List.length (S++[Ob.lst es]))) (S++[Ob.lst es]++[Ob.lst []])=some (.bl es.isEmpty,S++[Ob.lst es]++[Ob.lst []]):=
 eq_nil (by rw [List.append_assoc,List.getElem?_append_right (Nat.le_refl _),Nat.sub_self];rfl) (by rw [List.getElem?_append_right (Nat.le_refl _),Nat.sub_self];rfl) (by simp)
theorem qW {n:Nat} {g:Nat->Bool} {f:Nat->D}:((List.range n).flatMap fun i=>if g i=true then [f i] else []).isEmpty=(List.range n).all fun i=>!g i:=by
 induction n with
 | zero=>rfl
 | succ n ih=>
  rw [Dw.fv,List.range_succ,List.all_append,<-ih]
  cases h:g n <;> simp [h]
theorem yc {p:Nat} {S:Sto} {ts:List Dw.D} {ds:List D} {tg:Tg} {c:XA} {ρ:Rho} {Q:List D->Sto->Prop} (h:TDs p S ts ds) (hl:ts.length<=100000) (g:Nat->Bool)
  (step:∀ (i:Nat) t d S',ts[i]?=some t->Sm S S'->TD p S' t d->∃ ρ1,aB tg (.tup [.int i,d]) ρ=some ρ1/\Ok (c ρ1 S') fun es S1=>es=(if g i=true then [.int i] else [])/\Sm S' S1) (q:∀ es S',Sm S S'->es.isEmpty=((List.range ts.length).all fun i=>!g i)->Q es S') :
  Ok (bq (m9 ds) tg c ρ LF 0 S) fun es S2=>es.length<=100000/\Q es S2:=by
 have key:∀ n:Nat,((List.range n).flatMap fun i=>if g i=true then [D.int (Int.ofNat i)] else []).length<=n:=fun n=>by
  have:=Dw.mB (n:=n) (m:=1) (f:=fun i=>if g i=true then [D.int (Int.ofNat i)] else []) fun i _=>by split <;> simp
  omega
 refine (cO ts.length (fun i acc S'=>Sm S S'/\acc=(List.range i).flatMap fun i=>if g i=true then [D.int (Int.ofNat i)] else []) (by unfold LF;omega) (fun i acc S' hi ⟨sm,ea⟩=>?_) (fun acc S' ⟨sm,ea⟩=>?_) ⟨Sm.refl S,by simp⟩).mono fun es S' ⟨sm,ea⟩=>?_
 ·obtain ⟨d,e1,td⟩:=h.get (gEG hi)
  obtain ⟨ρ1,e2,es,S1,e3,rfl,sm'⟩:=step i ts[i] d S' (gEG hi) sm (td.keep sm.kp)
  refine ⟨.tup [.int i,d],ρ1,?_,e2,_,S1,e3,sm.trans sm',?_⟩
  ·show enm ds i=_
   unfold enm
   rw [if_pos (by rw [h.len];omega),e1];rfl
  ·rw [ea,Dw.fv];rfl
 ·show enm ds ts.length=_
  unfold enm
  rw [if_pos (by rw [h.len];omega),List.getElem?_eq_none (by rw [h.len];omega)];rfl
 ·subst ea
  exact ⟨Nat.le_trans (key _) hl,q _ S' sm qW⟩
theorem lX {p:Nat} {S:Sto} {ts:List Dw.D} {ds:List D} {tg:Tg} {b:XS} {ρ:Rho} {Q:Fl->Rho->Sto->Prop} (h:TDs p S ts ds) (hl:ts.length<=100000) (I:Nat->Rho->Prop)
  (step:∀ (i:Nat) t d ρ S',ts[i]?=some t->Sm S S'->TD p S' t d->I i ρ->∃ ρ1,aB tg d ρ=some ρ1/\OkS (b ρ1 S') fun fl ρ2 S2=>match fl with | .nx=>I (i+1) ρ2/\Sm S' S2 | .ct=>I (i+1) ρ2/\Sm S' S2 | .bk=>Q .nx ρ2 S2 | .rt d=>Q (.rt d) ρ2 S2)
  (q:∀ ρ S',Sm S S'->I ts.length ρ->Q .nx ρ S') (h0:I 0 ρ):OkS (eM (nxL ds) tg b LF 0 ρ S) Q:=by
 refine jH ts.length (fun i ρ S'=>I i ρ/\Sm S S') (by unfold LF;omega) (fun i ρ S' hi ⟨iv,sm⟩=>?_) (fun ρ S' ⟨iv,sm⟩=>⟨?_,q ρ S' sm iv⟩) ⟨h0,Sm.refl S⟩
 ·obtain ⟨d,e1,td⟩:=h.get (gEG hi)
  obtain ⟨ρ1,e2,z⟩:=step i ts[i] d ρ S' (gEG hi) sm (td.keep sm.kp) iv
  refine ⟨d,ρ1,by show some ds[i]?=_;rw [e1],e2,z.mono fun fl ρ2 S2 y=>?_⟩
  cases fl with
  | nx=>exact ⟨y.1,sm.trans y.2⟩
  | ct=>exact ⟨y.1,sm.trans y.2⟩
  | bk=>exact y
  | rt d=>exact y
 ·show some ds[ts.length]?=_
  rw [List.getElem?_eq_none (by rw [h.len];omega)]
theorem C9 {p:Nat} {S:Sto} {ts:List Dw.D} {ds:List D} {tg:Tg} {b:XS} {ρ:Rho} {Q:Fl->Rho->Sto->Prop} (h:TDs p S ts ds) (hl:ts.length<=100000) (I:Nat->Rho->Prop)
  (step:∀ (i:Nat) t d ρ S',ts[i]?=some t->Sm S S'->TD p S' t d->I i ρ->∃ ρ1,aB tg (.tup [.int i,d]) ρ=some ρ1/\OkS (b ρ1 S') fun fl ρ2 S2=>match fl with | .nx=>I (i+1) ρ2/\Sm S' S2 | .ct=>I (i+1) ρ2/\Sm S' S2 | .bk=>Q .nx ρ2 S2 | .rt d=>Q (.rt d) ρ2 S2)
  (q:∀ ρ S',Sm S S'->I ts.length ρ->Q .nx ρ S') (h0:I 0 ρ):OkS (eM (m9 ds) tg b LF 0 ρ S) Q:=by
 refine jH ts.length (fun i ρ S'=>I i ρ/\Sm S S') (by unfold LF;omega) (fun i ρ S' hi ⟨iv,sm⟩=>?_) (fun ρ S' ⟨iv,sm⟩=>⟨?_,q ρ S' sm iv⟩) ⟨h0,Sm.refl S⟩
 ·obtain ⟨d,e1,td⟩:=h.get (gEG hi)
  obtain ⟨ρ1,e2,z⟩:=step i ts[i] d ρ S' (gEG hi) sm (td.keep sm.kp) iv
  refine ⟨.tup [.int i,d],ρ1,?_,e2,z.mono fun fl ρ2 S2 y=>?_⟩
  ·show enm ds i=_
   unfold enm
   rw [if_pos (by rw [h.len];omega),e1];rfl
  ·cases fl with
   | nx=>exact ⟨y.1,sm.trans y.2⟩
   | ct=>exact ⟨y.1,sm.trans y.2⟩
   | bk=>exact y
   | rt d=>exact y
 ·show enm ds ts.length=_
  unfold enm
  rw [if_pos (by rw [h.len];omega),List.getElem?_eq_none (by rw [h.len];omega)];rfl
theorem gL (ds:List D) (k:Nat) (hk:k<=ds.length):aX ds none (some (k:Int))=ds.take k:=by
 unfold aX
 rw [Dw.jX _ _ (by omega),Int.toNat_natCast,Nat.min_eq_left hk]
 rfl
theorem aY {p:Nat} {S:Sto} {ts:List Dw.D} {ds:List D} (h:TDs p S ts ds):aq dQ (.tup ds) S=some (.int ts.length,S):=by
 simp only [aq,aj,dQ,h.len]
theorem aH {p:Nat} {S:Sto} {ts:List Dw.D} {ds:List D} {i:Nat} {t:Dw.D} {Q:D->Sto->Prop} (h:TDs p S ts ds) (e:ts[i]?=some t) (q:∀ d,TD p S t d->Q d S):Ok (ixS (.tup ds) (.int i) S) Q:=by
 obtain ⟨d,e1,td⟩:=h.get e
 have hi:=(List.getElem?_eq_some_iff.mp e1).1
 have ea:atI ds (i:Int)=some d:=by
  unfold atI ixN
  rw [if_pos (by omega),if_pos (by omega),Int.toNat_natCast]
  exact e1
 simp only [ixS,aj,ea,Option.map_some]
 rw [ad]
 exact q d td
end Ev
namespace Ev
open PySem PySem.Spec PyProof.Rows L2
section
variable {S S' S1 S2:Sto} {p:Nat} {Q:D->Sto->Prop} {ρ:Rho}
theorem FS {i j:Int}:Ok (bP .mod (.int i) (.int j) S) Q=(0 < j/\Q (.int (i % j)) S):=by
 simp only [bP,Ey,cN,ad,a9]
 apply propext
 split
 ·rename_i h;exact ⟨fun z=>⟨h,z⟩,fun z=>z.2⟩
 ·rename_i h;exact ⟨fun z=>z.elim,fun z=>(h z.1).elim⟩
theorem Bh {i j:Int}:Ok (bP .fdiv (.int i) (.int j) S) Q=((0 < j/\j < 1073741824)/\Q (.int (i / j)) S):=by
 simp only [bP,wH,cN,ad,a9]
 apply propext
 split
 ·rename_i h;exact ⟨fun z=>⟨h,z⟩,fun z=>z.2⟩
 ·rename_i h;exact ⟨fun z=>z.elim,fun z=>(h z.1).elim⟩
theorem FT {i j:Int}:Ok (bP .mul (.int i) (.int j) S) Q=(gR i j=true/\Q (.int (i * j)) S):=by
 simp only [bP,mV,cN,ad,a9]
 apply propext
 split
 ·rename_i h;exact ⟨fun z=>⟨h,z⟩,fun z=>z.2⟩
 ·rename_i h;exact ⟨fun z=>z.elim,fun z=>(h z.1).elim⟩
theorem FV {i j:Int}:Ok (bP .pow (.int i) (.int j) S) Q=((0<=j/\j<=1000000/\i.natAbs < 2 ^ 64)/\Q (.int (i ^ j.toNat)) S):=by
 simp only [bP,Ez,cN,ad,a9]
 apply propext
 split
 ·rename_i h;exact ⟨fun z=>⟨h,z⟩,fun z=>z.2⟩
 ·rename_i h;exact ⟨fun z=>z.elim,fun z=>(h z.1).elim⟩
theorem sO {i j:Int} (h1:-(2 ^ 64) < j) (h2:j < 2 ^ 64):gR i j=true:=by simp only [gR,Bool.or_eq_true,bAE,decide_eq_true_eq];exact .inr ⟨h1,h2⟩
theorem nA {i j:Int} (h1:-(2 ^ 64) < i) (h2:i < 2 ^ 64):gR i j=true:=by simp only [gR,Bool.or_eq_true,bAE,decide_eq_true_eq];exact .inl ⟨h1,h2⟩
noncomputable def Pot (p:Nat) (S:Sto):Prop:=∃ n:Int,S[p]?=some (.lst [.int n])
structure Dr (p:Nat) (S S':Sto):Prop where
 kp:Kp p S S'
 pot:Pot p S'
theorem Dr.refl (h:Pot p S):Dr p S S:=⟨Kp.refl p S,h⟩
theorem Dr.trans (a:Dr p S S1) (b:Dr p S1 S2):Dr p S S2:=⟨a.kp.trans b.kp,b.pot⟩
theorem Dr.sm (h:Pot p S) (s:Sm S S'):Dr p S S':=⟨s.kp,let ⟨n,e⟩:=h;⟨n,s _ _ e⟩⟩
theorem Dr.thenSm (a:Dr p S S1) (s:Sm S1 S2):Dr p S S2:=a.trans (Dr.sm a.pot s)
theorem Pot.lt (h:Pot p S):p < S.length:=let ⟨_,e⟩:=h;(List.getElem?_eq_some_iff.mp e).1
theorem FW {o:Ob}:Kp p S (S.set p o):=fun i u n e=>by rw [List.getElem?_set_ne (Ne.symm n)];exact e
theorem kL {o:Ob} (h:p < S.length):(S.set p o)[p]?=some o:=by rw [List.getElem?_set_self h]
theorem pG {n:Nat} {lo:Int} {tg:Tg} {b:XS} {Q:Fl->Rho->Sto->Prop} (hl:n<=100000) (I:Nat->Rho->Sto->Prop)
  (step:∀ (i:Nat) ρ S,i < n->I i ρ S->∃ ρ1,aB tg (.int (lo+i)) ρ=some ρ1/\OkS (b ρ1 S) fun fl ρ2 S2=>match fl with | .nx=>I (i+1) ρ2 S2 | .ct=>I (i+1) ρ2 S2 | .bk=>Q .nx ρ2 S2 | .rt d=>Q (.rt d) ρ2 S2)
  (q:∀ ρ S',I n ρ S'->Q .nx ρ S') (h0:I 0 ρ S):OkS (eM (nxR lo n) tg b LF 0 ρ S) Q:=by
 refine jH n I (by unfold LF;omega) (fun i ρ S' hi iv=>?_) (fun ρ S' iv=>⟨?_,q ρ S' iv⟩) h0
 ·obtain ⟨ρ1,e2,z⟩:=step i ρ S' hi iv
  exact ⟨_,ρ1,by show some (if i < n then some (D.int (lo+i)) else none)=_;rw [if_pos hi],e2,z⟩
 ·show some (if n < n then some (D.int (lo+n)) else none)=_
  rw [if_neg (Nat.lt_irrefl n)]
theorem qX {n:Nat} {lo:Int} {tg:Tg} {c:XA} {Q:List D->Sto->Prop} (hl:n<=100000) (I:Nat->List D->Sto->Prop)
  (step:∀ (i:Nat) acc S',i < n->I i acc S'->∃ ρ1,aB tg (.int (lo+i)) ρ=some ρ1/\Ok (c ρ1 S') fun es S1=>I (i+1) (acc++es) S1) (q:∀ es S',I n es S'->es.length<=100000/\Q es S') (h0:I 0 [] S) :
  Ok (bq (nxR lo n) tg c ρ LF 0 S) fun es S2=>es.length<=100000/\Q es S2:=by
 refine (cO n I (by unfold LF;omega) (fun i acc S' hi iv=>?_) (fun acc S' iv=>?_) h0).mono q
 ·obtain ⟨ρ1,e2,z⟩:=step i acc S' hi iv
  exact ⟨_,ρ1,by show some (if i < n then some (D.int (lo+i)) else none)=_;rw [if_pos hi],e2,z⟩
 ·show some (if n < n then some (D.int (lo+n)) else none)=_
  rw [if_neg (Nat.lt_irrefl n)]
theorem FX {x:XA} {y:XE}:Ok (qp x y ρ S) Q=Ok (x ρ S) fun ds S1=>Ok (y ρ S1) fun i S2=>∃ k,i = .int k/\∃ d,atI ds k=some d/\Q d S2:=by
 unfold qp
 rw [bI]
 congr 1
 funext ds S1
 rw [bI]
 congr 1
 funext i S2
 apply propext
 cases i with
 | int k=>simp [FF]
 | _=>simp [a9]
theorem FY {ds:List D} {i:Int} (h0:0<=i) (h1:i < ds.length):∃ d,atI ds i=some d/\ds[i.toNat]?=some d:=by
 have hi:i.toNat < ds.length:=by omega
 refine ⟨ds[i.toNat],?_,gEG hi⟩
 unfold atI ixN
 rw [if_pos h0,if_pos (by omega)]
 exact gEG hi
theorem fq {nx:Nxt} {tg:Tg} {c:XA} {Q:List D->Sto->Prop} (n:Nat) (el:Nat->D) (I:Nat->List D->Sto->Prop) (hnx:∀ i acc S',i<=n->I i acc S'->nx i S'=some (if i < n then some (el i) else none)) (hl:n<=100000)
  (step:∀ (i:Nat) acc S',i < n->I i acc S'->∃ ρ1,aB tg (el i) ρ=some ρ1/\Ok (c ρ1 S') fun es S1=>I (i+1) (acc++es) S1) (q:∀ es S',I n es S'->es.length<=100000/\Q es S') (h0:I 0 [] S) :
  Ok (bq nx tg c ρ LF 0 S) fun es S2=>es.length<=100000/\Q es S2:=by
 refine (cO n I (by unfold LF;omega) (fun i acc S' hi iv=>?_) (fun acc S' iv=>?_) h0).mono q
 ·obtain ⟨ρ1,e2,z⟩:=step i acc S' hi iv
  exact ⟨_,ρ1,by rw [hnx i acc S' (by omega) iv,if_pos hi],e2,z⟩
 ·rw [hnx n acc S' (Nat.le_refl _) iv,if_neg (Nat.lt_irrefl n)]
theorem gA {m i:Nat} {ds:List D} (h:S[m]?=some (.lst ds)) (el:Nat->D) (he:∀ i d,ds[i]?=some d->el i=d):nxS m i S=some (if i < ds.length then some (el i) else none):=by
 show (am S m).map (fun ds=>ds[i]?)=_
 rw [aM h,Option.map_some]
 split
 ·rename_i hi;rw [gEG hi,he i _ (gEG hi)]
 ·rename_i hi;rw [List.getElem?_eq_none (by omega)]
theorem sP {m i:Nat} {ds:List D} (h:S[m]?=some (.lst ds)) (hi':i<=ds.length) (el:Nat->D) (he:∀ i d,ds[i]?=some d->el i = .tup [.int i,d]):wX m i S=some (if i < ds.length then some (el i) else none):=by
 show (am S m).bind (fun ds=>enm ds i)=_
 rw [aM h]
 show enm ds i=_
 unfold enm
 rw [if_pos hi']
 split
 ·rename_i hi;rw [gEG hi,he i _ (gEG hi)];rfl
 ·rename_i hi;rw [List.getElem?_eq_none (by omega)];rfl
structure RowsS (p:Nat) (S:Sto) (rs:List D) (M:List (List Int)):Prop where
 len:rs.length=M.length
 row:∀ (i:Nat) r,M[i]?=some r->∃ a,rs[i]?=some (.ref a)/\a ≠ p/\S[a]?=some (.lst (r.map D.int))
theorem RowsS.keep {rs:List D} {M:List (List Int)} (h:RowsS p S rs M) (k:Kp p S S'):RowsS p S' rs M:=⟨h.len,fun i r hr=>let ⟨a,e,n,z⟩:=h.row i r hr;⟨a,e,n,k _ _ n z⟩⟩
theorem RowsS.nil:RowsS p S [] []:=⟨rfl,fun i r h=>by simp at h⟩
theorem RowsS.snoc {rs:List D} {M:List (List Int)} {a:Nat} {r:List Int} (h:RowsS p S rs M) (n:a ≠ p) (z:S[a]?=some (.lst (r.map D.int))):RowsS p S (rs++[.ref a]) (M++[r]):=by
 refine ⟨by simp [h.len],fun i r' hr=>?_⟩
 by_cases hi:i < M.length
 ·rw [List.getElem?_append_left hi] at hr
  obtain ⟨b,e,nb,zb⟩:=h.row i r' hr
  exact ⟨b,by rw [List.getElem?_append_left (by rw [h.len];exact hi)];exact e,nb,zb⟩
 ·rw [List.getElem?_append_right (by omega)] at hr
  have hz:i - M.length=0:=by
   have:=(List.getElem?_eq_some_iff.mp hr).1
   simp at this;omega
  rw [hz] at hr
  cases hr
  exact ⟨a,by rw [List.getElem?_append_right (by rw [h.len];omega),h.len,hz];rfl,n,z⟩
theorem bg {o:Ob}:(S++[o])[S.length]?=some o:=by rw [List.getElem?_append_right (Nat.le_refl _),Nat.sub_self];rfl
theorem Kp.setNew {f:Nat} {o:Ob} (h:Kp p S S') (hf:S.length<=f):Kp p S (S'.set f o):=fun i u n e=>by
 have hi:=(List.getElem?_eq_some_iff.mp e).1
 rw [List.getElem?_set_ne (by omega)]
 exact h i u n e
theorem Pot.setNe {f:Nat} {o:Ob} (h:Pot p S) (hf:f ≠ p):Pot p (S.set f o):=by
 obtain ⟨n,e⟩:=h
 exact ⟨n,by rw [List.getElem?_set_ne hf];exact e⟩
noncomputable def cu (q:Int × Int):D:=.tup [.int q.1,.int q.2]
theorem pH:∀ (es:List (Int × Int)),TDs p S (es.map Dw.eT) (es.map cu)
 | []=>aw
 | e::es=>ab (aR (ab bR (ab bR aw))) (pH es)
theorem yd {f:Nat} {ds:List D} {e:D} (h:S[f]?=some (.lst ds)) (hl:ds.length < 100000):Ok (oW (.ref f) [e] S) Q=Q .non (S.set f (.lst (ds++[e]))):=by
 simp only [oW,chg,h]
 rw [if_pos hl]
 exact ad
theorem kM {f:Nat} {ds:List D} (h:S[f]?=some (.lst ds)):dE (.ref f) S=true:=by simp only [dE,aM h];rfl
theorem Bi {f:Nat} {ds:List D} {e:D} (h:S[f]?=some (.lst (ds++[e]))):ixS (.ref f) (.int (-1)) S=some (e,S):=by
 have:atI (ds++[e]) (-1:Int)=some e:=by
  unfold atI ixN
  rw [if_neg (by decide),if_pos (by rw [List.length_append,List.length_singleton];omega)]
  show (ds++[e])[((-1:Int)+((ds++[e]).length:Int)).toNat]?=some e
  have:((-1:Int)+((ds++[e]).length:Int)).toNat=ds.length:=by rw [List.length_append,List.length_singleton];omega
  rw [this,List.getElem?_append_right (Nat.le_refl _),Nat.sub_self];rfl
 simp only [ixS,aj,aM h,Option.map_some,this]
theorem D2 {ds:List D} {i:Nat} {d:D} (h:ds[i]?=some d):ixS (.tup ds) (.int i) S=some (d,S):=by
 have hi:=(List.getElem?_eq_some_iff.mp h).1
 have ea:atI ds (i:Int)=some d:=by
  unfold atI ixN
  rw [if_pos (by omega),if_pos (by omega),Int.toNat_natCast]
  exact h
 simp only [ixS,aj,ea,Option.map_some]
theorem mi {ds:List D} {i:Nat} {d:D} (h:ds[i]?=some d):atI ds (i:Int)=some d:=by
 have hi:=(List.getElem?_eq_some_iff.mp h).1
 unfold atI ixN
 rw [if_pos (by omega),if_pos (by omega),Int.toNat_natCast]
 exact h
theorem nB {n:Nat} {ts:List Dw.D} {ds:List D} (hn:n ≠ p) (h:S[n]?=some (.lst ds)) (q:TDs p S ts ds):TD p S (.lst ts) (.ref n):=by rw [TD];exact ⟨n,ds,rfl,hn,h,q⟩
theorem ye {n:Nat} {ks:List Key} {ts:List Dw.D} {ds:List D} (hn:n ≠ p) (h:S[n]?=some (.dic ks ds)) (q:TDs p S ts ds):TD p S (.dic ks ts) (.ref n):=by rw [TD];exact ⟨n,ds,rfl,hn,h,q⟩
theorem Bj {ds:List D}:av .eq (.tup ds) (.tup []) S=some (.bl ds.isEmpty,S):=by
 simp only [av,eqS]
 have:eqD 60 S (.tup ds) (.tup [])=some ds.isEmpty:=by
  cases ds <;> rfl
 rw [this];rfl
theorem Bk {ds:List D}:av .ne (.tup ds) (.tup []) S=some (.bl (!ds.isEmpty),S):=by
 simp only [av,neS]
 have:eqD 60 S (.tup ds) (.tup [])=some ds.isEmpty:=by
  cases ds <;> rfl
 rw [this];rfl
theorem FZ {xs ys:List D}:Ok (bP .add (.tup xs) (.tup ys) S) Q=(xs.length+ys.length<=1000/\Q (.tup (xs++ys)) S):=by
 simp only [bP,mU,cN,ad,a9]
 apply propext
 split
 ·rename_i h;exact ⟨fun z=>⟨h,z⟩,fun z=>z.2⟩
 ·rename_i h;exact ⟨fun z=>z.elim,fun z=>(h z.1).elim⟩
end
end Ev
namespace Ev
open PySem PySem.Spec PyProof.Rows L2
noncomputable abbrev WP (α:Type):=Rho->Sto->(α->Sto->Prop)->Prop
noncomputable def Sd {α:Type} (w:WP α) (x:Rho->Sto->Option (α × Sto)):Prop:=∀ ρ S Q,w ρ S Q->Ok (x ρ S) Q
theorem ba {α β:Type} {x:Option (α × Sto)} {f:α->Sto->Option (β × Sto)} {Q:β->Sto->Prop} (h:Ok x fun a S=>Ok (f a S) Q):Ok (bnd x f) Q:=bI ▸ h
theorem bC {α:Type} {a:α} {S:Sto} {Q:α->Sto->Prop} (h:Q a S):Ok (some (a,S)) Q:=⟨_,_,rfl,h⟩
noncomputable def wIf (b:Bool) (A B:Prop):Prop:=match b with
 | true=>A
 | false=>B
noncomputable def wBl (d:D) (Q:Bool->Prop):Prop:=match d with
 | .bl b=>Q b
 | .non=>False | .int _=>False | .str _=>False | .tup _=>False | .ref _=>False
noncomputable def cP (d:D) (Q:Int->Prop):Prop:=match d with
 | .int i=>Q i
 | .non=>False | .bl _=>False | .str _=>False | .tup _=>False | .ref _=>False
theorem kN {d:D} {Q:Bool->Prop} (h:wBl d Q):∃ b,d = .bl b/\Q b:=by cases d <;> first | exact h.elim | exact ⟨_,rfl,h⟩
theorem ce {d:D} {Q:Int->Prop} (h:cP d Q):∃ b,d = .int b/\Q b:=by cases d <;> first | exact h.elim | exact ⟨_,rfl,h⟩
noncomputable def K3 (o:Option D) (Q:D->Prop):Prop:=match o with
 | some d=>Q d
 | none=>False
noncomputable def qY:Rho->Nat->(D->Prop)->Prop
 | [],_,_=>False
 | o::_,0,Q=>K3 o Q
 | _::ρ,i+1,Q=>qY ρ i Q
theorem sQ:∀ {ρ:Rho} {i:Nat} {Q:D->Prop},qY ρ i Q->∃ d,ρ[i]?=some (some d)/\Q d
 | [],_,_,h=>h.elim
 | some d::_,0,_,h=>⟨d,rfl,h⟩
 | none::_,0,_,h=>h.elim
 | o::ρ,i+1,_,h=>by rw [List.getElem?_cons_succ];exact sQ (ρ:=ρ) h
noncomputable def JL (i:Nat):WP D:=fun ρ S Q=>qY ρ i fun d=>Q d S
theorem JM {i:Nat}:Sd (JL i) (ud i):=fun ρ S Q h=>by
 rw [FM]
 exact sQ h
noncomputable def wC (d:D):WP D:=fun _ S Q=>Q d S
theorem s_c {d:D}:Sd (wC d) (xC d):=fun _ _ _ h=>bC h
noncomputable def Bl (g:D->D->Sto->(D->Sto->Prop)->Prop) (x y:WP D):WP D:=fun ρ S Q=>x ρ S fun a S1=>y ρ S1 fun b S2=>g a b S2 Q
theorem yf {g:D->D->Sto->(D->Sto->Prop)->Prop} {f:D->D->Sto->Option (D × Sto)} {w v:WP D} {x y:XE} (hw:Sd w x) (hv:Sd v y) (hg:∀ {a b S Q},g a b S Q->Ok (f a b S) Q):Sd (Bl g w v) (oE f x y):=
 fun _ _ _ h=>ba ((hw _ _ _ h).mono fun _ _ h=>ba ((hv _ _ _ h).mono fun _ _ h=>hg h))
noncomputable def wUn {α β:Type} (g:α->Sto->(β->Sto->Prop)->Prop) (x:WP α):WP β:=fun ρ S Q=>x ρ S fun a S1=>g a S1 Q
theorem Bm {α β:Type} {g:α->Sto->(β->Sto->Prop)->Prop} {f:α->Sto->Option (β × Sto)} {w:WP α} {x:Rho->Sto->Option (α × Sto)} (hw:Sd w x) (hg:∀ {a S Q},g a S Q->Ok (f a S) Q):Sd (wUn g w) (fun ρ S=>bnd (x ρ S) f):=
 fun _ _ _ h=>ba ((hw _ _ _ h).mono fun _ _ h=>hg h)
noncomputable def wOk {α β:Type} (f:α->Sto->Option (β × Sto)) (a:α) (S:Sto) (Q:β->Sto->Prop):Prop:=Ok (f a S) Q
noncomputable def wII:BOp->Int->Int->Sto->(D->Sto->Prop)->Prop
 | .add,i,j,S,Q=>Q (.int (i+j)) S
 | .sub,i,j,S,Q=>Q (.int (i - j)) S
 | .mul,i,j,S,Q=>gR i j=true/\Q (.int (i * j)) S
 | .mod,i,j,S,Q=>0 < j/\Q (.int (i % j)) S
 | .fdiv,i,j,S,Q=>(0 < j/\j < 1073741824)/\Q (.int (i / j)) S
 | .pow,i,j,S,Q=>(0<=j/\j<=1000000/\i.natAbs < 2 ^ 64)/\Q (.int (i ^ j.toNat)) S
theorem F0 {o:BOp} {i j:Int} {S:Sto} {Q:D->Sto->Prop} (h:wII o i j S Q):Ok (bP o (.int i) (.int j) S) Q:=by
 cases o with
 | add=>rw [FN];exact h
 | sub=>rw [FO];exact h
 | mul=>rw [FT];exact h
 | mod=>rw [FS];exact h
 | fdiv=>rw [Bh];exact h
 | pow=>rw [FV];exact h
noncomputable def wTT:BOp->List D->List D->Sto->(D->Sto->Prop)->Prop
 | .add,xs,ys,S,Q=>xs.length+ys.length<=1000/\Q (.tup (xs++ys)) S
 | .sub,_,_,_,_=>False
 | .mul,_,_,_,_=>False
 | .mod,_,_,_,_=>False
 | .fdiv,_,_,_,_=>False
 | .pow,_,_,_,_=>False
theorem F1 {o:BOp} {i j:List D} {S:Sto} {Q:D->Sto->Prop} (h:wTT o i j S Q):Ok (bP o (.tup i) (.tup j) S) Q:=by
 cases o with
 | add=>rw [FZ];exact h
 | _=>exact h.elim
noncomputable def yg (o:BOp) (i:Int) (y:D) (S:Sto) (Q:D->Sto->Prop):Prop:=match y with
 | .int j=>wII o i j S Q
 | .non=>False | .bl _=>False | .str _=>False | .ref _=>False
 | .tup ys=>Ok (bP o (.int i) (.tup ys) S) Q
noncomputable def sR (o:BOp) (xs:List D) (y:D) (S:Sto) (Q:D->Sto->Prop):Prop:=match y with
 | .tup ys=>wTT o xs ys S Q
 | .non=>False | .bl _=>False | .str _=>False | .ref _=>False
 | .int j=>Ok (bP o (.tup xs) (.int j) S) Q
noncomputable def uM (o:BOp) (x y:D) (S:Sto) (Q:D->Sto->Prop):Prop:=match x with
 | .int i=>yg o i y S Q
 | .tup xs=>sR o xs y S Q
 | .non=>Ok (bP o .non y S) Q
 | .bl b=>Ok (bP o (.bl b) y S) Q
 | .str b=>Ok (bP o (.str b) y S) Q
 | .ref b=>Ok (bP o (.ref b) y S) Q
theorem Bn {o:BOp} {x y:D} {S:Sto} {Q:D->Sto->Prop} (h:uM o x y S Q):Ok (bP o x y S) Q:=by
 cases x with
 | int i=>cases y with
  | int j=>exact F0 h
  | tup ys=>exact h
  | _=>exact h.elim
 | tup xs=>cases y with
  | int j=>exact h
  | tup ys=>exact F1 h
  | _=>exact h.elim
 | _=>exact h
noncomputable def wCI:COp->Int->Int->Sto->(D->Sto->Prop)->Prop
 | .eq,i,j,S,Q=>Q (.bl (decide (i=j))) S
 | .ne,i,j,S,Q=>Q (.bl (!decide (i=j))) S
 | .lt,i,j,S,Q=>Q (.bl (decide (i < j))) S
 | .le,i,j,S,Q=>Q (.bl (decide (i<=j))) S
 | .gt,i,j,S,Q=>Q (.bl (decide (j < i))) S
 | .ge,i,j,S,Q=>Q (.bl (decide (j<=i))) S
 | .is,_,_,_,_=>False
 | .isnot,_,_,_,_=>False
 | .isin,_,_,_,_=>False
 | .notin,_,_,_,_=>False
theorem F2 {o:COp} {i j:Int} {S:Sto} {Q:D->Sto->Prop} (h:wCI o i j S Q):Ok (av o (.int i) (.int j) S) Q:=by
 cases o with
 | eq=>rw [FQ];exact h
 | ne=>rw [FR];exact h
 | lt=>rw [JG];exact h
 | le=>rw [JF];exact h
 | gt=>rw [JH];exact h
 | ge=>rw [JI];exact h
 | _=>exact h.elim
noncomputable def F3 (o:COp) (i:Int) (y:D) (S:Sto) (Q:D->Sto->Prop):Prop:=match y with
 | .int j=>wCI o i j S Q
 | .non=>Ok (av o (.int i) .non S) Q
 | .bl b=>Ok (av o (.int i) (.bl b) S) Q
 | .str b=>Ok (av o (.int i) (.str b) S) Q
 | .ref b=>Ok (av o (.int i) (.ref b) S) Q
 | .tup b=>Ok (av o (.int i) (.tup b) S) Q
noncomputable def uN (o:COp) (xs:List D) (y:D) (S:Sto) (Q:D->Sto->Prop):Prop:=match o with
 | .eq=>match y with
  | .tup ys=>match ys with
   | []=>Q (.bl xs.isEmpty) S
   | y::ys=>Ok (av .eq (.tup xs) (.tup (y::ys)) S) Q
  | .non=>Ok (av .eq (.tup xs) .non S) Q
  | .bl b=>Ok (av .eq (.tup xs) (.bl b) S) Q
  | .str b=>Ok (av .eq (.tup xs) (.str b) S) Q
  | .ref b=>Ok (av .eq (.tup xs) (.ref b) S) Q
  | .int b=>Ok (av .eq (.tup xs) (.int b) S) Q
 | .ne=>match y with
  | .tup ys=>match ys with
   | []=>Q (.bl (!xs.isEmpty)) S
   | y::ys=>Ok (av .ne (.tup xs) (.tup (y::ys)) S) Q
  | .non=>Ok (av .ne (.tup xs) .non S) Q
  | .bl b=>Ok (av .ne (.tup xs) (.bl b) S) Q
  | .str b=>Ok (av .ne (.tup xs) (.str b) S) Q
  | .ref b=>Ok (av .ne (.tup xs) (.ref b) S) Q
  | .int b=>Ok (av .ne (.tup xs) (.int b) S) Q
 | .is=>Ok (av .is (.tup xs) y S) Q
 | .isnot=>Ok (av .isnot (.tup xs) y S) Q
 | .isin=>Ok (av .isin (.tup xs) y S) Q
 | .notin=>Ok (av .notin (.tup xs) y S) Q
 | .lt=>False | .le=>False | .gt=>False | .ge=>False
noncomputable def wCx (o:COp) (x y:D) (S:Sto) (Q:D->Sto->Prop):Prop:=match x with
 | .int i=>F3 o i y S Q
 | .tup xs=>uN o xs y S Q
 | .non=>Ok (av o .non y S) Q
 | .bl b=>Ok (av o (.bl b) y S) Q
 | .str b=>Ok (av o (.str b) y S) Q
 | .ref b=>Ok (av o (.ref b) y S) Q
theorem F4 {o:COp} {x y:D} {S:Sto} {Q:D->Sto->Prop} (h:wCx o x y S Q):Ok (av o x y S) Q:=by
 cases x with
 | int i=>cases y with
  | int j=>exact F2 h
  | _=>exact h
 | tup xs=>cases o with
  | eq=>cases y with
   | tup ys=>cases ys with
    | nil=>rw [Bj,ad];exact h
    | cons y ys=>exact h
   | _=>exact h
  | ne=>cases y with
   | tup ys=>cases ys with
    | nil=>rw [Bk,ad];exact h
    | cons y ys=>exact h
   | _=>exact h
  | lt=>exact h.elim
  | le=>exact h.elim
  | gt=>exact h.elim
  | ge=>exact h.elim
  | _=>exact h
 | _=>exact h
noncomputable def wCm (o:COp) (x y:D) (S:Sto) (Q:D->Sto->Prop):Prop:=match o with
 | .is=>Ok (av .is x y S) Q
 | .isnot=>Ok (av .isnot x y S) Q
 | .isin=>Ok (av .isin x y S) Q
 | .notin=>Ok (av .notin x y S) Q
 | .eq=>wCx .eq x y S Q
 | .ne=>wCx .ne x y S Q
 | .lt=>wCx .lt x y S Q
 | .le=>wCx .le x y S Q
 | .gt=>wCx .gt x y S Q
 | .ge=>wCx .ge x y S Q
theorem nD {o:COp} {x y:D} {S:Sto} {Q:D->Sto->Prop} (h:wCm o x y S Q):Ok (av o x y S) Q:=by
 cases o <;> first | exact F4 h | exact h
noncomputable def F5 (o p:COp) (x y z:WP D):WP D:=fun ρ S Q=>x ρ S fun a S1=>y ρ S1 fun b S2=>wCm o a b S2 fun r S3=>wBl r fun c=>wIf c (z ρ S3 fun e S4=>wCm p b e S4 Q) (Q (.bl false) S3)
theorem Da {o p:COp} {w v u:WP D} {x y z:XE} (hw:Sd w x) (hv:Sd v y) (hu:Sd u z):Sd (F5 o p w v u) (uB (av o) (av p) x y z):=fun _ _ _ h=>by
 rw [FL]
 refine (hw _ _ _ h).mono fun a S1 h=>(hv _ _ _ h).mono fun b S2 h=>(nD h).mono fun r S3 h=>?_
 obtain ⟨c,e,h⟩:=kN h
 refine ⟨c,e,?_⟩
 cases c with
 | true=>exact (hu _ _ _ h).mono fun e S4 h=>nD h
 | false=>exact h
noncomputable def JN (x y:WP D):WP D:=fun ρ S Q=>x ρ S fun d S1=>wBl d fun b=>wIf b (y ρ S1 Q) (Q (.bl false) S1)
theorem JO {w v:WP D} {x y:XE} (hw:Sd w x) (hv:Sd v y):Sd (JN w v) (xg x y):=fun _ _ _ h=>by
 rw [FJ]
 refine (hw _ _ _ h).mono fun a S1 h=>?_
 obtain ⟨c,e,h⟩:=kN h
 refine ⟨c,e,?_⟩
 cases c with
 | true=>exact hv _ _ _ h
 | false=>exact h
noncomputable def wOr (x y:WP D):WP D:=fun ρ S Q=>x ρ S fun d S1=>wBl d fun b=>wIf b (Q (.bl true) S1) (y ρ S1 Q)
theorem K4 {w v:WP D} {x y:XE} (hw:Sd w x) (hv:Sd v y):Sd (wOr w v) (xOr x y):=fun _ _ _ h=>by
 rw [JE]
 refine (hw _ _ _ h).mono fun a S1 h=>?_
 obtain ⟨c,e,h⟩:=kN h
 refine ⟨c,e,?_⟩
 cases c with
 | false=>exact hv _ _ _ h
 | true=>exact h
noncomputable def JP (x:WP D):WP D:=fun ρ S Q=>x ρ S fun d S1=>wBl d fun b=>Q (.bl (!b)) S1
theorem JQ {w:WP D} {x:XE} (hw:Sd w x):Sd (JP w) (xUn uA x):=fun _ _ _ h=>ba ((hw _ _ _ h).mono fun a S1 h=>by
 rw [FK];exact kN h)
noncomputable def JR (x:WP D):WP D:=fun ρ S Q=>x ρ S fun d S1=>cP d fun i=>Q (.int (-i)) S1
theorem JS {w:WP D} {x:XE} (hw:Sd w x):Sd (JR w) (xUn EY x):=fun _ _ _ h=>ba ((hw _ _ _ h).mono fun a S1 h=>by
 obtain ⟨i,rfl,h⟩:=ce h
 exact bC h)
noncomputable def JT {α:Type} (c:WP Bool) (x y:WP α):WP α:=fun ρ S Q=>c ρ S fun b S1=>wIf b (x ρ S1 Q) (y ρ S1 Q)
theorem JU {c:WP Bool} {w v:WP D} {t:XT} {x y:XE} (hc:Sd c t) (hw:Sd w x) (hv:Sd v y):Sd (JT c w v) (EZ t x y):=fun _ _ _ h=>ba ((hc _ _ _ h).mono fun b S1 h=>by
 cases b with
 | true=>exact hw _ _ _ h
 | false=>exact hv _ _ _ h)
noncomputable def wO:Option (WP D)->WP (Option Int)
 | none=>fun _ S Q=>Q none S
 | some w=>fun ρ S Q=>w ρ S fun d S1=>cP d fun i=>Q (some i) S1
noncomputable def qZ (lo hi:Option Int) (d:D) (S:Sto) (Q:D->Sto->Prop):Prop:=match d with
 | .tup ds=>Q (.tup (aX ds lo hi)) S
 | .ref n=>Ok (slS lo hi (.ref n) S) Q
 | .non=>False | .bl _=>False | .str _=>False | .int _=>False
noncomputable def wSl (x:WP D) (lo hi:WP (Option Int)):WP D:=fun ρ S Q=>x ρ S fun d S1=>lo ρ S1 fun l S2=>hi ρ S2 fun h S3=>qZ l h d S3 Q
theorem K5:Sd (wO none) qt:=fun _ _ _ h=>bC h
theorem K6 {w:WP D} {x:XE} (hw:Sd w x):Sd (wO (some w)) (qu x):=fun _ _ _ h=>ba ((hw _ _ _ h).mono fun d S1 h=>by
 obtain ⟨i,rfl,h⟩:=ce h
 exact bC h)
theorem K7 {w:WP D} {l u:WP (Option Int)} {x:XE} {lo hi:XO} (hw:Sd w x) (hl:Sd l lo) (hu:Sd u hi):Sd (wSl w l u) (xSl x lo hi):=fun _ _ _ h=>ba ((hw _ _ _ h).mono fun d S1 h=>ba ((hl _ _ _ h).mono fun a S2 h=>ba ((hu _ _ _ h).mono fun b S3 h=>by
 cases d with
 | tup ds=>exact bC h
 | ref n=>exact h
 | _=>exact h.elim)))
noncomputable def Db (g:List D->Sto->Option (D × Sto)) (n:Nat) (x:WP (List D)):WP D:=fun ρ S Q=>x ρ S fun ds S1=>ds.length=n/\Ok (g ds S1) Q
theorem F6 {g:List D->Sto->Option (D × Sto)} {n:Nat} {w:WP (List D)} {x:XA} (hw:Sd w x):Sd (Db g n w) (o5 g n x):=fun _ _ _ h=>by
 rw [A0];exact hw _ _ _ h
noncomputable def iV (x:WP (List D)):WP D:=fun ρ S Q=>x ρ S fun ds S1=>Q (.ref S1.length) (S1++[.lst ds])
theorem fQ {w:WP (List D)} {x:XA} (hw:Sd w x):Sd (iV w) (cZ x):=fun _ _ _ h=>by rw [x6];exact hw _ _ _ h
noncomputable def eC:Nat->List CE->Prop->Prop
 | _,[],A=>A
 | 0,_::_,_=>False
 | n+1,_::es,A=>eC n es A
theorem im:∀ {n:Nat} {es:List CE} {A:Prop},eC n es A->es.length<=n/\A
 | n,[],_,h=>⟨Nat.zero_le _,by cases n <;> exact h⟩
 | 0,_::_,_,h=>h.elim
 | n+1,_::es,_,h=>by rw [List.length_cons];exact ⟨Nat.succ_le_succ (im (es:=es) h).1,(im (es:=es) h).2⟩
noncomputable def wSh {α:Type} (es:List CE) (x:WP α):WP α:=fun ρ S Q=>eC 60 es (x ρ S Q)
noncomputable def yh (c:D->Sto->Bool) (f:D->List D->Sto->Option (D × Sto)) (x:WP D) (y:WP (List D)):WP D:=fun ρ S Q=>x ρ S fun d S1=>c d S1=true/\y ρ S1 fun as S2=>Ok (f d as S2) Q
theorem sS {c:D->Sto->Bool} {f:D->List D->Sto->Option (D × Sto)} {w:WP D} {v:WP (List D)} {x:XE} {y:XA} (hw:Sd w x) (hv:Sd v y):Sd (yh c f w v) (qE c f x y):=fun _ _ _ h=>ba ((hw _ _ _ h).mono fun d S1 h=>by
 rw [if_pos h.1]
 exact ba (hv _ _ _ h.2))
noncomputable def F7 (x:WP D):WP (List D):=fun ρ S Q=>x ρ S fun d S1=>∃ i:Nat,d = .int i/\i<=1000/\Q ((List.range i).map fun j=>.int (Int.ofNat j)) S1
theorem Dc {w:WP D} {x:XE} (hw:Sd w x):Sd (F7 w) (uE x):=fun _ _ _ h=>FP (hw _ _ _ h)
noncomputable def F8:WP (List D):=fun _ S Q=>Q [] S
theorem Dd:Sd F8 ue:=fun _ _ _ h=>bC h
noncomputable def De (x:WP D) (y:WP (List D)):WP (List D):=fun ρ S Q=>x ρ S fun a S1=>y ρ S1 fun as S2=>Q (a::as) S2
theorem F9 {w:WP D} {v:WP (List D)} {x:XE} {y:XA} (hw:Sd w x) (hv:Sd v y):Sd (De w v) (rZ x y):=fun _ _ _ h=>ba ((hw _ _ _ h).mono fun d S1 h=>ba ((hv _ _ _ h).mono fun ds S2 h=>bC h))
noncomputable def K8 (o:Option D) (A:Prop):Prop:=match o with
 | none=>A
 | some _=>False
noncomputable def wFr:Rho->Nat->Prop->Prop
 | [],_,_=>False
 | o::_,0,A=>K8 o A
 | _::ρ,i+1,A=>wFr ρ i A
theorem nI:∀ {ρ:Rho} {i:Nat} {A:Prop},wFr ρ i A->ρ[i]?=some none/\A
 | [],_,_,h=>h.elim
 | none::_,0,_,h=>⟨rfl,h⟩
 | some _::_,0,_,h=>h.elim
 | o::ρ,i+1,_,h=>by rw [List.getElem?_cons_succ];exact nI (ρ:=ρ) h
noncomputable def pJ:List Tg->Rho->Prop->Prop
 | [],_,A=>A
 | .name i::ts,ρ,A=>wFr ρ i (pJ ts ρ A)
 | .tup us::ts,ρ,A=>cU (.tup us) ρ=true/\pJ ts ρ A
noncomputable def wFt:Tg->Rho->Prop->Prop
 | .name i,ρ,A=>wFr ρ i A
 | .tup ts,ρ,A=>pJ ts ρ A
theorem lY {i:Nat} {ρ:Rho} (h:ρ[i]?=some none):cU (.name i) ρ=true:=by rw [cU,h]
theorem nJ:∀ {ts:List Tg} {ρ:Rho} {A:Prop},pJ ts ρ A->eW ts ρ=true/\A
 | [],_,_,h=>⟨by rw [eW],h⟩
 | .name i::ts,ρ,_,h=>by
  obtain ⟨e,h⟩:=nI h
  obtain ⟨e2,h⟩:=nJ h
  exact ⟨by rw [eW,lY e,e2];rfl,h⟩
 | .tup us::ts,ρ,_,h=>by
  obtain ⟨e,h⟩:=h
  obtain ⟨e2,h⟩:=nJ h
  exact ⟨by rw [eW,e,e2];rfl,h⟩
theorem q8 {t:Tg} {ρ:Rho} {A:Prop} (h:wFt t ρ A):cU t ρ=true/\A:=by
 cases t with
 | name i=>exact ⟨lY (nI h).1,(nI h).2⟩
 | tup ts=>rw [cU];exact nJ h
noncomputable def pK:List Str->Rho->(Rho->Prop)->Prop
 | [],r,Q=>Q r
 | _::own,r,Q=>pK own (none::r) Q
noncomputable def pL:Rho->Rho->(Rho->Prop)->Prop
 | [],r,Q=>Q r
 | o::ρ,r,Q=>pL ρ r fun r'=>Q (o::r')
theorem sT:∀ {ρ r:Rho} {Q:Rho->Prop},pL ρ r Q->Q (ρ++r)
 | [],_,_,h=>h
 | o::ρ,r,Q,h=>sT (ρ:=ρ) (Q:=fun r'=>Q (o::r')) h
theorem sU:∀ {own:List Str} {k:Nat} {Q:Rho->Prop},pK own (List.replicate k none) Q->Q (List.replicate (own.length+k) none)
 | [],k,_,h=>by rw [List.length_nil,Nat.zero_add];exact h
 | _::own,k,Q,h=>by
  have:=sU (own:=own) (k:=k+1) h
  rw [List.length_cons,show own.length+1+k=own.length+(k+1) by omega];exact this
noncomputable def Df (own:List Str) (it:WP Nxt) (tg:Tg) (c:XA) (k:Nat):WP (List D):=fun ρ S Q=>it ρ S fun nx S1=>pK own [] fun r=>pL ρ r fun ρ'=>wFt tg ρ' (Ok (bq nx tg c ρ' k 0 S1) fun es S2=>es.length<=100000/\Q es S2)
theorem yi {own:List Str} {k:Nat} {w:WP Nxt} {it:XI} {tg:Tg} {c:XA} (hw:Sd w it):Sd (Df own w tg c k) (kj own.length it tg c k):=fun _ _ _ h=>by
 rw [A6]
 exact (hw _ _ _ h).mono fun nx S1 h=>by
  have h:=sT (sU (own:=own) (k:=0) h)
  exact q8 h
noncomputable def yj (it:WP Nxt) (tg:Tg) (c:XA) (k:Nat):WP (List D):=fun ρ S Q=>wFt tg ρ (it ρ S fun nx S1=>Ok (bq nx tg c ρ k 0 S1) Q)
theorem Bo {k:Nat} {w:WP Nxt} {it:XI} {tg:Tg} {c:XA} (hw:Sd w it):Sd (yj w tg c k) (iM it tg c k):=fun _ _ _ h=>by
 rw [x5]
 exact ⟨(q8 h).1,hw _ _ _ (q8 h).2⟩
noncomputable def yk (d:D) (S1:Sto) (Q:Nxt->Sto->Prop):Prop:=match d with
 | .tup ds=>Q (nxL ds) S1
 | .ref n=>(am S1 n).isSome=true/\Q (nxS n) S1
 | .non=>False | .bl _=>False | .str _=>False | .int _=>False
theorem K9 {w:WP D} {x:XE} (hw:Sd w x):Sd (fun ρ S Q=>w ρ S fun d S1=>yk d S1 Q) (xIV x):=fun _ _ _ h=>ba ((hw _ _ _ h).mono fun d S1 h=>by
 cases d with
 | tup ds=>exact bC h
 | ref n=>dsimp only;rw [if_pos h.1];exact bC h.2
 | _=>exact h.elim)
noncomputable def ym (d:D) (S1:Sto) (Q:Nxt->Sto->Prop):Prop:=match d with
 | .tup ds=>Q (m9 ds) S1
 | .ref n=>(am S1 n).isSome=true/\Q (wX n) S1
 | .non=>False | .bl _=>False | .str _=>False | .int _=>False
theorem La {w:WP D} {x:XE} (hw:Sd w x):Sd (fun ρ S Q=>w ρ S fun d S1=>ym d S1 Q) (xEV x):=fun _ _ _ h=>ba ((hw _ _ _ h).mono fun d S1 h=>by
 cases d with
 | tup ds=>exact bC h
 | ref n=>dsimp only;rw [if_pos h.1];exact bC h.2
 | _=>exact h.elim)
noncomputable def wOn {α β:Type} (f:α->β) (x:WP α):WP β:=fun ρ S Q=>x ρ S fun a S1=>Q (f a) S1
theorem yn {α β:Type} {f:α->β} {w:WP α} {x:Rho->Sto->Option (α × Sto)} (hw:Sd w x):Sd (wOn f w) (fun ρ S=>bnd (x ρ S) fun a S1=>some (f a,S1)):=fun _ _ _ h=>ba ((hw _ _ _ h).mono fun d S1 h=>bC h)
noncomputable def wR1 (x:WP D):WP Nxt:=fun ρ S Q=>x ρ S fun d S1=>cP d fun j=>lim j=true/\Q (nxR 0 j.toNat) S1
theorem Lb {w:WP D} {x:XE} (hw:Sd w x):Sd (wR1 w) (xR1 x):=fun _ _ _ h=>ba ((hw _ _ _ h).mono fun d S1 h=>by
 obtain ⟨i,rfl,h⟩:=ce h
 dsimp only;rw [if_pos h.1];exact bC h.2)
noncomputable def wR2 (x y:WP D):WP Nxt:=fun ρ S Q=>x ρ S fun d S1=>y ρ S1 fun e S2=>cP d fun i=>cP e fun j=>(lim i=true/\lim j=true)/\Q (nxR i (j - i).toNat) S2
theorem Lc {w v:WP D} {x y:XE} (hw:Sd w x) (hv:Sd v y):Sd (wR2 w v) (xR2 x y):=fun _ _ _ h=>ba ((hw _ _ _ h).mono fun d S1 h=>ba ((hv _ _ _ h).mono fun e S2 h=>by
 obtain ⟨i,rfl,h'⟩:=ce h
 obtain ⟨j,rfl,h''⟩:=ce h'
 dsimp only;rw [if_pos h''.1];exact bC h''.2))
noncomputable def ay (d:D) (S:Sto) (Q:Bool->Sto->Prop):Prop:=match d with
 | .bl b=>Q b S
 | .tup ds=>Q (!ds.isEmpty) S
 | .int i=>Q (i != 0) S
 | .non=>Q false S
 | .str y=>Ok (mX (.str y) S) Q
 | .ref y=>Ok (mX (.ref y) S) Q
theorem yo {d:D} {S:Sto} {Q:Bool->Sto->Prop} (h:ay d S Q):Ok (mX d S) Q:=by cases d <;> first | exact bC h | exact h
noncomputable def wB (x:WP D):WP Bool:=fun ρ S Q=>x ρ S fun d S1=>wBl d fun b=>Q b S1
theorem s_b {w:WP D} {x:XE} (hw:Sd w x):Sd (wB w) (xB x):=fun _ _ _ h=>by
 rw [JJ]
 exact (hw _ _ _ h).mono fun d S1 h=>kN h
noncomputable def Dg (x y:WP Bool):WP Bool:=fun ρ S Q=>x ρ S fun b S1=>wIf b (y ρ S1 Q) (Q false S1)
noncomputable def JV (x y:WP Bool):WP Bool:=fun ρ S Q=>x ρ S fun b S1=>wIf b (Q true S1) (y ρ S1 Q)
noncomputable def Dh (x:WP Bool):WP Bool:=fun ρ S Q=>x ρ S fun b S1=>Q (!b) S1
theorem Ga {w v:WP Bool} {x y:XT} (hw:Sd w x) (hv:Sd v y):Sd (Dg w v) (xj x y):=fun _ _ _ h=>ba ((hw _ _ _ h).mono fun b S1 h=>by
 cases b with
 | true=>exact hv _ _ _ h
 | false=>exact bC h)
theorem JW {w v:WP Bool} {x y:XT} (hw:Sd w x) (hv:Sd v y):Sd (JV w v) (E7 x y):=fun _ _ _ h=>ba ((hw _ _ _ h).mono fun b S1 h=>by
 cases b with
 | false=>exact hv _ _ _ h
 | true=>exact bC h)
theorem Gb {w:WP Bool} {x:XT} (hw:Sd w x):Sd (Dh w) (xk x):=fun _ _ _ h=>ba ((hw _ _ _ h).mono fun b S1 h=>bC h)
noncomputable def Di (t:WP Bool) (c:WP (List D)):WP (List D):=fun ρ S Q=>t ρ S fun b S1=>wIf b (c ρ S1 Q) (Q [] S1)
theorem Gc {t:WP Bool} {c:WP (List D)} {x:XT} {y:XA} (ht:Sd t x) (hc:Sd c y):Sd (Di t c) (xa x y):=fun _ _ _ h=>ba ((ht _ _ _ h).mono fun b S1 h=>by
 cases b with
 | true=>exact hc _ _ _ h
 | false=>exact bC h)
noncomputable def Bp (f:Bool->List D->Option (List D)) (ds:List D) (S:Sto) (Q:List D->Sto->Prop):Prop:=∃ es,f false ds=some es/\Q es S
noncomputable def Bq (f:Bool->List D->Option (List D)) (d:D) (S:Sto) (Q:List D->Sto->Prop):Prop:=∃ r es,aj d S=some r/\f r.1 r.2=some es/\Q es S
noncomputable def rb (d:D) (S:Sto) (Q:List D->Sto->Prop):Prop:=Ok ((aj d S).map fun r=>(r.2,S)) Q
theorem JX {f:Bool->List D->Option (List D)} {w:WP (List D)} {x:XA} (hw:Sd w x):Sd (fun ρ S Q=>w ρ S fun ds S1=>Bp f ds S1 Q) (uC f x):=fun _ _ _ h=>ba ((hw _ _ _ h).mono fun ds S1 ⟨es,e,h⟩=>by rw [e];exact bC h)
theorem JY {f:Bool->List D->Option (List D)} {w:WP D} {x:XE} (hw:Sd w x):Sd (fun ρ S Q=>w ρ S fun ds S1=>Bq f ds S1 Q) (uD f x):=fun _ _ _ h=>ba ((hw _ _ _ h).mono fun ds S1 ⟨r,es,e1,e,h⟩=>by
 rw [e1];dsimp only;rw [e];exact bC h)
noncomputable def wNo {α:Type}:WP α:=fun _ _ _=>False
theorem nK {α:Type} {x:Rho->Sto->Option (α × Sto)}:Sd wNo x:=fun _ _ _ h=>h.elim
noncomputable def aP (b:Bool) (x:WP (List D)) (y:WP D) (ρ:Rho) (S:Sto) (KT:List D->Sto->Prop) (KV:D->Sto->Prop):Prop:=match b with
 | true=>x ρ S KT
 | false=>y ρ S KV
noncomputable def wOf {α:Type} (b:Bool) (x:WP (List D)) (y:WP D) (gt:List D->Sto->(α->Sto->Prop)->Prop) (gv:D->Sto->(α->Sto->Prop)->Prop):WP α:=fun ρ S Q=>aP b x y ρ S (fun ds S1=>gt ds S1 Q) (fun d S1=>gv d S1 Q)
theorem s_of {α:Type} {b:Bool} {w:WP (List D)} {v:WP D} {gt:List D->Sto->(α->Sto->Prop)->Prop} {gv:D->Sto->(α->Sto->Prop)->Prop} {x y:Rho->Sto->Option (α × Sto)} (hw:Sd (fun ρ S Q=>w ρ S fun ds S1=>gt ds S1 Q) x) (hv:Sd (fun ρ S Q=>v ρ S fun d S1=>gv d S1 Q) y):Sd (wOf b w v gt gv) (if b=true then x else y):=by
 cases b with
 | true=>exact hw
 | false=>exact hv
theorem Ld {b:Bool} {w:WP (List D)} {v u:WP D} {x:XA} {y z:XE} (hw:Sd w x) (hu:Sd u z) (hv:Sd v y):Sd (fun ρ S Q=>aP b w u ρ S (fun ds S1=>v ρ S1 fun i S2=>cP i fun k=>∃ d,atI ds k=some d/\Q d S2) (fun d S1=>v ρ S1 fun i S2=>Ok (ixS d i S2) Q)) (if b=true then qp x y else oE ixS z y):=fun ρ S Q h=>by
 cases b with
 | true=>
  show Ok (qp x y ρ S) Q
  rw [FX]
  exact (hw _ _ _ h).mono fun ds S1 h=>(hv _ _ _ h).mono fun i S2 h=>ce h
 | false=>exact ba ((hu _ _ _ h).mono fun ds S1 h=>ba (hv _ _ _ h))
noncomputable def wO2 (t:CE->WP D):Option CE->Option (WP D)
 | none=>none
 | some e=>some (t e)
noncomputable def Bs (t:CE->WP Bool):Option CE->WP (List D)->WP (List D)
 | some c,x=>Di (t c) x
 | none,x=>x
noncomputable def yp (x y:D) (S:Sto) (Q:D->Sto->Prop):Prop:=cP x fun i=>cP y fun j=>Q (.int (if j > i then j else i)) S
noncomputable def yq (x y:D) (S:Sto) (Q:D->Sto->Prop):Prop:=cP x fun i=>cP y fun j=>Q (.int (if j < i then j else i)) S
noncomputable def w2 (g:D->D->Sto->(D->Sto->Prop)->Prop):List D->Sto->(D->Sto->Prop)->Prop
 | [],_,_=>False
 | [_],_,_=>False
 | [x,y],S,Q=>g x y S Q
 | _::_::_::_,_,_=>False
theorem Dj {g:D->D->Sto->(D->Sto->Prop)->Prop} {f:D->D->Sto->Option (D × Sto)} (hg:∀ {a b S Q},g a b S Q->Ok (f a b S) Q):∀ {ds:List D} {S:Sto} {Q:D->Sto->Prop},w2 g ds S Q->Ok (two f ds S) Q
 | [],_,_,h=>h.elim
 | [_],_,_,h=>h.elim
 | [x,y],_,_,h=>hg h
 | _::_::_::_,_,_,h=>h.elim
noncomputable def Dk:WP D:=fun _ S Q=>Q (.ref (List.length S)) (S++[.dic [] []])
noncomputable def Dl (i j:Int):WP D:=fun _ S Q=>Q (.ref (List.length S)) (S++[.dic [k8 i] [.int j]])
noncomputable def wCf (i:CI->WP Nxt) (own:List Str) (t:CE->XT) (e:List Cl->XA):List Cl->WP (List D)
 | []=>wNo
 | ⟨tg,it,cond⟩::rest=>Df own (i it) tg (cnd t cond (e rest)) LF
mutual
noncomputable def wE (C:Calls) (ar:Nat->Nat):Nat->CE->WP D
 | 0,_=>wNo
 | n+1,e=>match e with
  | .non=>wC .non
  | .bl b=>wC (.bl b)
  | .int i=>wC (.int i)
  | .str x=>wC (.str x)
  | .var i=>JL i
  | .con _ v=>wC (.int v)
  | .tup es=>wSh es (wOn D.tup (wA C ar n es))
  | .lst es=>iV (wSh es (wA C ar n es))
  | .dic0=>Dk
  | .dic1 i j=>Dl i j
  | .bin o a b=>Bl (uM o) (wE C ar n a) (wE C ar n b)
  | .neg a=>JR (wE C ar n a)
  | .cmp o a b=>Bl (wCm o) (wE C ar n a) (wE C ar n b)
  | .chn o p a b c=>F5 o p (wE C ar n a) (wE C ar n b) (wE C ar n c)
  | .and a b=>JN (wE C ar n a) (wE C ar n b)
  | .or a b=>wOr (wE C ar n a) (wE C ar n b)
  | .not a=>JP (wE C ar n a)
  | .ite c a b=>JT (wT C ar n c) (wE C ar n a) (wE C ar n b)
  | .ix a b=>fun ρ S Q=>aP (af a) (wTm C ar n a) (wE C ar n a) ρ S (fun ds S1=>wE C ar n b ρ S1 fun i S2=>cP i fun k=>∃ d,atI ds k=some d/\Q d S2) (fun d S1=>wE C ar n b ρ S1 fun i S2=>Ok (ixS d i S2) Q)
  | .sl a lo hi=>wSl (wE C ar n a) (wO (wO2 (wE C ar n) lo)) (wO (wO2 (wE C ar n) hi))
  | .call f es=>Db (C f) (ar f) (wA C ar n es)
  | .inst t a=>wUn (wOk (iZ t)) (wE C ar n a)
  | .len a=>wOf (af a) (wTm C ar n a) (wE C ar n a) (wOk (dQ false)) (wOk (aq dQ))
  | .all a=>wOf (af a) (wTm C ar n a) (wE C ar n a) (wOk (kZ false)) (wOk (aq kZ))
  | .any a=>wOf (af a) (wTm C ar n a) (wE C ar n a) (wOk (oK false)) (wOk (aq oK))
  | .tupOf a=>wOf (af a) (wTm C ar n a) (wE C ar n a) (wOk (iJ false)) (wOk (aq iJ))
  | .listOf a=>iV (wOf (af a) (wTm C ar n a) (wE C ar n a) (fun ds S Q=>Q ds S) rb)
  | .listR a=>iV (F7 (wE C ar n a))
  | .srt a=>iV (wOf (af a) (wTm C ar n a) (wE C ar n a) (Bp dF) (Bq dF))
  | .mxL a=>wOf (af a) (wTm C ar n a) (wE C ar n a) (wOk (oU false)) (wOk (aq oU))
  | .mnL a=>wOf (af a) (wTm C ar n a) (wE C ar n a) (wOk (oV false)) (wOk (aq oV))
  | .intOf a=>wUn (wOk Af) (wE C ar n a)
  | .mx a b=>wUn (w2 yp) (wA C ar n [a,b])
  | .mn a b=>wUn (w2 yq) (wA C ar n [a,b])
  | .rep a=>wUn (wOk i7) (wE C ar n a)
  | .comp own elt cls=>iV (wCf (wI C ar n) own (evT C ar n) (fU C ar n elt) cls)
  | .app o a=>yh dE oW (wE C ar n o) (wA C ar n [a])
  | .pop o=>yh dE wW (wE C ar n o) F8
  | .popAt o a=>yh dE gi (wE C ar n o) (wA C ar n [a])
  | .cnt o a=>yh (fun d _=>isTup d) qH (wE C ar n o) (wA C ar n [a])
noncomputable def wA (C:Calls) (ar:Nat->Nat):Nat->List CE->WP (List D)
 | 0,_=>wNo
 | n+1,es=>match es with
  | []=>F8
  | e::es=>De (wE C ar n e) (wA C ar n es)
noncomputable def wTm (C:Calls) (ar:Nat->Nat):Nat->CE->WP (List D)
 | 0,_=>wNo
 | n+1,e=>match e with
  | .lst es=>wSh es (wA C ar n es)
  | .listOf a=>wOf (af a) (wTm C ar n a) (wE C ar n a) (fun ds S Q=>Q ds S) rb
  | .listR a=>F7 (wE C ar n a)
  | .srt a=>wOf (af a) (wTm C ar n a) (wE C ar n a) (Bp dF) (Bq dF)
  | .comp own elt cls=>wCf (wI C ar n) own (evT C ar n) (fU C ar n elt) cls
  | .non=>wNo
  | .bl _=>wNo
  | .int _=>wNo
  | .str _=>wNo
  | .var _=>wNo
  | .con _ _=>wNo
  | .tup _=>wNo
  | .dic0=>wNo
  | .dic1 _ _=>wNo
  | .bin _ _ _=>wNo
  | .neg _=>wNo
  | .cmp _ _ _=>wNo
  | .chn _ _ _ _ _=>wNo
  | .and _ _=>wNo
  | .or _ _=>wNo
  | .not _=>wNo
  | .ite _ _ _=>wNo
  | .ix _ _=>wNo
  | .sl _ _ _=>wNo
  | .call _ _=>wNo
  | .inst _ _=>wNo
  | .len _=>wNo
  | .all _=>wNo
  | .any _=>wNo
  | .tupOf _=>wNo
  | .mxL _=>wNo
  | .mnL _=>wNo
  | .intOf _=>wNo
  | .mx _ _=>wNo
  | .mn _ _=>wNo
  | .rep _=>wNo
  | .app _ _=>wNo
  | .pop _=>wNo
  | .popAt _ _=>wNo
  | .cnt _ _=>wNo
noncomputable def wI (C:Calls) (ar:Nat->Nat):Nat->CI->WP Nxt
 | 0,_=>wNo
 | n+1,it=>match it with
  | .val a=>wOf (af a) (wTm C ar n a) (wE C ar n a) (fun ds S Q=>Q (nxL ds) S) yk
  | .r1 a=>wR1 (wE C ar n a)
  | .r2 a b=>wR2 (wE C ar n a) (wE C ar n b)
  | .en a=>wOf (af a) (wTm C ar n a) (wE C ar n a) (fun ds S Q=>Q (m9 ds) S) ym
noncomputable def wT (C:Calls) (ar:Nat->Nat):Nat->CE->WP Bool
 | 0,_=>wNo
 | n+1,e=>match e with
  | .cmp o a b=>wB (Bl (wCm o) (wE C ar n a) (wE C ar n b))
  | .chn o p a b c=>wB (F5 o p (wE C ar n a) (wE C ar n b) (wE C ar n c))
  | .and a b=>Dg (wT C ar n a) (wT C ar n b)
  | .or a b=>JV (wT C ar n a) (wT C ar n b)
  | .not a=>Dh (wT C ar n a)
  | .ite _ _ _=>wNo
  | .non=>wUn ay (wE C ar n (.non))
  | .bl b=>wUn ay (wE C ar n (.bl b))
  | .int i=>wUn ay (wE C ar n (.int i))
  | .str x=>wUn ay (wE C ar n (.str x))
  | .var i=>wUn ay (wE C ar n (.var i))
  | .con k v=>wUn ay (wE C ar n (.con k v))
  | .tup es=>wUn ay (wE C ar n (.tup es))
  | .lst es=>wUn ay (wE C ar n (.lst es))
  | .dic0=>wUn ay (wE C ar n (.dic0))
  | .dic1 i j=>wUn ay (wE C ar n (.dic1 i j))
  | .bin o a b=>wUn ay (wE C ar n (.bin o a b))
  | .neg a=>wUn ay (wE C ar n (.neg a))
  | .ix a b=>wUn ay (wE C ar n (.ix a b))
  | .sl a lo hi=>wUn ay (wE C ar n (.sl a lo hi))
  | .call f es=>wUn ay (wE C ar n (.call f es))
  | .inst t a=>wUn ay (wE C ar n (.inst t a))
  | .len a=>wUn ay (wE C ar n (.len a))
  | .all a=>wUn ay (wE C ar n (.all a))
  | .any a=>wUn ay (wE C ar n (.any a))
  | .tupOf a=>wUn ay (wE C ar n (.tupOf a))
  | .listOf a=>wUn ay (wE C ar n (.listOf a))
  | .listR a=>wUn ay (wE C ar n (.listR a))
  | .srt a=>wUn ay (wE C ar n (.srt a))
  | .mxL a=>wUn ay (wE C ar n (.mxL a))
  | .mnL a=>wUn ay (wE C ar n (.mnL a))
  | .intOf a=>wUn ay (wE C ar n (.intOf a))
  | .mx a b=>wUn ay (wE C ar n (.mx a b))
  | .mn a b=>wUn ay (wE C ar n (.mn a b))
  | .rep a=>wUn ay (wE C ar n (.rep a))
  | .comp own elt cls=>wUn ay (wE C ar n (.comp own elt cls))
  | .app o a=>wUn ay (wE C ar n (.app o a))
  | .pop o=>wUn ay (wE C ar n (.pop o))
  | .popAt o a=>wUn ay (wE C ar n (.popAt o a))
  | .cnt o a=>wUn ay (wE C ar n (.cnt o a))
end
noncomputable def wCl (C:Calls) (ar:Nat->Nat) (n:Nat) (elt:CE):List Cl->WP (List D)
 | []=>wOn (fun d=>[d]) (wE C ar n elt)
 | ⟨tg,it,cond⟩::rest=>yj (wI C ar n it) tg (cnd (evT C ar n) cond (fU C ar n elt rest)) LF
theorem nM {C:Calls} {ar:Nat->Nat}:∀ {n:Nat} {es:List CE} {ρ:Rho} {S S':Sto} {ds:List D},evA C ar n es ρ S=some (ds,S')->ds.length=es.length
 | 0,_,_,_,_,_,h=>by simp only [evA,xNo] at h;cases h
 | n+1,[],_,_,_,_,h=>by simp only [evA,ue] at h;cases h;rfl
 | n+1,e::es,_,_,_,_,h=>by
  simp only [evA,rZ] at h
  obtain ⟨a,S1,e1,h⟩:=aa h
  obtain ⟨as,S2,e2,h⟩:=aa h
  cases h
  rw [List.length_cons,List.length_cons,nM e2]
structure SndW (C:Calls) (ar:Nat->Nat) (n:Nat):Prop where
 e:∀ {e:CE},Sd (wE C ar n e) (evE C ar n e)
 a:∀ {es:List CE},Sd (wA C ar n es) (evA C ar n es)
 m:∀ {e:CE},Sd (wTm C ar n e) (ci C ar n e)
 i:∀ {i:CI},Sd (wI C ar n i) (evI C ar n i)
 t:∀ {e:CE},Sd (wT C ar n e) (evT C ar n e)
section
variable {C:Calls} {ar:Nat->Nat} {n:Nat}
theorem JZ (h:SndW C ar n) {es:List CE}:Sd (wSh es (wOn D.tup (wA C ar n es))) (jt ju (evA C ar n es)):=fun ρ S Q w=>by
 obtain ⟨le,w⟩:=im w
 obtain ⟨ds,S1,e1,q⟩:=h.a _ _ _ w
 refine ba ⟨ds,S1,e1,?_⟩
 have l:=nM e1
 show Ok (ju ds S1) Q
 rw [A8]
 exact ⟨by omega,q⟩
theorem yr (h:SndW C ar n) {es:List CE}:Sd (wSh es (wA C ar n es)) (lF (evA C ar n es)):=fun ρ S Q w=>by
 obtain ⟨le,w⟩:=im w
 obtain ⟨ds,S1,e1,q⟩:=h.a _ _ _ w
 rw [A7]
 have l:=nM e1
 exact ⟨ds,S1,e1,by omega,q⟩
theorem Dm (h:SndW C ar n) {o:Option CE}:Sd (wO (wO2 (wE C ar n) o)) (opt (evE C ar n) o):=by
 cases o with
 | none=>exact K5
 | some e=>exact K6 h.e
theorem Bt {a b:D} {S:Sto} {Q:D->Sto->Prop} (h:yp a b S Q):Ok (wM a b S) Q:=by
 obtain ⟨i,rfl,h'⟩:=ce h
 obtain ⟨j,rfl,h''⟩:=ce h'
 exact bC h''
theorem Bu {a b:D} {S:Sto} {Q:D->Sto->Prop} (h:yq a b S Q):Ok (wN a b S) Q:=by
 obtain ⟨i,rfl,h'⟩:=ce h
 obtain ⟨j,rfl,h''⟩:=ce h'
 exact bC h''
end
end Ev
namespace Ev
open PySem PySem.Spec PyProof.Rows L2
section
variable {C:Calls} {ar:Nat->Nat} {n:Nat}
theorem J0 (h:SndW C ar n) {o:Option CE} {w:WP (List D)} {x:XA} (hw:Sd w x):Sd (Bs (wT C ar n) o w) (cnd (evT C ar n) o x):=by
 cases o with
 | none=>exact hw
 | some c=>exact Gc h.t hw
theorem yt {α β:Type} {f:α->Sto->Option (β × Sto)} {a:α} {S:Sto} {Q:β->Sto->Prop} (h:wOk f a S Q):Ok (f a S) Q:=h
theorem s_q (h:SndW C ar n) {f:Bool->List D->Sto->Option (D × Sto)} {a:CE}:Sd (wOf (af a) (wTm C ar n a) (wE C ar n a) (wOk (f false)) (wOk (aq f))) (if af a=true then mN f (ci C ar n a) else mO f (evE C ar n a)):=
 s_of (Bm (f:=f false) h.m yt) (Bm (f:=aq f) h.e yt)
theorem Dn (h:SndW C ar n) {a:CE}:Sd (wOf (af a) (wTm C ar n a) (wE C ar n a) (fun ds S Q=>Q ds S) rb) (if af a=true then ci C ar n a else kl (evE C ar n a)):=s_of h.m (fun _ _ _ w=>ba (h.e _ _ _ w))
theorem Dp (h:SndW C ar n) {a:CE}:Sd (wOf (af a) (wTm C ar n a) (wE C ar n a) (Bp dF) (Bq dF)) (if af a=true then uC dF (ci C ar n a) else uD dF (evE C ar n a)):=s_of (JX h.m) (JY h.e)
theorem s_u {g:D->Sto->Option (D × Sto)} {w:WP D} {x:XE} (hw:Sd w x):Sd (wUn (wOk g) w) (xUn g x):=Bm (f:=g) hw yt
theorem Lf {w:WP (List D)} {x:XA} (hw:Sd w x):Sd (wUn (w2 yp) w) (jt (two wM) x):=fun _ _ _ h=>ba ((hw _ _ _ h).mono fun _ _ h=>Dj (fun z=>Bt z) h)
theorem Lg {w:WP (List D)} {x:XA} (hw:Sd w x):Sd (wUn (w2 yq) w) (jt (two wN) x):=fun _ _ _ h=>ba ((hw _ _ _ h).mono fun _ _ h=>Dj (fun z=>Bu z) h)
theorem Gd:Sd Dk xm:=fun _ _ _ h=>bC h
theorem Gf {i j:Int}:Sd (Dl i j) (xn i j):=fun _ _ _ h=>bC h
theorem J1 {w:WP D} {x:XE} (hw:Sd w x):Sd (wUn ay w) (z9 x):=Bm (f:=mX) hw yo
theorem pM:∀ n,SndW C ar n
 | 0=>⟨nK,nK,nK,nK,nK⟩
 | n+1=>by
  have h:=pM n
  refine ⟨fun {e}=>?_,fun {es}=>?_,fun {e}=>?_,fun {i}=>?_,fun {e}=>?_⟩
  ·cases e with
   | non=>exact s_c
   | bl b=>exact s_c
   | int b=>exact s_c
   | str b=>exact s_c
   | var b=>exact JM
   | con b v=>exact s_c
   | tup es=>exact JZ h
   | lst es=>exact fQ (yr h)
   | dic0=>exact Gd
   | dic1 i j=>exact Gf
   | bin o a b=>exact yf h.e h.e Bn
   | neg a=>exact JS h.e
   | cmp o a b=>exact yf h.e h.e nD
   | chn o p a b c=>exact Da h.e h.e h.e
   | and a b=>exact JO h.e h.e
   | or a b=>exact K4 h.e h.e
   | not a=>exact JQ h.e
   | ite c a b=>exact JU h.t h.e h.e
   | ix a b=>exact Ld h.m h.e h.e
   | sl a lo hi=>exact K7 h.e (Dm h) (Dm h)
   | call f es=>exact F6 h.a
   | inst t a=>exact s_u h.e
   | len a=>exact s_q h
   | all a=>exact s_q h
   | any a=>exact s_q h
   | tupOf a=>exact s_q h
   | listOf a=>exact fQ (Dn h)
   | listR a=>exact fQ (Dc h.e)
   | srt a=>exact fQ (Dp h)
   | mxL a=>exact s_q h
   | mnL a=>exact s_q h
   | intOf a=>exact s_u h.e
   | mx a b=>exact Lf h.a
   | mn a b=>exact Lg h.a
   | rep a=>exact s_u h.e
   | comp own elt cls=>cases cls with
    | nil=>exact fQ nK
    | cons c rest=>cases c with | mk tg it cond=>exact fQ (yi h.i)
   | app o a=>exact sS h.e h.a
   | pop o=>exact sS h.e Dd
   | popAt o a=>exact sS h.e h.a
   | cnt o a=>exact sS h.e h.a
  ·cases es with
   | nil=>exact Dd
   | cons e es=>exact F9 h.e h.a
  ·cases e with
   | lst es=>exact yr h
   | listOf a=>exact Dn h
   | listR a=>exact Dc h.e
   | srt a=>exact Dp h
   | comp own elt cls=>cases cls with
    | nil=>exact nK
    | cons c rest=>cases c with | mk tg it cond=>exact yi h.i
   | _=>exact nK
  ·cases i with
   | val a=>exact s_of (yn h.m) (K9 h.e)
   | r1 a=>exact Lb h.e
   | r2 a b=>exact Lc h.e h.e
   | en a=>exact s_of (yn h.m) (La h.e)
  ·cases e with
   | cmp o a b=>exact s_b (yf h.e h.e nD)
   | chn o p a b c=>exact s_b (Da h.e h.e h.e)
   | and a b=>exact Ga h.t h.t
   | or a b=>exact JW h.t h.t
   | not a=>exact Gb h.t
   | ite a b c=>exact nK
   | _=>exact J1 h.e
theorem Lh {elt:CE} {cls:List Cl}:Sd (wCl C ar n elt cls) (fU C ar (n+1) elt cls):=by
 cases cls with
 | nil=>exact yn (pM n).e
 | cons c rest=>cases c with | mk tg it cond=>exact Bo (pM n).i
theorem Gg {elt:CE} {cls:List Cl} {o:Option CE} {ρ:Rho} {S:Sto} {Q:List D->Sto->Prop} (h:Bs (wT C ar (n+1)) o (wCl C ar n elt cls) ρ S Q):Ok (cnd (evT C ar (n+1)) o (fU C ar (n+1) elt cls) ρ S) Q:=J0 (pM (n+1)) Lh _ _ _ h
noncomputable def wNm:Nat->D->Rho->(Rho->Prop)->Prop
 | _,_,[],_=>False
 | 0,d,_::ρ,Q=>Q (some d::ρ)
 | i+1,d,o::ρ,Q=>wNm i d ρ fun ρ'=>Q (o::ρ')
theorem nP:∀ {i:Nat} {d:D} {ρ:Rho} {Q:Rho->Prop},wNm i d ρ Q->i < ρ.length/\Q (ρ.set i (some d))
 | i,_,[],_,h=>by cases i <;> exact h.elim
 | 0,d,_::ρ,Q,h=>⟨by simp,h⟩
 | i+1,d,o::ρ,Q,h=>by
  have:=nP (ρ:=ρ) (Q:=fun ρ'=>Q (o::ρ')) h
  exact ⟨by rw [List.length_cons];omega,this.2⟩
noncomputable def wBs:List Tg->List D->Rho->(Rho->Prop)->Prop
 | [],[],ρ,Q=>Q ρ
 | [],_::_,_,_=>False
 | .name _::_,[],_,_=>False
 | .tup _::_,[],_,_=>False
 | .name i::ts,d::ds,ρ,Q=>wNm i d ρ fun ρ1=>wBs ts ds ρ1 Q
 | .tup us::ts,d::ds,ρ,Q=>∃ ρ1,aB (.tup us) d ρ=some ρ1/\wBs ts ds ρ1 Q
noncomputable def wTp (ts:List Tg) (d:D) (ρ:Rho) (Q:Rho->Prop):Prop:=match d with
 | .tup ds=>wBs ts ds ρ Q
 | .non=>False | .bl _=>False | .str _=>False | .int _=>False | .ref _=>False
noncomputable def wBd:Tg->D->Rho->(Rho->Prop)->Prop
 | .name i,d,ρ,Q=>wNm i d ρ Q
 | .tup ts,d,ρ,Q=>wTp ts d ρ Q
theorem yu {i:Nat} {d:D} {ρ:Rho} {Q:Rho->Prop} (h:wNm i d ρ Q):∃ ρ1,aB (.name i) d ρ=some ρ1/\Q ρ1:=⟨_,by rw [Be,if_pos (nP h).1],(nP h).2⟩
theorem rd:∀ {ts:List Tg} {ds:List D} {ρ:Rho} {Q:Rho->Prop},wBs ts ds ρ Q->∃ ρ1,aI ts ds ρ=some ρ1/\Q ρ1
 | [],[],ρ,Q,h=>⟨ρ,sM,h⟩
 | [],_::_,_,_,h=>h.elim
 | .name _::_,[],_,_,h=>h.elim
 | .tup _::_,[],_,_,h=>h.elim
 | .name i::ts,d::ds,ρ,Q,h=>by
  obtain ⟨ρ1,e,q⟩:=yu h
  obtain ⟨ρ2,e2,q⟩:=rd q
  exact ⟨ρ2,by rw [aI,e];exact e2,q⟩
 | .tup us::ts,d::ds,ρ,Q,h=>by
  obtain ⟨ρ1,e,q⟩:=h
  obtain ⟨ρ2,e2,q⟩:=rd q
  exact ⟨ρ2,by rw [aI,e];exact e2,q⟩
theorem Gh {t:Tg} {d:D} {ρ:Rho} {Q:Rho->Prop} (h:wBd t d ρ Q):∃ ρ1,aB t d ρ=some ρ1/\Q ρ1:=by
 cases t with
 | name i=>exact yu h
 | tup ts=>cases d with
  | tup ds=>rw [yb];exact rd h
  | _=>exact h.elim
noncomputable abbrev WS:=Rho->Sto->(Fl->Rho->Sto->Prop)->Prop
noncomputable def rW (y:WS) (ρ:Rho) (S:Sto) (Q:Fl->Rho->Sto->Prop):Prop:=y ρ S Q
noncomputable def wNx (y:WS) (Q:Fl->Rho->Sto->Prop) (f:Fl) (ρ:Rho) (S:Sto):Prop:=match f with
 | .nx=>rW y ρ S Q
 | .rt d=>Q (.rt d) ρ S
 | .bk=>Q .bk ρ S
 | .ct=>Q .ct ρ S
mutual
noncomputable def wS (C:Calls) (ar:Nat->Nat):Nat->CS->WS
 | 0,_=>fun _ _ _=>False
 | n+1,s=>match s with
  | .asg t e=>fun ρ S Q=>wE C ar n e ρ S fun d S1=>wBd t d ρ fun ρ1=>Q .nx ρ1 S1
  | .setI v o i=>fun ρ S Q=>wE C ar n v ρ S fun a S1=>wE C ar n o ρ S1 fun b S2=>wE C ar n i ρ S2 fun c S3=>∃ S4,k7 b c a S3=some S4/\Q .nx ρ S4
  | .ex e=>fun ρ S Q=>wE C ar n e ρ S fun _ S1=>Q .nx ρ S1
  | .ret e=>fun ρ S Q=>wE C ar n e ρ S fun d S1=>Q (.rt d) ρ S1
  | .retN=>fun ρ S Q=>Q (.rt .non) ρ S
  | .ifs c a b=>fun ρ S Q=>wT C ar n c ρ S fun t S1=>wIf t (rW (wSs C ar n a) ρ S1 Q) (rW (wSs C ar n b) ρ S1 Q)
  | .for_ t it b=>fun ρ S Q=>wI C ar n it ρ S fun nx S1=>OkS (eM nx t (eO C ar n b) LF 0 ρ S1) Q
  | .while_ c b=>fun ρ S Q=>OkS (c7 (evT C ar n c) (eO C ar n b) LF ρ S) Q
  | .pass=>fun ρ S Q=>Q .nx ρ S
  | .brk=>fun ρ S Q=>Q .bk ρ S
  | .cnt=>fun ρ S Q=>Q .ct ρ S
  | .never=>fun _ _ _=>False
noncomputable def wSs (C:Calls) (ar:Nat->Nat):Nat->List CS->WS
 | 0,_=>fun _ _ _=>False
 | n+1,ss=>match ss with
  | []=>fun ρ S Q=>Q .nx ρ S
  | s::ss=>fun ρ S Q=>wS C ar n s ρ S (wNx (wSs C ar n ss) Q)
end
structure SdS (C:Calls) (ar:Nat->Nat) (n:Nat):Prop where
 s:∀ {s:CS} {ρ S Q},wS C ar n s ρ S Q->OkS (evS C ar n s ρ S) Q
 ss:∀ {ss:List CS} {ρ S Q},wSs C ar n ss ρ S Q->OkS (eO C ar n ss ρ S) Q
theorem yv:∀ n,SdS C ar n
 | 0=>⟨fun h=>by simp only [wS] at h,fun h=>by simp only [wSs] at h⟩
 | n+1=>by
  have h:=yv n
  have g:SndW C ar n:=pM n
  refine ⟨fun {s ρ S Q} w=>?_,fun {ss ρ S Q} w=>?_⟩
  ·cases s with
   | asg t e=>simp only [evS,AX];simp only [wS] at w;exact (g.e _ _ _ w).mono fun d S1 w=>Gh w
   | setI v o i=>simp only [evS,xZ];simp only [wS] at w;exact (g.e _ _ _ w).mono fun a S1 w=>(g.e _ _ _ w).mono fun b S2 w=>g.e _ _ _ w
   | ex e=>simp only [evS,xY];simp only [wS] at w;exact g.e _ _ _ w
   | ret e=>simp only [evS,AY];simp only [wS] at w;exact g.e _ _ _ w
   | retN=>simp only [wS] at w;simp only [evS];exact ⟨_,_,_,rfl,w⟩
   | ifs c a b=>
    simp only [evS,FG];simp only [wS] at w
    refine (g.t _ _ _ w).mono fun t S1 w=>?_
    cases t with
    | true=>exact h.ss w
    | false=>exact h.ss w
   | for_ t it b=>simp only [evS,AZ];simp only [wS] at w;exact g.i _ _ _ w
   | while_ c b=>simp only [wS] at w;simp only [evS];exact w
   | pass=>simp only [wS] at w;simp only [evS];exact ⟨_,_,_,rfl,w⟩
   | brk=>simp only [wS] at w;simp only [evS];exact ⟨_,_,_,rfl,w⟩
   | cnt=>simp only [wS] at w;simp only [evS];exact ⟨_,_,_,rfl,w⟩
   | never=>simp only [wS] at w
  ·cases ss with
   | nil=>simp only [wSs] at w;simp only [eO];exact ⟨_,_,_,rfl,w⟩
   | cons s ss=>
    simp only [wSs] at w
    simp only [eO,AW]
    refine (h.s w).mono fun f ρ1 S1 w=>?_
    cases f with
    | nx=>exact h.ss w
    | _=>exact w
theorem Gi {ss:List CS} {ρ:Rho} {S:Sto} {Q:Fl->Rho->Sto->Prop} (h:rW (wSs C ar n ss) ρ S Q):OkS (eO C ar n ss ρ S) Q:=(yv n).ss h
theorem yw {s:CS} {ss:List CS} {ρ:Rho} {S:Sto} {Q:Fl->Rho->Sto->Prop} (h:wS C ar n s ρ S (wNx (wSs C ar n ss) Q)):rW (wSs C ar (n+1) (s::ss)) ρ S Q:=h
theorem Bv {ρ:Rho} {S:Sto} {Q:Fl->Rho->Sto->Prop} (h:Q .nx ρ S):rW (wSs C ar (n+1) []) ρ S Q:=h
end
end Ev
namespace Ev
open PySem PySem.Spec PyProof.Rows L2
section
variable {C:Calls} {ar:Nat->Nat} {A B:Prop} {S S1:Sto} {Q:D->Sto->Prop} {Ql:List D->Sto->Prop} {Qn:Nxt->Sto->Prop} {Qb:Bool->Prop} {Qi:Int->Prop} {Qd:D->Prop} {Qr:Rho->Prop} {Qt:Bool->Sto->Prop} {Qs:Fl->Rho->Sto->Prop} {t:Bool} {d x y:D} {i j:Int} {n m f:Nat} {s:Str} {o:BOp} {c p:COp} {ds xs ys:List D} {l h:Option Int} {tg:Tg} {ts:List Tg} {ρ ρ2:Rho} {es:List CE} {a b e:CE} {oa ob cd:Option CE} {own:List Str} {it:CI} {rest:List Cl} {ty:Ty} {w wl:WP (List D)} {wv:WP D} {sa sb:List CS} {ws:WS} {od:Option D} {g:D->D->Sto->(D->Sto->Prop)->Prop}
theorem Gj:wE C ar (n+1) (.non) ρ S Q=(Q .non S):=rfl
theorem J2:wE C ar (n+1) (.bl t) ρ S Q=(Q (.bl t) S):=rfl
theorem Gk:wE C ar (n+1) (.int i) ρ S Q=(Q (.int i) S):=rfl
theorem Gm:wE C ar (n+1) (.str s) ρ S Q=(Q (.str s) S):=rfl
theorem Gn:wE C ar (n+1) (.con m i) ρ S Q=(Q (.int i) S):=rfl
theorem Go:wE C ar (n+1) (.var m) ρ S Q=(qY ρ m fun d=>Q d S):=rfl
theorem Gp:wE C ar (n+1) (.tup es) ρ S Q=(eC 60 es (wA C ar n es ρ S fun ds S1=>Q (.tup ds) S1)):=rfl
theorem Gq:wE C ar (n+1) (.lst es) ρ S Q=(eC 60 es (wA C ar n es ρ S fun ds S1=>Q (.ref S1.length) (S1++[.lst ds]))):=rfl
theorem Bw:wE C ar (n+1) (.dic0) ρ S Q=(Q (.ref (List.length S)) (S++[.dic [] []])):=rfl
theorem Bx:wE C ar (n+1) (.dic1 i j) ρ S Q=(Q (.ref (List.length S)) (S++[.dic [k8 i] [.int j]])):=rfl
theorem Gr:wE C ar (n+1) (.bin o a b) ρ S Q=(wE C ar n a ρ S fun x S1=>wE C ar n b ρ S1 fun y S2=>uM o x y S2 Q):=rfl
theorem Gs:wE C ar (n+1) (.neg a) ρ S Q=(wE C ar n a ρ S fun d S1=>cP d fun i=>Q (.int (-i)) S1):=rfl
theorem Gu:wE C ar (n+1) (.cmp c a b) ρ S Q=(wE C ar n a ρ S fun x S1=>wE C ar n b ρ S1 fun y S2=>wCm c x y S2 Q):=rfl
theorem Gv:wE C ar (n+1) (.chn c p a b e) ρ S Q=(wE C ar n a ρ S fun x S1=>wE C ar n b ρ S1 fun y S2=>wCm c x y S2 fun r S3=>wBl r fun t=>wIf t (wE C ar n e ρ S3 fun z S4=>wCm p y z S4 Q) (Q (.bl false) S3)):=rfl
theorem Gw:wE C ar (n+1) (.and a b) ρ S Q=(wE C ar n a ρ S fun d S1=>wBl d fun t=>wIf t (wE C ar n b ρ S1 Q) (Q (.bl false) S1)):=rfl
theorem J3:wE C ar (n+1) (.or a b) ρ S Q=(wE C ar n a ρ S fun d S1=>wBl d fun t=>wIf t (Q (.bl true) S1) (wE C ar n b ρ S1 Q)):=rfl
theorem Gx:wE C ar (n+1) (.not a) ρ S Q=(wE C ar n a ρ S fun d S1=>wBl d fun t=>Q (.bl (!t)) S1):=rfl
theorem Gy:wE C ar (n+1) (.ite e a b) ρ S Q=(wT C ar n e ρ S fun t S1=>wIf t (wE C ar n a ρ S1 Q) (wE C ar n b ρ S1 Q)):=rfl
theorem J4:wE C ar (n+1) (.ix a b) ρ S Q=(aP (af a) (wTm C ar n a) (wE C ar n a) ρ S (fun ds S1=>wE C ar n b ρ S1 fun i S2=>cP i fun k=>∃ d,atI ds k=some d/\Q d S2) (fun d S1=>wE C ar n b ρ S1 fun i S2=>Ok (ixS d i S2) Q)):=rfl
theorem Bz:wE C ar (n+1) (.sl a none none) ρ S Q=(wE C ar n a ρ S fun d S1=>qZ none none d S1 Q):=rfl
theorem BA:wE C ar (n+1) (.sl a none (some b)) ρ S Q=(wE C ar n a ρ S fun d S1=>wE C ar n b ρ S1 fun y S2=>cP y fun j=>qZ none (some j) d S2 Q):=rfl
theorem BB:wE C ar (n+1) (.sl a (some b) none) ρ S Q=(wE C ar n a ρ S fun d S1=>wE C ar n b ρ S1 fun y S2=>cP y fun j=>qZ (some j) none d S2 Q):=rfl
theorem BC:wE C ar (n+1) (.sl a (some b) (some e)) ρ S Q=(wE C ar n a ρ S fun d S1=>wE C ar n b ρ S1 fun y S2=>cP y fun j=>wE C ar n e ρ S2 fun z S3=>cP z fun k=>qZ (some j) (some k) d S3 Q):=rfl
theorem BD:wE C ar (n+1) (.call f es) ρ S Q=(wA C ar n es ρ S fun ds S1=>ds.length=ar f/\Ok (C f ds S1) Q):=rfl
theorem BE:wE C ar (n+1) (.inst ty a) ρ S Q=(wE C ar n a ρ S fun d S1=>Ok (iZ ty d S1) Q):=rfl
theorem Gz:wE C ar (n+1) (.len a) ρ S Q=(aP (af a) (wTm C ar n a) (wE C ar n a) ρ S (fun ds S1=>Ok (dQ false ds S1) Q) (fun d S1=>Ok (aq dQ d S1) Q)):=rfl
theorem GA:wE C ar (n+1) (.all a) ρ S Q=(aP (af a) (wTm C ar n a) (wE C ar n a) ρ S (fun ds S1=>Ok (kZ false ds S1) Q) (fun d S1=>Ok (aq kZ d S1) Q)):=rfl
theorem GB:wE C ar (n+1) (.any a) ρ S Q=(aP (af a) (wTm C ar n a) (wE C ar n a) ρ S (fun ds S1=>Ok (oK false ds S1) Q) (fun d S1=>Ok (aq oK d S1) Q)):=rfl
theorem yx:wE C ar (n+1) (.tupOf a) ρ S Q=(aP (af a) (wTm C ar n a) (wE C ar n a) ρ S (fun ds S1=>Ok (iJ false ds S1) Q) (fun d S1=>Ok (aq iJ d S1) Q)):=rfl
theorem GC:wE C ar (n+1) (.mxL a) ρ S Q=(aP (af a) (wTm C ar n a) (wE C ar n a) ρ S (fun ds S1=>Ok (oU false ds S1) Q) (fun d S1=>Ok (aq oU d S1) Q)):=rfl
theorem GD:wE C ar (n+1) (.mnL a) ρ S Q=(aP (af a) (wTm C ar n a) (wE C ar n a) ρ S (fun ds S1=>Ok (oV false ds S1) Q) (fun d S1=>Ok (aq oV d S1) Q)):=rfl
theorem uO:wE C ar (n+1) (.listOf a) ρ S Q=(aP (af a) (wTm C ar n a) (wE C ar n a) ρ S (fun ds S1=>Q (.ref S1.length) (S1++[.lst ds])) (fun d S1=>Ok ((aj d S1).map fun r=>(r.2,S1)) fun ds S1=>Q (.ref S1.length) (S1++[.lst ds]))):=rfl
theorem yy:wE C ar (n+1) (.listR a) ρ S Q=(wE C ar n a ρ S fun d S1=>∃ i:Nat,d = .int i/\i<=1000/\Q (.ref S1.length) (S1++[.lst ((List.range i).map fun j=>.int (Int.ofNat j))])):=rfl
theorem GF:wE C ar (n+1) (.srt a) ρ S Q=(aP (af a) (wTm C ar n a) (wE C ar n a) ρ S (fun ds S1=>∃ es,dF false ds=some es/\Q (.ref S1.length) (S1++[.lst es])) (fun d S1=>∃ r es,aj d S1=some r/\dF r.1 r.2=some es/\Q (.ref S1.length) (S1++[.lst es]))):=rfl
theorem yz:wE C ar (n+1) (.intOf a) ρ S Q=(wE C ar n a ρ S fun d S1=>Ok (Af d S1) Q):=rfl
theorem J5:wE C ar (n+1) (.mx a b) ρ S Q=(wA C ar n [a,b] ρ S fun ds S1=>w2 yp ds S1 Q):=rfl
theorem J6:wE C ar (n+1) (.mn a b) ρ S Q=(wA C ar n [a,b] ρ S fun ds S1=>w2 yq ds S1 Q):=rfl
theorem GG:wE C ar (n+1) (.rep a) ρ S Q=(wE C ar n a ρ S fun d S1=>Ok (i7 d S1) Q):=rfl
theorem BF:wE C ar (n+1) (.comp own a (⟨tg,it,cd⟩::rest)) ρ S Q=(wI C ar n it ρ S fun nx S1=>pK own [] fun r=>pL ρ r fun ρ'=>wFt tg ρ' (Ok (bq nx tg (cnd (evT C ar n) cd (fU C ar n a rest)) ρ' LF 0 S1) fun es S2=>es.length<=100000/\Q (.ref S2.length) (S2++[.lst es]))):=rfl
theorem GH:wE C ar (n+1) (.app a b) ρ S Q=(wE C ar n a ρ S fun d S1=>dE d S1=true/\wA C ar n [b] ρ S1 fun as S2=>Ok (oW d as S2) Q):=rfl
theorem GI:wE C ar (n+1) (.pop a) ρ S Q=(wE C ar n a ρ S fun d S1=>dE d S1=true/\Ok (wW d [] S1) Q):=rfl
theorem yA:wE C ar (n+1) (.popAt a b) ρ S Q=(wE C ar n a ρ S fun d S1=>dE d S1=true/\wA C ar n [b] ρ S1 fun as S2=>Ok (gi d as S2) Q):=rfl
theorem GJ:wE C ar (n+1) (.cnt a b) ρ S Q=(wE C ar n a ρ S fun d S1=>isTup d=true/\wA C ar n [b] ρ S1 fun as S2=>Ok (qH d as S2) Q):=rfl
theorem Li:wA C ar (n+1) [] ρ S Ql=Ql [] S:=rfl
theorem Lj:wA C ar (n+1) (a::es) ρ S Ql=(wE C ar n a ρ S fun d S1=>wA C ar n es ρ S1 fun ds S2=>Ql (d::ds) S2):=rfl
theorem GK:wTm C ar (n+1) (.lst es) ρ S Ql=eC 60 es (wA C ar n es ρ S Ql):=rfl
theorem uQ:wTm C ar (n+1) (.listOf a) ρ S Ql=(aP (af a) (wTm C ar n a) (wE C ar n a) ρ S (fun ds S1=>Ql ds S1) (fun d S1=>Ok ((aj d S1).map fun r=>(r.2,S1)) Ql)):=rfl
theorem yB:wTm C ar (n+1) (.listR a) ρ S Ql=(wE C ar n a ρ S fun d S1=>∃ i:Nat,d = .int i/\i<=1000/\Ql ((List.range i).map fun j=>.int (Int.ofNat j)) S1):=rfl
theorem GM:wTm C ar (n+1) (.srt a) ρ S Ql=(aP (af a) (wTm C ar n a) (wE C ar n a) ρ S (fun ds S1=>∃ es,dF false ds=some es/\Ql es S1) (fun d S1=>∃ r es,aj d S1=some r/\dF r.1 r.2=some es/\Ql es S1)):=rfl
theorem BG:wTm C ar (n+1) (.comp own a (⟨tg,it,cd⟩::rest)) ρ S Ql=(wI C ar n it ρ S fun nx S1=>pK own [] fun r=>pL ρ r fun ρ'=>wFt tg ρ' (Ok (bq nx tg (cnd (evT C ar n) cd (fU C ar n a rest)) ρ' LF 0 S1) fun es S2=>es.length<=100000/\Ql es S2)):=rfl
theorem GN:wI C ar (n+1) (.val a) ρ S Qn=(aP (af a) (wTm C ar n a) (wE C ar n a) ρ S (fun ds S1=>Qn (nxL ds) S1) (fun d S1=>yk d S1 Qn)):=rfl
theorem J7:wI C ar (n+1) (.en a) ρ S Qn=(aP (af a) (wTm C ar n a) (wE C ar n a) ρ S (fun ds S1=>Qn (m9 ds) S1) (fun d S1=>ym d S1 Qn)):=rfl
theorem J8:wI C ar (n+1) (.r1 a) ρ S Qn=(wE C ar n a ρ S fun d S1=>cP d fun j=>lim j=true/\Qn (nxR 0 j.toNat) S1):=rfl
theorem J9:wI C ar (n+1) (.r2 a b) ρ S Qn=(wE C ar n a ρ S fun d S1=>wE C ar n b ρ S1 fun e S2=>cP d fun i=>cP e fun j=>(lim i=true/\lim j=true)/\Qn (nxR i (j - i).toNat) S2):=rfl
theorem GO:wT C ar (n+1) (.cmp c a b) ρ S Qt=(wE C ar n a ρ S fun x S1=>wE C ar n b ρ S1 fun y S2=>wCm c x y S2 fun d S3=>wBl d fun t=>Qt t S3):=rfl
theorem GP:wT C ar (n+1) (.chn c p a b e) ρ S Qt=(wE C ar n a ρ S fun x S1=>wE C ar n b ρ S1 fun y S2=>wCm c x y S2 fun r S3=>wBl r fun t=>wIf t (wE C ar n e ρ S3 fun z S4=>wCm p y z S4 fun d S5=>wBl d fun t=>Qt t S5) (wBl (.bl false) fun t=>Qt t S3)):=rfl
theorem GQ:wT C ar (n+1) (.and a b) ρ S Qt=(wT C ar n a ρ S fun t S1=>wIf t (wT C ar n b ρ S1 Qt) (Qt false S1)):=rfl
theorem Ka:wT C ar (n+1) (.or a b) ρ S Qt=(wT C ar n a ρ S fun t S1=>wIf t (Qt true S1) (wT C ar n b ρ S1 Qt)):=rfl
theorem GR:wT C ar (n+1) (.not a) ρ S Qt=(wT C ar n a ρ S fun t S1=>Qt (!t) S1):=rfl
theorem Kb:wT C ar (n+1) (.bl t) ρ S Qt=(wE C ar n (.bl t) ρ S fun d S1=>ay d S1 Qt):=rfl
theorem GS:wT C ar (n+1) (.var m) ρ S Qt=(wE C ar n (.var m) ρ S fun d S1=>ay d S1 Qt):=rfl
theorem BH:wT C ar (n+1) (.call f es) ρ S Qt=(wE C ar n (.call f es) ρ S fun d S1=>ay d S1 Qt):=rfl
theorem BI:wT C ar (n+1) (.inst ty a) ρ S Qt=(wE C ar n (.inst ty a) ρ S fun d S1=>ay d S1 Qt):=rfl
theorem GU:wT C ar (n+1) (.all a) ρ S Qt=(wE C ar n (.all a) ρ S fun d S1=>ay d S1 Qt):=rfl
theorem GV:wT C ar (n+1) (.any a) ρ S Qt=(wE C ar n (.any a) ρ S fun d S1=>ay d S1 Qt):=rfl
theorem GW:wT C ar (n+1) (.len a) ρ S Qt=(wE C ar n (.len a) ρ S fun d S1=>ay d S1 Qt):=rfl
theorem Kc:wT C ar (n+1) (.ix a b) ρ S Qt=(wE C ar n (.ix a b) ρ S fun d S1=>ay d S1 Qt):=rfl
theorem GX:wT C ar (n+1) (.lst es) ρ S Qt=(wE C ar n (.lst es) ρ S fun d S1=>ay d S1 Qt):=rfl
theorem GY:wT C ar (n+1) (.tup es) ρ S Qt=(wE C ar n (.tup es) ρ S fun d S1=>ay d S1 Qt):=rfl
theorem Lk:wCl C ar n a [] ρ S Ql=(wE C ar n a ρ S fun d S1=>Ql [d] S1):=rfl
theorem Ll:wCl C ar n a (⟨tg,it,cd⟩::rest) ρ S Ql=(wFt tg ρ (wI C ar n it ρ S fun nx S1=>Ok (bq nx tg (cnd (evT C ar n) cd (fU C ar n a rest)) ρ LF 0 S1) Ql)):=rfl
theorem Lm:Bs (wT C ar n) none w ρ S Ql=w ρ S Ql:=rfl
theorem Ln:Bs (wT C ar n) (some a) w ρ S Ql=(wT C ar n a ρ S fun t S1=>wIf t (w ρ S1 Ql) (Ql [] S1)):=rfl
theorem GZ:wS C ar (n+1) (.asg tg a) ρ S Qs=(wE C ar n a ρ S fun d S1=>wBd tg d ρ fun ρ1=>Qs .nx ρ1 S1):=rfl
theorem BJ:wS C ar (n+1) (.setI a b e) ρ S Qs=(wE C ar n a ρ S fun x S1=>wE C ar n b ρ S1 fun y S2=>wE C ar n e ρ S2 fun z S3=>∃ S4,k7 y z x S3=some S4/\Qs .nx ρ S4):=rfl
theorem Kd:wS C ar (n+1) (.ex a) ρ S Qs=(wE C ar n a ρ S fun _ S1=>Qs .nx ρ S1):=rfl
theorem G0:wS C ar (n+1) (.ret a) ρ S Qs=(wE C ar n a ρ S fun d S1=>Qs (.rt d) ρ S1):=rfl
theorem BK:wS C ar (n+1) .retN ρ S Qs=Qs (.rt .non) ρ S:=rfl
theorem G1:wS C ar (n+1) (.ifs a sa sb) ρ S Qs=(wT C ar n a ρ S fun t S1=>wIf t (rW (wSs C ar n sa) ρ S1 Qs) (rW (wSs C ar n sb) ρ S1 Qs)):=rfl
theorem G2:wS C ar (n+1) (.for_ tg it sa) ρ S Qs=(wI C ar n it ρ S fun nx S1=>OkS (eM nx tg (eO C ar n sa) LF 0 ρ S1) Qs):=rfl
theorem yC:wS C ar (n+1) (.while_ a sa) ρ S Qs=OkS (c7 (evT C ar n a) (eO C ar n sa) LF ρ S) Qs:=rfl
theorem BL:wS C ar (n+1) .pass ρ S Qs=Qs .nx ρ S:=rfl
theorem G3:wS C ar (n+1) .brk ρ S Qs=Qs .bk ρ S:=rfl
theorem G4:wS C ar (n+1) .cnt ρ S Qs=Qs .ct ρ S:=rfl
theorem Ke:wNx ws Qs .nx ρ S=rW ws ρ S Qs:=rfl
theorem Kf:wNx ws Qs (.rt d) ρ S=Qs (.rt d) ρ S:=rfl
theorem Kg:wNx ws Qs .bk ρ S=Qs .bk ρ S:=rfl
theorem Kh:wNx ws Qs .ct ρ S=Qs .ct ρ S:=rfl
theorem G5:wIf (true && t) A B=wIf t A B:=rfl
theorem G6:wIf (false && t) A B=B:=rfl
theorem G7:wIf (true || t) A B=A:=rfl
theorem BM:wIf (false || t) A B=wIf t A B:=rfl
theorem BN:wIf (!(true && t)) A B=wIf (!t) A B:=rfl
theorem BO:wIf (!(false && t)) A B=A:=rfl
theorem BP:wIf (!(true || t)) A B=B:=rfl
theorem BQ:wIf (!(false || t)) A B=wIf (!t) A B:=rfl
theorem Ki:wIf true A B=A:=rfl
theorem Kj:wIf false A B=B:=rfl
theorem G8:wIf (!true) A B=B:=rfl
theorem G9:wIf (!false) A B=A:=rfl
theorem Kk:wBl (.bl t) Qb=Qb t:=rfl
theorem Ha:cP (.int i) Qi=Qi i:=rfl
theorem Hb:qY (some d::ρ) 0 Qd=Qd d:=rfl
theorem Hc:qY (od::ρ) (n+1) Qd=qY ρ n Qd:=rfl
theorem Kl:wFr (none::ρ) 0 A=A:=rfl
theorem Km:wFr (od::ρ) (n+1) A=wFr ρ n A:=rfl
theorem Hd:pJ [] ρ A=A:=rfl
theorem He:pJ (.name m::ts) ρ A=wFr ρ m (pJ ts ρ A):=rfl
theorem Kn:wFt (.name m) ρ A=wFr ρ m A:=rfl
theorem Ko:wFt (.tup ts) ρ A=pJ ts ρ A:=rfl
theorem Hf:pK [] ρ Qr=Qr ρ:=rfl
theorem Hg:pK (s::own) ρ Qr=pK own (none::ρ) Qr:=rfl
theorem Hh:pL [] ρ Qr=Qr ρ:=rfl
theorem Hi:pL (od::ρ) ρ2 Qr=pL ρ ρ2 fun r=>Qr (od::r):=rfl
theorem Kq:eC (n+1) [] A=A:=rfl
theorem Kr:eC (n+1) (a::es) A=eC n es A:=rfl
theorem Ks:wNm 0 d (od::ρ) Qr=Qr (some d::ρ):=rfl
theorem Kt:wNm (n+1) d (od::ρ) Qr=wNm n d ρ fun r=>Qr (od::r):=rfl
theorem Ku:wBs [] [] ρ Qr=Qr ρ:=rfl
theorem Kv:wBs (.name m::ts) (d::ds) ρ Qr=wNm m d ρ fun r=>wBs ts ds r Qr:=rfl
theorem Kw:wBd (.name m) d ρ Qr=wNm m d ρ Qr:=rfl
theorem Kx:wBd (.tup ts) d ρ Qr=wTp ts d ρ Qr:=rfl
theorem Ky:wTp ts (.tup ds) ρ Qr=wBs ts ds ρ Qr:=rfl
theorem BR:wII .add i j S Q=Q (.int (i+j)) S:=rfl
theorem BS:wII .sub i j S Q=Q (.int (i - j)) S:=rfl
theorem BT:wII .mul i j S Q=(gR i j=true/\Q (.int (i * j)) S):=rfl
theorem BU:wII .mod i j S Q=(0 < j/\Q (.int (i % j)) S):=rfl
theorem yD:wII .fdiv i j S Q=((0 < j/\j < 1073741824)/\Q (.int (i / j)) S):=rfl
theorem BV:wII .pow i j S Q=((0<=j/\j<=1000000/\i.natAbs < 2 ^ 64)/\Q (.int (i ^ j.toNat)) S):=rfl
theorem BW:wTT .add xs ys S Q=(xs.length+ys.length<=1000/\Q (.tup (xs++ys)) S):=rfl
theorem BX:yg o i (.int j) S Q=wII o i j S Q:=rfl
theorem BZ:sR o xs (.tup ys) S Q=wTT o xs ys S Q:=rfl
theorem B0:sR o xs (.int j) S Q=Ok (bP o (.tup xs) (.int j) S) Q:=rfl
theorem Hj:uM o (.int i) y S Q=yg o i y S Q:=rfl
theorem Hk:uM o (.tup xs) y S Q=sR o xs y S Q:=rfl
theorem Hl:uM o (.str s) y S Q=Ok (bP o (.str s) y S) Q:=rfl
theorem Hm:wCI .eq i j S Q=Q (.bl (decide (i=j))) S:=rfl
theorem Hn:wCm .eq x y S Q=wCx .eq x y S Q:=rfl
theorem Ho:wCI .ne i j S Q=Q (.bl (!decide (i=j))) S:=rfl
theorem Hq:wCm .ne x y S Q=wCx .ne x y S Q:=rfl
theorem Hr:wCI .lt i j S Q=Q (.bl (decide (i < j))) S:=rfl
theorem Hs:wCm .lt x y S Q=wCx .lt x y S Q:=rfl
theorem Ht:wCI .le i j S Q=Q (.bl (decide (i<=j))) S:=rfl
theorem Hu:wCm .le x y S Q=wCx .le x y S Q:=rfl
theorem Hv:wCI .gt i j S Q=Q (.bl (decide (j < i))) S:=rfl
theorem Hw:wCm .gt x y S Q=wCx .gt x y S Q:=rfl
theorem Hx:wCI .ge i j S Q=Q (.bl (decide (j<=i))) S:=rfl
theorem Hy:wCm .ge x y S Q=wCx .ge x y S Q:=rfl
theorem Hz:wCm .is x y S Q=Ok (av .is x y S) Q:=rfl
theorem uR:wCm .isnot x y S Q=Ok (av .isnot x y S) Q:=rfl
theorem yE:wCm .isin x y S Q=Ok (av .isin x y S) Q:=rfl
theorem uS:wCm .notin x y S Q=Ok (av .notin x y S) Q:=rfl
theorem Kz:wCx c (.int i) y S Q=F3 c i y S Q:=rfl
theorem KA:wCx c (.tup xs) y S Q=uN c xs y S Q:=rfl
theorem KB:wCx c .non y S Q=Ok (av c .non y S) Q:=rfl
theorem KC:wCx c (.bl t) y S Q=Ok (av c (.bl t) y S) Q:=rfl
theorem KD:wCx c (.str s) y S Q=Ok (av c (.str s) y S) Q:=rfl
theorem KF:wCx c (.ref n) y S Q=Ok (av c (.ref n) y S) Q:=rfl
theorem HA:F3 c i (.int j) S Q=wCI c i j S Q:=rfl
theorem HB:uN .eq xs (.tup []) S Q=Q (.bl xs.isEmpty) S:=rfl
theorem HC:uN .ne xs (.tup []) S Q=Q (.bl (!xs.isEmpty)) S:=rfl
theorem B1:uN .eq xs (.tup (y::ys)) S Q=Ok (av .eq (.tup xs) (.tup (y::ys)) S) Q:=rfl
theorem B2:uN .ne xs (.tup (y::ys)) S Q=Ok (av .ne (.tup xs) (.tup (y::ys)) S) Q:=rfl
theorem HD:qZ l h (.tup ds) S Q=Q (.tup (aX ds l h)) S:=rfl
theorem HE:qZ l h (.ref n) S Q=Ok (slS l h (.ref n) S) Q:=rfl
theorem HF:yk (.tup ds) S Qn=Qn (nxL ds) S:=rfl
theorem HG:yk (.ref n) S Qn=((am S n).isSome=true/\Qn (nxS n) S):=rfl
theorem HH:ym (.tup ds) S Qn=Qn (m9 ds) S:=rfl
theorem HI:ym (.ref n) S Qn=((am S n).isSome=true/\Qn (wX n) S):=rfl
theorem B3:ay (.bl t) S Qt=Qt t S:=rfl
theorem B4:ay (.tup ds) S Qt=Qt (!ds.isEmpty) S:=rfl
theorem B5:ay (.int i) S Qt=Qt (i != 0) S:=rfl
theorem B6:ay (.ref n) S Qt=Ok (mX (.ref n) S) Qt:=rfl
theorem Lo:w2 g [x,y] S Q=g x y S Q:=rfl
theorem HJ:yp (.int i) (.int j) S Q=Q (.int (if j > i then j else i)) S:=rfl
theorem HK:yq (.int i) (.int j) S Q=Q (.int (if j < i then j else i)) S:=rfl
theorem B7:aP (af (.lst es)) wl wv ρ S Ql Q=wl ρ S Ql:=rfl
theorem re:aP (af (.listOf a)) wl wv ρ S Ql Q=wl ρ S Ql:=rfl
theorem uT:aP (af (.listR a)) wl wv ρ S Ql Q=wl ρ S Ql:=rfl
theorem B8:aP (af (.srt a)) wl wv ρ S Ql Q=wl ρ S Ql:=rfl
theorem yF:aP (af (.comp own a rest)) wl wv ρ S Ql Q=wl ρ S Ql:=rfl
theorem B9:aP (af (.non)) wl wv ρ S Ql Q=wv ρ S Q:=rfl
theorem HL:aP (af (.bl t)) wl wv ρ S Ql Q=wv ρ S Q:=rfl
theorem Ca:aP (af (.int i)) wl wv ρ S Ql Q=wv ρ S Q:=rfl
theorem Cb:aP (af (.str s)) wl wv ρ S Ql Q=wv ρ S Q:=rfl
theorem Cc:aP (af (.var m)) wl wv ρ S Ql Q=wv ρ S Q:=rfl
theorem Cd:aP (af (.con m i)) wl wv ρ S Ql Q=wv ρ S Q:=rfl
theorem Ce:aP (af (.tup es)) wl wv ρ S Ql Q=wv ρ S Q:=rfl
theorem yG:aP (af (.dic0)) wl wv ρ S Ql Q=wv ρ S Q:=rfl
theorem yH:aP (af (.dic1 i j)) wl wv ρ S Ql Q=wv ρ S Q:=rfl
theorem Cf:aP (af (.bin o a b)) wl wv ρ S Ql Q=wv ρ S Q:=rfl
theorem Cg:aP (af (.neg a)) wl wv ρ S Ql Q=wv ρ S Q:=rfl
theorem Ch:aP (af (.cmp c a b)) wl wv ρ S Ql Q=wv ρ S Q:=rfl
theorem Ci:aP (af (.chn c p a b e)) wl wv ρ S Ql Q=wv ρ S Q:=rfl
theorem Cj:aP (af (.and a b)) wl wv ρ S Ql Q=wv ρ S Q:=rfl
theorem HM:aP (af (.or a b)) wl wv ρ S Ql Q=wv ρ S Q:=rfl
theorem Ck:aP (af (.not a)) wl wv ρ S Ql Q=wv ρ S Q:=rfl
theorem Cm:aP (af (.ite e a b)) wl wv ρ S Ql Q=wv ρ S Q:=rfl
theorem HN:aP (af (.ix a b)) wl wv ρ S Ql Q=wv ρ S Q:=rfl
theorem HP:aP (af (.sl a oa ob)) wl wv ρ S Ql Q=wv ρ S Q:=rfl
theorem yI:aP (af (.call f es)) wl wv ρ S Ql Q=wv ρ S Q:=rfl
theorem yJ:aP (af (.inst ty a)) wl wv ρ S Ql Q=wv ρ S Q:=rfl
theorem Cn:aP (af (.len a)) wl wv ρ S Ql Q=wv ρ S Q:=rfl
theorem Co:aP (af (.all a)) wl wv ρ S Ql Q=wv ρ S Q:=rfl
theorem Cp:aP (af (.any a)) wl wv ρ S Ql Q=wv ρ S Q:=rfl
theorem uU:aP (af (.tupOf a)) wl wv ρ S Ql Q=wv ρ S Q:=rfl
theorem Cq:aP (af (.mxL a)) wl wv ρ S Ql Q=wv ρ S Q:=rfl
theorem Cr:aP (af (.mnL a)) wl wv ρ S Ql Q=wv ρ S Q:=rfl
theorem uV:aP (af (.intOf a)) wl wv ρ S Ql Q=wv ρ S Q:=rfl
theorem HQ:aP (af (.mx a b)) wl wv ρ S Ql Q=wv ρ S Q:=rfl
theorem HR:aP (af (.mn a b)) wl wv ρ S Ql Q=wv ρ S Q:=rfl
theorem Cs:aP (af (.rep a)) wl wv ρ S Ql Q=wv ρ S Q:=rfl
theorem Ct:aP (af (.app a b)) wl wv ρ S Ql Q=wv ρ S Q:=rfl
theorem Cu:aP (af (.pop a)) wl wv ρ S Ql Q=wv ρ S Q:=rfl
theorem uW:aP (af (.popAt a b)) wl wv ρ S Ql Q=wv ρ S Q:=rfl
theorem Cv:aP (af (.cnt a b)) wl wv ρ S Ql Q=wv ρ S Q:=rfl
theorem ai {α:Type} {z:Option (α × Sto)} {r:α} {S2:Sto} {K:α->Sto->Prop} (e:z=some (r,S2)) (q:K r S2):Ok z K:=⟨r,S2,e,q⟩
theorem HS {u:Bool} (ha:A) (hb:t=false->u=false->B):wIf t A (wIf u A B):=by
 cases t with
 | true=>exact ha
 | false=>cases u with
  | true=>exact ha
  | false=>exact hb rfl rfl
theorem jI {u:Bool} (ha:t=true->u=true->A) (hb:B):wIf t (wIf u A B) B:=by
 cases t with
 | false=>exact hb
 | true=>cases u with
  | true=>exact ha rfl rfl
  | false=>exact hb
theorem bw (h1:t=true->A) (h2:t=false->B):wIf t A B:=by
 cases t with
 | true=>exact h1 rfl
 | false=>exact h2 rfl
end
end Ev
local macro_rules | `(tactic| k_go)=>`(tactic| dsimp only [↓Ev.Gj,↓Ev.J2,↓Ev.Gk,↓Ev.Gm,↓Ev.Gn,↓Ev.Go,↓Ev.Gp,↓Ev.Gq,↓Ev.Bw,↓Ev.Bx,↓Ev.Gr,↓Ev.Gs,↓Ev.Gu,↓Ev.Gv,↓Ev.Gw,↓Ev.J3,↓Ev.Gx,↓Ev.Gy,↓Ev.J4,↓Ev.Bz,↓Ev.BA,↓Ev.BB,↓Ev.BC,↓Ev.BD,↓Ev.BE,↓Ev.Gz,↓Ev.GA,↓Ev.GB,↓Ev.yx,↓Ev.GC,↓Ev.GD,↓Ev.uO,↓Ev.yy,↓Ev.GF,↓Ev.yz,↓Ev.J5,↓Ev.J6,↓Ev.GG,↓Ev.BF,↓Ev.GH,↓Ev.GI,↓Ev.yA,↓Ev.GJ,↓Ev.Li,↓Ev.Lj,↓Ev.GK,↓Ev.uQ,↓Ev.yB,↓Ev.GM,↓Ev.BG,↓Ev.GN,↓Ev.J7,↓Ev.J8,↓Ev.J9,↓Ev.GO,↓Ev.GP,↓Ev.GQ,↓Ev.Ka,↓Ev.GR,↓Ev.Kb,↓Ev.GS,↓Ev.BH,↓Ev.BI,↓Ev.GU,↓Ev.GV,↓Ev.GW,↓Ev.Kc,↓Ev.GX,↓Ev.GY,↓Ev.Lk,↓Ev.Ll,↓Ev.Lm,↓Ev.Ln,↓Ev.GZ,↓Ev.BJ,↓Ev.Kd,↓Ev.G0,↓Ev.BK,↓Ev.G1,↓Ev.G2,↓Ev.yC,↓Ev.BL,↓Ev.G3,↓Ev.G4,↓Ev.Ke,↓Ev.Kf,↓Ev.Kg,↓Ev.Kh,↓Ev.G5,↓Ev.G6,↓Ev.G7,↓Ev.BM,↓Ev.BN,↓Ev.BO,↓Ev.BP,↓Ev.BQ,↓Ev.Ki,↓Ev.Kj,↓Ev.G8,↓Ev.G9,↓Ev.Kk,↓Ev.Ha,↓Ev.Hb,↓Ev.Hc,↓Ev.Kl,↓Ev.Km,↓Ev.Hd,↓Ev.He,↓Ev.Kn,↓Ev.Ko,↓Ev.Hf,↓Ev.Hg,↓Ev.Hh,↓Ev.Hi,↓Ev.Kq,↓Ev.Kr,↓Ev.Ks,↓Ev.Kt,↓Ev.Ku,↓Ev.Kv,↓Ev.Kw,↓Ev.Kx,↓Ev.Ky,↓Ev.BR,↓Ev.BS,↓Ev.BT,↓Ev.BU,↓Ev.yD,↓Ev.BV,↓Ev.BW,↓Ev.BX,↓Ev.BZ,↓Ev.B0,↓Ev.Hj,↓Ev.Hk,↓Ev.Hl,↓Ev.Hm,↓Ev.Hn,↓Ev.Ho,↓Ev.Hq,↓Ev.Hr,↓Ev.Hs,↓Ev.Ht,↓Ev.Hu,↓Ev.Hv,↓Ev.Hw,↓Ev.Hx,↓Ev.Hy,↓Ev.Hz,↓Ev.uR,↓Ev.yE,↓Ev.uS,↓Ev.Kz,↓Ev.KA,↓Ev.KB,↓Ev.KC,↓Ev.KD,↓Ev.KF,↓Ev.HA,↓Ev.HB,↓Ev.HC,↓Ev.B1,↓Ev.B2,↓Ev.HD,↓Ev.HE,↓Ev.HF,↓Ev.HG,↓Ev.HH,↓Ev.HI,↓Ev.B3,↓Ev.B4,↓Ev.B5,↓Ev.B6,↓Ev.Lo,↓Ev.HJ,↓Ev.HK,↓Ev.B7,↓Ev.re,↓Ev.uT,↓Ev.B8,↓Ev.yF,↓Ev.B9,↓Ev.HL,↓Ev.Ca,↓Ev.Cb,↓Ev.Cc,↓Ev.Cd,↓Ev.Ce,↓Ev.yG,↓Ev.yH,↓Ev.Cf,↓Ev.Cg,↓Ev.Ch,↓Ev.Ci,↓Ev.Cj,↓Ev.HM,↓Ev.Ck,↓Ev.Cm,↓Ev.HN,↓Ev.HP,↓Ev.yI,↓Ev.yJ,↓Ev.Cn,↓Ev.Co,↓Ev.Cp,↓Ev.uU,↓Ev.Cq,↓Ev.Cr,↓Ev.uV,↓Ev.HQ,↓Ev.HR,↓Ev.Cs,↓Ev.Ct,↓Ev.Cu,↓Ev.uW,↓Ev.Cv,↓Ev.FH,↓Ev.FI])
local macro_rules | `(tactic| k_is)=>`(tactic| ((with_reducible first | refine Ev.Gi ?_ | refine Ev.Gg ?_ | refine Ev.wcl_ok ?_ | skip);(try dsimp only [List.set_cons_zero,List.set_cons_succ]);(try k_go);(repeat ((with_reducible first | refine Ev.yw ?_ | refine Ev.Bv ?_);(try k_go)))))
namespace Lw
open PySem Ev
variable {p:Nat} {S:Sto} {k:Nat} {Q:D->Sto->Prop}
theorem yK {t:Dw.D} {d:D} (h:TD p S t d) (q:Q (.bl (Dw.isW t)) S):Ok (evC ak (k+1) ky [d] S) Q:=by
 refine aS (d:=gp) (ρ:=[some d]) rfl rfl ?_
 dsimp only [gp,kE]
 k_is
 refine ai (fP h) ?_;k_is
 cases t <;> first | exact q | (k_is;rw [fP h,ad];exact q)
theorem bT {t:Dw.D} {d:D} {a b:Int} (h:TD p S t d) (q:Q (.bl (Dw.ae t a b)) S):Ok (evC ak (k+2) bp [d,.int a,.int b] S) Q:=by
 refine aS (d:=e9) (ρ:=[some d,some (.int a),some (.int b)]) rfl rfl ?_
 dsimp only [e9,jg]
 k_is
 refine ⟨rfl,yK h ?_⟩
 k_is
 cases t with
 | int i=>
  obtain rfl:=h.int
  dsimp only [Dw.isW];k_is
  dsimp only [Dw.ae] at q
  cases c:decide (a<=i) with
  | true=>rw [c] at q;exact q
  | false=>rw [c] at q;exact q
 | _=>exact q
theorem fR {t:Dw.D} {d:D} (h:TD p S t d) (q:Q (.bl (Dw.ae t 0 9999)) S):Ok (evC ak (k+3) cm [d] S) Q:=by
 refine aS (d:=fc) (ρ:=[some d]) rfl rfl ?_
 dsimp only [fc,jh]
 k_is
 exact ⟨rfl,bT h q⟩
theorem bJ {t:Dw.D} {d:D} {a b:Int} (h:TD p S t d) (q:Q (.bl (Dw.isT t a b)) S):Ok (evC ak (k+1) bc [d,.int a,.int b] S) Q:=by
 refine aS (d:=gq) (ρ:=[some d,some (.int a),some (.int b)]) rfl rfl ?_
 dsimp only [gq,kF]
 k_is
 refine ai (fP h) ?_;k_is
 cases t with
 | tup ts=>
  obtain ⟨ds,rfl,hs⟩:=h.tup
  rw [show eU Ty.tuple (tyT (Dw.D.tup ts))=true from rfl];k_is
  refine ai (aY hs) ?_;k_is
  dsimp only [Dw.isT] at q
  cases c:decide (a<=(ts.length:Int)) with
  | true=>rw [c] at q;exact q
  | false=>rw [c] at q;exact q
 | _=>exact q
theorem HU {t:Dw.D} {d:D} {n:Nat} (h:TD p S t d) (hn:n<=1000) (q:∀ S',Sm S S'->Q (.bl (Dw.bE n t)) S'):Ok (evC ak (k+3) hF [d,.int n] S) Q:=by
 refine aS (d:=dY) (ρ:=[some d,some (.int n)]) rfl rfl ?_
 dsimp only [dY,hY]
 k_is
 refine ⟨rfl,bJ h ?_⟩
 k_is
 cases t with
 | tup ts=>
  obtain ⟨ds,rfl,hs⟩:=h.tup
  rw [Dw.mz]
  by_cases hl:ts.length=n
  ·rw [decide_eq_true hl];k_is
   refine cA hs (by omega) (fun e=>Dw.ae e 1 99) (fun i t d S' _ sm td=>⟨_,rfl,?_⟩) fun S' sm=>?_
   ·k_is
    exact ⟨rfl,bT td ⟨rfl,Sm.refl _⟩⟩
   ·rw [bO,ad]
    have:=q S' sm
    simp only [Dw.bE,decide_eq_true hl,Bool.true_and] at this
    exact this
  ·rw [decide_eq_false hl];k_is
   have:=q S (Sm.refl S)
   simp only [Dw.bE,decide_eq_false hl,Bool.false_and] at this
   exact this
 | _=>exact q S (Sm.refl S)
theorem HV {rows:List Dw.D} {d:D} (h:TD p S (.tup rows) d) (hl:rows.length<=4) (hr:rows.all (Dw.bE rows.length)=true) (q:∀ S',Sm S S'->Q (.bl ((Dw.kU rows rows.length).all id)) S'):Ok (evC ak (k+1) bK [d] S) Q:=by
 obtain ⟨ds,rfl,hs⟩:=h.tup
 refine aS (d:=bf) (ρ:=[some (.tup ds),none]) rfl rfl ?_
 dsimp only [bf,bL]
 k_is
 refine ai (aY hs) ?_
 refine ⟨_,rfl,by omega,?_⟩
 k_is
 have hm:(S++[Ob.lst ((List.range rows.length).map fun j=>D.int (Int.ofNat j))])[S.length]?=some (.lst ((List.range rows.length).map fun j=>D.int (Int.ofNat j))):=by rw [List.getElem?_append_right (Nat.le_refl _),Nat.sub_self];rfl
 have sq:∀ S',Sm (S++[Ob.lst ((List.range rows.length).map fun j=>D.int (Int.ofNat j))]) S'->(am S' S.length).isSome=true:=fun S' sm=>by simp only [am,sm _ _ hm];rfl
 refine ⟨sq _ (Sm.refl _),?_⟩
 refine (qU hm (by omega) (fun a=>(List.range rows.length).flatMap fun b=>(List.range rows.length).flatMap fun c=>[.bl (Dw.eL rows a b c)]) fun a S1 ha sm1=>⟨_,rfl,?_⟩).mono fun es S2 ⟨ee,sm⟩=>?_
 ·k_is
  refine ⟨sq _ sm1,?_⟩
  refine qU (sm1 _ _ hm) (by omega) _ fun b S2 hb sm2=>⟨_,rfl,?_⟩
  k_is
  refine ⟨sq _ (sm1.trans sm2),?_⟩
  refine qU (sm2 _ _ (sm1 _ _ hm)) (by omega) _ fun c S3 hc sm3=>⟨_,rfl,?_⟩
  k_is
  have hs3:TDs p S3 rows ds:=hs.keep (((Sm.app S _).trans sm1).trans (sm2.trans sm3)).kp
  obtain ⟨ra,xab,e1,e2,e3,_⟩:=Dw.dJ hr ha hb
  obtain ⟨ra',xac,e1',e2',e3',_⟩:=Dw.dJ hr ha hc
  obtain ⟨rc,xcb,f1,f2,f3,_⟩:=Dw.dJ hr hc hb
  rw [e1] at e1'
  cases e1'
  refine aH hs3 e1 fun d1 t1=>?_
  obtain ⟨da,rfl,ha'⟩:=t1.tup
  refine aH ha' e2 fun d2 t2=>?_
  obtain rfl:=t2.int
  refine aH hs3 e1 fun d1 t1=>?_
  obtain ⟨da',rfl,ha''⟩:=t1.tup
  refine aH ha'' e2' fun d2 t2=>?_
  obtain rfl:=t2.int
  refine aH hs3 f1 fun d1 t1=>?_
  obtain ⟨dc,rfl,hc'⟩:=t1.tup
  refine aH hc' f2 fun d2 t2=>?_
  obtain rfl:=t2.int
  k_is
  refine ⟨?_,Sm.refl _⟩
  rw [<-e3,<-e3',<-f3];rfl
 ·subst ee
  have e:((List.range rows.length).flatMap fun a=>(List.range rows.length).flatMap fun b=>(List.range rows.length).flatMap fun c=>[D.bl (Dw.eL rows a b c)])=(Dw.kU rows rows.length).map fun b=>D.bl b:=by
   have one:∀ (l:List Nat) (f:Nat->D),(l.flatMap fun c=>[f c])=l.map f:=fun l f=>by
    induction l with
    | nil=>rfl
    | cons a l ih=>rw [List.flatMap_cons,ih];rfl
   unfold Dw.kU
   simp only [List.map_flatMap,List.map_map,Function.comp_def,one]
  rw [e,bO,ad]
  refine ⟨?_,?_⟩
  ·rw [List.length_map]
   have:=Dw.mB (n:=rows.length) (m:=16) (f:=fun a=>(List.range rows.length).flatMap fun b=>(List.range rows.length).map fun c=>Dw.eL rows a b c) fun a _=>by
    have:=Dw.mB (n:=rows.length) (m:=4) (f:=fun b=>(List.range rows.length).map fun c=>Dw.eL rows a b c) fun b _=>by rw [List.length_map,List.length_range];exact hl
    omega
   unfold Dw.kU
   omega
  ·exact q _ ((Sm.app S _).trans sm)
end Lw
namespace Lw
open PySem Ev
variable {p:Nat} {S:Sto} {k:Nat} {Q:D->Sto->Prop}
theorem Cw {t:Dw.D} {d:D} (h:TD p S t d) (q:∀ S',Sm S S'->Q (.bl (Dw.aD t)) S'):Ok (evC ak (k+4) kz [d] S) Q:=by
 refine aS (d:=gr) (ρ:=[some d]) rfl rfl ?_
 dsimp only [gr,kG]
 k_is
 refine ⟨rfl,bJ h ?_⟩
 k_is
 cases t with
 | tup ts=>
  obtain ⟨ds,rfl,hs⟩:=h.tup
  rw [Dw.Ed]
  by_cases hl:1<=ts.length/\ts.length<=4
  ·rw [decide_eq_true hl.1,decide_eq_true hl.2]
   k_is
   refine cA hs (by omega) (Dw.bE ts.length) (fun i t d S' _ sm td=>⟨_,rfl,?_⟩) fun S' sm=>?_
   ·k_is
    have hs':TDs p S' ts ds:=hs.keep sm.kp
    refine ai (aY hs') ?_
    exact ⟨rfl,HU td (by omega) fun S2 sm2=>⟨rfl,sm2⟩⟩
   ·rw [bO,ad]
    k_is
    refine bw (fun hr=>?_) fun hr=>?_
    ·refine ⟨rfl,HV (h.keep sm.kp) hl.2 hr fun S2 sm2=>?_⟩
     have:=q S2 (sm.trans sm2)
     simp only [Dw.aD,decide_eq_true hl.1,decide_eq_true hl.2,hr,Bool.true_and] at this
     exact this
    ·have:=q S' sm
     simp only [Dw.aD,decide_eq_true hl.1,decide_eq_true hl.2,hr,Bool.true_and,Bool.false_and] at this
     exact this
  ·have e:(decide (1<=ts.length) && decide (ts.length<=4))=false:=by simpa using hl
   rw [e]
   have:=q S (Sm.refl S)
   simp only [Dw.aD,e,Bool.false_and] at this
   exact this
 | _=>exact q S (Sm.refl S)
theorem rf {t:Dw.D} {d:D} (h:TD p S t d) (q:Q (.bl (Dw.au t)) S):Ok (evC ak (k+4) hJ [d] S) Q:=by
 refine aS (d:=dZ) (ρ:=[some d]) rfl rfl ?_
 dsimp only [dZ,hZ]
 k_is
 refine ⟨rfl,bJ h ?_⟩
 k_is
 cases t with
 | tup ts=>
  obtain ⟨ds,rfl,hs⟩:=h.tup
  rw [Dw.wd]
  by_cases hl:ts.length=2
  ·obtain ⟨b,e,rfl⟩:=Dw.mD hl
   rw [decide_eq_true hl];k_is
   refine aH (i:=0) hs rfl fun d1 t1=>⟨rfl,fR t1 ?_⟩
   k_is
   simp only [Dw.au] at q
   refine bw (fun h1=>?_) fun h1=>?_
   ·rw [h1] at q
    refine aH (i:=1) hs rfl fun d2 t2=>⟨rfl,fR t2 ?_⟩
    k_is
    refine bw (fun h2=>?_) fun h2=>?_
    ·rw [h2] at q
     refine aH (i:=0) hs rfl fun d1 t1=>aH (i:=1) hs rfl fun d2 t2=>?_
     obtain ⟨i,rfl,_⟩:=Dw.ah h1
     obtain ⟨j,rfl,_⟩:=Dw.ah h2
     obtain rfl:=t1.int
     obtain rfl:=t2.int
     exact q
    ·rw [h2] at q
     exact q
   ·rw [h1] at q
    exact q
  ·rw [decide_eq_false hl]
   rw [Dw.j3 hl] at q
   exact q
 | _=>exact q
theorem yL {t:Dw.D} {d:D} (h:TD p S t d) (q:∀ S',Sm S S'->Q (.bl (Dw.aE t)) S'):Ok (evC ak (k+5) ja [d] S) Q:=by
 refine aS (d:=fg) (ρ:=[some d]) rfl rfl ?_
 dsimp only [fg,jj]
 k_is
 refine ⟨rfl,bJ h ?_⟩
 k_is
 cases t with
 | tup ts=>
  obtain ⟨ds,rfl,hs⟩:=h.tup
  rw [Dw.Ee]
  by_cases hl:ts.length<=4
  ·rw [decide_eq_true hl]
   k_is
   refine cA hs (by omega) Dw.au (fun i t d S' _ sm td=>⟨_,rfl,?_⟩) fun S' sm=>?_
   ·k_is
    exact ⟨rfl,rf td ⟨rfl,Sm.refl _⟩⟩
   ·rw [bO,ad]
    k_is
    have hs':TDs p S' ts ds:=hs.keep sm.kp
    cases hr:ts.all Dw.au with
    | false=>
     k_is
     have:=q S' sm
     simp only [Dw.aE,decide_eq_true hl,hr,Bool.true_and,Bool.false_and] at this
     exact this
    | true=>
     k_is
     refine ai (aY hs') ?_
     k_is
     refine ⟨⟨by decide,by simp only [lim,bAE,decide_eq_true_eq];omega⟩,?_⟩
     have en:((ts.length:Int) - 1).toNat=ts.length - 1:=by omega
     rw [en]
     refine A9 (by omega) (fun i=>decide (Dw.cQ ts i < Dw.dz ts (i+1))) (fun i S2 hi sm2=>⟨_,rfl,?_⟩) fun S2 sm2=>?_
     ·k_is
      have hs2:TDs p S2 ts ds:=hs'.keep sm2.kp
      obtain ⟨b1,e1,f1,f2,f3⟩:=Dw.rJ (i:=i+1) hr (by omega)
      obtain ⟨b0,e0,g1,g2,g3⟩:=Dw.rJ (i:=i) hr (by omega)
      have z1:(1:Int)+i=((i+1:Nat):Int):=by omega
      have z2:(1:Int)+i - 1=((i:Nat):Int):=by omega
      rw [z1]
      refine aH hs2 f1 fun d1 t1=>?_
      obtain ⟨x1,rfl,y1⟩:=t1.tup
      refine aH (i:=0) y1 rfl fun d2 t2=>?_
      obtain rfl:=t2.int
      have z3:((i+1:Nat):Int) - 1=((i:Nat):Int):=by omega
      rw [z3]
      refine aH hs2 g1 fun d1 t1=>?_
      obtain ⟨x1,rfl,y1⟩:=t1.tup
      refine aH (i:=1) y1 rfl fun d2 t2=>?_
      obtain rfl:=t2.int
      k_is
      rw [f2,g3]
      exact ⟨rfl,Sm.refl _⟩
     ·rw [bO,ad]
      have:=q S2 (sm.trans sm2)
      simp only [Dw.aE,decide_eq_true hl,hr,Bool.true_and] at this
      have e:(Dw.iB ts).all id=(List.range (ts.length - 1)).all fun i=>decide (Dw.cQ ts i < Dw.dz ts (i+1)):=by unfold Dw.iB;rw [List.all_map];rfl
      rw [<-e]
      exact this
  ·rw [decide_eq_false hl]
   k_is
   have:=q S (Sm.refl S)
   simp only [Dw.aE,decide_eq_false hl,Bool.false_and] at this
   exact this
 | _=>exact q S (Sm.refl S)
end Lw
namespace Lw
open PySem Ev
variable {p:Nat} {S:Sto} {k:Nat} {Q:D->Sto->Prop}
theorem pN {a b c e:Dw.D} {ds:List D} (h:TDs p S [a,b,c,e] ds):∃ w x y z,ds=[w,x,y,z]/\TD p S a w/\TD p S b x/\TD p S c y/\TD p S e z:=by
 obtain ⟨w,_,rfl,h1,h⟩:=h.cons
 obtain ⟨x,_,rfl,h2,h⟩:=h.cons
 obtain ⟨y,_,rfl,h3,h⟩:=h.cons
 obtain ⟨z,_,rfl,h4,h⟩:=h.cons
 obtain rfl:=h.nil
 exact ⟨w,x,y,z,rfl,h1,h2,h3,h4⟩
theorem uX {t:Dw.D} {d:D} (h:TD p S t d) (q:∀ S',Sm S S'->Q (.bl (Dw.aV t)) S'):Ok (evC ak (k+6) i9 [d] S) Q:=by
 refine aS (d:=fe) (ρ:=[some d,none,none,none,none]) rfl rfl ?_
 dsimp only [fe,ji]
 k_is
 refine ⟨rfl,bJ h ?_⟩
 k_is
 cases t with
 | tup ts=>
  obtain ⟨ds,rfl,hs⟩:=h.tup
  rw [Dw.we]
  by_cases hl:ts.length=4
  ·obtain ⟨a,b,c,e,rfl⟩:=Dw.jw hl
   obtain ⟨w,x,y,z,rfl,h1,h2,h3,h4⟩:=pN hs
   rw [decide_eq_true hl]
   k_is
   refine ⟨rfl,bT h1 ?_⟩
   rw [Dw.rP] at q
   k_is
   cases e1:Dw.ae a 0 8 with
   | false=>rw [e1] at q;exact q S (Sm.refl S)
   | true=>
    rw [e1] at q
    k_is
    refine ⟨rfl,bT h2 ?_⟩
    k_is
    cases e2:Dw.ae b 0 60 with
    | false=>rw [e2] at q;exact q S (Sm.refl S)
    | true=>
     rw [e2] at q
     k_is
     refine ⟨rfl,Cw h3 fun S1 sm=>?_⟩
     k_is
     cases e3:Dw.aD c with
     | false=>rw [e3] at q;exact q S1 sm
     | true=>
      rw [e3] at q
      k_is
      exact ⟨rfl,yL (h4.keep sm.kp) fun S2 sm2=>q S2 (sm.trans sm2)⟩
  ·rw [decide_eq_false hl]
   k_is
   have:=q S (Sm.refl S)
   have e:Dw.aV (.tup ts)=false:=by
    unfold Dw.aV
    split
    ·rename_i he;cases he;exact absurd rfl hl
    ·rfl
   rw [e] at this
   exact this
 | _=>exact q S (Sm.refl S)
theorem sV {r s h' t:Dw.D} {rows:List Dw.D} {m d:D} (hm:TD p S (.tup [r,s,.tup rows,h']) m) (h:TD p S t d) (q:Q (.bl (Dw.ae t 0 ((rows.length:Int) - 1))) S):Ok (evC ak (k+3) iQ [m,d] S) Q:=by
 obtain ⟨ds,rfl,hs⟩:=hm.tup
 obtain ⟨w,x,y,z,rfl,h1,h2,h3,h4⟩:=pN hs
 obtain ⟨rs,rfl,hr⟩:=h3.tup
 refine aS (d:=iR) (ρ:=[some _,some d]) rfl rfl ?_
 dsimp only [iR,lR]
 k_is
 refine aH (i:=2) hs rfl fun d1 t1=>?_
 obtain ⟨rs,rfl,hr⟩:=t1.tup
 refine ai (aY hr) ?_;k_is
 exact ⟨rfl,bT h q⟩
theorem yM {r s h' t:Dw.D} {rows:List Dw.D} {m d:D} (hm:TD p S (.tup [r,s,.tup rows,h']) m) (h:TD p S t d) (q:Q (.bl (Dw.bo rows.length t)) S):Ok (evC ak (k+4) kC [m,d] S) Q:=by
 refine aS (d:=gu) (ρ:=[some m,some d]) rfl rfl ?_
 dsimp only [gu,kH]
 k_is
 refine ai (JK h) ?_
 k_is
 cases t with
 | non=>exact q
 | tup ts=>
  obtain ⟨ds,rfl,hs⟩:=h.tup
  dsimp only [qV]
  k_is
  refine ⟨rfl,bJ h ?_⟩
  k_is
  rw [Dw.wd]
  by_cases hl:ts.length=2
  ·obtain ⟨b,e,rfl⟩:=Dw.mD hl
   rw [decide_eq_true hl]
   k_is
   refine aH (i:=0) hs rfl fun d1 t1=>⟨rfl,sV hm t1 ?_⟩
   simp only [Dw.bo] at q
   k_is
   cases e1:Dw.ae b 0 ((rows.length:Int) - 1) with
   | false=>rw [e1] at q;exact q
   | true=>
    rw [e1] at q
    k_is
    exact aH (i:=1) hs rfl fun d2 t2=>⟨rfl,fR t2 q⟩
  ·rw [decide_eq_false hl]
   rw [Dw.ow hl] at q
   exact q
 | _=>exact ⟨rfl,bJ h (by k_is;exact q)⟩
end Lw
namespace Lw
open PySem Ev
variable {p:Nat} {S:Sto} {k:Nat} {Q:D->Sto->Prop}
theorem uY {t:Dw.D} {d:D} {n:Nat} (h:TD p S t d) (hn:n<=1000) (q:∀ S',Sm S S'->Q (.bl (Dw.bH n t)) S'):Ok (evC ak (k+3) g9 [d,.int n] S) Q:=by
 refine aS (d:=dX) (ρ:=[some d,some (.int n)]) rfl rfl ?_
 dsimp only [dX,hX]
 k_is
 refine ⟨rfl,bJ h ?_⟩
 k_is
 cases t with
 | tup ts=>
  obtain ⟨ds,rfl,hs⟩:=h.tup
  rw [Dw.wp]
  by_cases hl:ts.length<=n
  ·rw [decide_eq_true hl]
   k_is
   refine cA hs (by omega) (fun e=>Dw.ae e 0 ((n:Int) - 1)) (fun i t d S' _ sm td=>⟨_,rfl,?_⟩) fun S' sm=>?_
   ·k_is
    exact ⟨rfl,bT td ⟨rfl,Sm.refl _⟩⟩
   ·rw [bO,ad]
    k_is
    cases hr:ts.all (fun e=>Dw.ae e 0 ((n:Int) - 1)) with
    | false=>
     k_is
     have:=q S' sm
     simp only [Dw.bH,hr,Bool.false_and,Bool.and_false] at this
     exact this
    | true=>
     k_is
     have ei:=ik hr hs
     subst ei
     refine cA (hs.keep sm.kp) (by omega) (fun t=>decide (((List.count (Dw.intOf t) (Dw.aC ts):Nat):Int)=1)) (fun i t d S2 ht sm2 td=>⟨_,rfl,?_⟩) fun S2 sm2=>?_
     ·obtain ⟨j,rfl,_⟩:=Dw.ah (List.all_eq_true.mp hr t (List.mem_of_getElem? ht))
      obtain rfl:=td.int
      k_is
      refine ⟨rfl,?_⟩
      rw [x8,ad]
      k_is
      exact ⟨rfl,Sm.refl _⟩
     ·rw [bO,ad]
      have:=q S2 (sm.trans sm2)
      have e:(ts.all fun t=>decide (((List.count (Dw.intOf t) (Dw.aC ts):Nat):Int)=1))=Dw.fw (Dw.aC ts):=by
       rw [<-Dw.ot,List.all_map]
       conv=>rhs;unfold Dw.aC
       rw [List.all_map];rfl
      simp only [Dw.bH,hr,decide_eq_true hl,Bool.true_and] at this
      rw [e]
      exact this
  ·rw [decide_eq_false hl]
   k_is
   have:=q S (Sm.refl S)
   simp only [Dw.bH,decide_eq_false hl,Bool.false_and] at this
   exact this
 | _=>dsimp only [Dw.isT];k_is;exact q S (Sm.refl S)
theorem Dq {a b c e f g i:Dw.D} {ds:List D} (h:TDs p S [a,b,c,e,f,g,i] ds):∃ t u v w x y z,ds=[t,u,v,w,x,y,z]/\TD p S a t/\TD p S b u/\TD p S c v/\TD p S e w/\TD p S f x/\TD p S g y/\TD p S i z:=by
 obtain ⟨t,_,rfl,h1,h⟩:=h.cons
 obtain ⟨u,_,rfl,h2,h⟩:=h.cons
 obtain ⟨v,_,rfl,h3,h⟩:=h.cons
 obtain ⟨w,_,rfl,h4,h⟩:=h.cons
 obtain ⟨x,_,rfl,h5,h⟩:=h.cons
 obtain ⟨y,_,rfl,h6,h⟩:=h.cons
 obtain ⟨z,_,rfl,h7,h⟩:=h.cons
 obtain rfl:=h.nil
 exact ⟨t,u,v,w,x,y,z,rfl,h1,h2,h3,h4,h5,h6,h7⟩
theorem uZ {r s:Int} {h' t:Dw.D} {rows:List Dw.D} {m d:D} (hm:TD p S (.tup [.int r,.int s,.tup rows,h']) m) (h:TD p S t d) (q:∀ S',Sm S S'->Q (.bl (Dw.aA rows.length r s t)) S'):Ok (evC ak (k+4) jb [m,d] S) Q:=by
 obtain ⟨ms,rfl,hms⟩:=hm.tup
 refine aS (d:=fh) (ρ:=[some (.tup ms),some d,none,none,none,none,none,none,none]) rfl rfl ?_
 dsimp only [fh,jk]
 k_is
 refine ⟨rfl,bJ h ?_⟩
 k_is
 cases t with
 | tup ts=>
  obtain ⟨ds,rfl,hs⟩:=h.tup
  rw [Dw.Eg]
  by_cases hl:ts.length=7
  ·obtain ⟨tk,tj,tf,tl,tu,tw,tg,rfl⟩:=Dw.ou hl
   obtain ⟨dk,dj,df,dl,du,dw,dg,rfl,h1,h2,h3,h4,h5,h6,h7⟩:=Dq hs
   rw [decide_eq_true hl]
   k_is
   have ht:TDs p S [tj,tf,tl,tu] [dj,df,dl,du]:=ab h2 (ab h3 (ab h4 (ab h5 aw)))
   refine cA ht (by simp) (fun e=>Dw.ae e 0 9999) (fun i t d S' _ sm td=>⟨_,rfl,?_⟩) fun S' sm=>?_
   ·k_is
    exact ⟨rfl,fR td ⟨rfl,Sm.refl _⟩⟩
   ·rw [bO,ad]
    k_is
    simp only [Dw.aA] at q
    cases hr:[tj,tf,tl,tu].all (fun e=>Dw.ae e 0 9999) with
    | false=>k_is;rw [hr] at q;exact q S' sm
    | true=>
     k_is
     rw [hr] at q
     have hr':=hr
     simp only [List.all_cons,List.all_nil,Bool.and_true,bAE] at hr'
     obtain ⟨ij,rfl,_⟩:=Dw.ah hr'.1
     obtain ⟨jf,rfl,_⟩:=Dw.ah hr'.2.1
     obtain ⟨il,rfl,_⟩:=Dw.ah hr'.2.2.1
     obtain rfl:=h2.int
     obtain rfl:=h3.int
     obtain rfl:=h4.int
     refine aH (i:=1) (hms.keep sm.kp) rfl fun d1 t1=>?_
     obtain rfl:=t1.int
     k_is
     simp only [Dw.leD,Int.add_zero,Bool.true_and] at q
     cases c1:decide (ij+s<=jf) with
     | false=>k_is;rw [c1] at q;exact q S' sm
     | true=>
      k_is
      rw [c1] at q
      cases c2:decide (jf<=il) with
      | false=>k_is;rw [c2] at q;exact q S' sm
      | true=>
       k_is
       rw [c2] at q
       refine ⟨rfl,sV (hm.keep sm.kp) (h1.keep sm.kp) ?_⟩
       k_is
       cases c3:Dw.ae tk 0 ((rows.length:Int) - 1) with
       | false=>rw [c3] at q;exact q S' sm
       | true=>
        rw [c3] at q
        k_is
        refine ⟨rfl,bT (h6.keep sm.kp) ?_⟩
        k_is
        cases c4:Dw.ae tw 0 99 with
        | false=>rw [c4] at q;exact q S' sm
        | true=>
         rw [c4] at q
         k_is
         refine aH (i:=0) (hms.keep sm.kp) rfl fun d1 t1=>?_
         obtain rfl:=t1.int
         exact ⟨rfl,bT (h7.keep sm.kp) (q S' sm)⟩
  ·rw [decide_eq_false hl]
   k_is
   have:=q S (Sm.refl S)
   rw [Dw.lC hl] at this
   exact this
 | _=>dsimp only [Dw.isT];k_is;exact q S (Sm.refl S)
theorem rg {r s:Int} {h' t:Dw.D} {rows:List Dw.D} {m d:D} (hm:TD p S (.tup [.int r,.int s,.tup rows,h']) m) (h:TD p S t d) (q:∀ S',Sm S S'->Q (.bl (Dw.aF rows.length r s t)) S'):Ok (evC ak (k+5) fY [m,d] S) Q:=by
 refine aS (d:=c9) (ρ:=[some m,some d]) rfl rfl ?_
 dsimp only [c9,f7]
 k_is
 refine ⟨rfl,bJ h ?_⟩
 k_is
 cases t with
 | tup ts=>
  obtain ⟨ds,rfl,hs⟩:=h.tup
  have e7:=Dw.wp ts 7
  rw [show ((7:Nat):Int)=7 from rfl] at e7
  rw [e7]
  by_cases hl:ts.length<=7
  ·rw [decide_eq_true hl]
   k_is
   refine cA hs (by omega) (Dw.aA rows.length r s) (fun i t d S' _ sm td=>⟨_,rfl,?_⟩) fun S' sm=>?_
   ·k_is
    exact ⟨rfl,uZ (hm.keep sm.kp) td fun S2 sm2=>⟨rfl,sm2⟩⟩
   ·rw [bO,ad]
    have:=q S' sm
    simp only [Dw.aF,decide_eq_true hl,Bool.true_and] at this
    exact this
  ·rw [decide_eq_false hl]
   have:=q S (Sm.refl S)
   simp only [Dw.aF,decide_eq_false hl,Bool.false_and] at this
   exact this
 | _=>dsimp only [Dw.isT];k_is;exact q S (Sm.refl S)
theorem yN {n:Nat} {r s:Int} {t:Dw.D} {gs:List Dw.D} {g d:D} (hg:TD p S (.tup gs) g) (ha:gs.all (Dw.aA n r s)=true) (hl:gs.length<=7) (h:TD p S t d) (q:∀ S',Sm S S'->Q (.bl (Dw.bB gs t)) S'):Ok (evC ak (k+4) jc [g,d] S) Q:=by
 obtain ⟨ds,rfl,hs⟩:=hg.tup
 refine aS (d:=fi) (ρ:=[some (.tup ds),some d]) rfl rfl ?_
 dsimp only [fi,jl]
 k_is
 refine ai (aY hs) ?_
 refine ⟨rfl,uY h (by omega) fun S1 sm=>?_⟩
 k_is
 cases hu:Dw.bH gs.length t with
 | false=>
  k_is
  have:=q S1 sm
  have e:Dw.bB gs t=false:=by
   unfold Dw.bB
   split
   ·rw [hu];rfl
   ·rfl
  rw [e] at this
  exact this
 | true=>
  k_is
  cases t with
  | tup fs=>
   obtain ⟨es,rfl,hf⟩:=h.tup
   have hw:fs.all (fun e=>Dw.ae e 0 ((gs.length:Int) - 1))=true:=by
    simp only [Dw.bH,bAE] at hu
    exact hu.2.1
   have ei:=ik hw hf
   subst ei
   refine Ba (hs.keep sm.kp) (by omega) (fun i=>decide (Dw.cH gs i=0) || decide (((i:Nat):Int) ∈ Dw.aC fs)) (fun i t d S2 ht sm2 td=>⟨_,gz (Nat.lt_of_lt_of_le (by decide) (Nat.le_refl 4)) (Nat.lt_of_lt_of_le (by decide) (Nat.le_refl 4)),?_⟩) fun S2 sm2=>?_
   ·obtain ⟨a1,a2,a3,a4,a5,a6,g,rfl,hg',_⟩:=Dw.mL ha ht
    obtain ⟨xs,rfl,hx⟩:=td.tup
    k_is
    refine aH (i:=6) hx rfl fun d1 t1=>?_
    obtain rfl:=t1.int
    k_is
    rw [hg']
    cases c:decide (g=0) with
    | true=>k_is;exact ⟨rfl,Sm.refl _⟩
    | false=>
     k_is
     simp only [av,nz,ad]
     exact ⟨by simp,Sm.refl _⟩
   ·rw [bO,ad]
    have:=q S2 (sm.trans sm2)
    simp only [Dw.bB,hu,Bool.true_and] at this
    have e:(Dw.t8 gs (Dw.aC fs)).all id=(List.range gs.length).all fun i=>decide (Dw.cH gs i=0) || decide (((i:Nat):Int) ∈ Dw.aC fs):=by unfold Dw.t8;rw [List.all_map];rfl
    rw [<-e]
    exact this
  | _=>simp [Dw.bH] at hu
theorem yO {t:Dw.D} {d:D} (h:TD p S t d) (q:∀ S',Sm S S'->Q (.bl (Dw.fX t)) S'):Ok (evC ak (k+7) kB [d] S) Q:=by
 refine aS (d:=kJ) (ρ:=[some d,none,none,none,none]) rfl rfl ?_
 dsimp only [kJ,pC]
 k_is
 refine ⟨rfl,bJ h ?_⟩
 k_is
 cases t with
 | tup ts=>
  obtain ⟨ds,rfl,hs⟩:=h.tup
  rw [Dw.we]
  by_cases hl:ts.length=4
  ·obtain ⟨tm,ta,tg,tf,rfl⟩:=Dw.jw hl
   obtain ⟨dm,da,dg,df,rfl,h1,h2,h3,h4⟩:=pN hs
   rw [decide_eq_true hl]
   k_is
   rw [Dw.mK] at q
   refine ⟨rfl,uX h1 fun S1 sm1=>?_⟩
   k_is
   cases em:Dw.aV tm with
   | false=>rw [em] at q;exact q S1 sm1
   | true=>
    rw [em] at q
    obtain ⟨r,s,rows,hs',rfl,_⟩:=Dw.dB em
    k_is
    refine ⟨rfl,yM (h1.keep sm1.kp) (h2.keep sm1.kp) ?_⟩
    k_is
    simp only [Dw.cS,Dw.fA,Dw.iC] at q
    cases ea:Dw.bo rows.length ta with
    | false=>rw [ea] at q;exact q S1 sm1
    | true=>
     rw [ea] at q
     k_is
     refine ⟨rfl,rg (h1.keep sm1.kp) (h3.keep sm1.kp) fun S2 sm2=>?_⟩
     k_is
     cases eg:Dw.aF rows.length r s tg with
     | false=>rw [eg] at q;exact q S2 (sm1.trans sm2)
     | true=>
      rw [eg] at q
      k_is
      cases tg with
      | tup gs=>
       simp only [Dw.aF,bAE,decide_eq_true_eq] at eg
       exact ⟨rfl,yN (h3.keep (sm1.trans sm2).kp) eg.2 eg.1 (h4.keep (sm1.trans sm2).kp) fun S3 sm3=>q S3 ((sm1.trans sm2).trans sm3)⟩
      | _=>simp [Dw.aF] at eg
  ·rw [decide_eq_false hl]
   k_is
   have:=q S (Sm.refl S)
   rw [Dw.wo hl] at this
   exact this
 | _=>dsimp only [Dw.isT];k_is;exact q S (Sm.refl S)
end Lw
namespace Lw
open PySem Ev
variable {p:Nat} {S:Sto} {k:Nat} {Q:D->Sto->Prop}
theorem lZ {t:Dw.D} {d:D} (h:TD p S t d) (q:Q (.bl (Dw.isW t)) S):Ok (evC ak (k+1) eZ [d] S) Q:=by
 refine aS (d:=fj) (ρ:=[some d]) rfl rfl ?_
 dsimp only [fj,jm]
 k_is
 refine ai (fP h) ?_;k_is
 cases t <;> first | exact q | (k_is;rw [fP h,ad];exact q)
theorem be {t:Dw.D} {d:D} {a b:Int} (h:TD p S t d) (q:Q (.bl (Dw.ae t a b)) S):Ok (evC ak (k+2) aL [d,.int a,.int b] S) Q:=by
 refine aS (d:=ek) (ρ:=[some d,some (.int a),some (.int b)]) rfl rfl ?_
 dsimp only [ek,ia]
 k_is
 refine ⟨rfl,lZ h ?_⟩
 k_is
 cases t with
 | int i=>
  obtain rfl:=h.int
  dsimp only [Dw.isW];k_is
  dsimp only [Dw.ae] at q
  cases c:decide (a<=i) with
  | true=>rw [c] at q;exact q
  | false=>rw [c] at q;exact q
 | _=>exact q
theorem rh {t:Dw.D} {d:D} (h:TD p S t d) (q:∀ S',Sm S S'->Q (.bl (Dw.aV t)) S'):Ok (evC ak (k+3) eG [d] S) Q:=by
 refine aS (d:=cp) (ρ:=[some d,none,none,none,none,none,none,none,none,none]) rfl rfl ?_
 dsimp only [cp,eJ]
 k_is
 refine ai (bv h) ?_
 k_is
 cases t with
 | tup ts=>
  obtain ⟨ds,rfl,hs⟩:=h.tup
  dsimp only [bV]
  k_is
  refine ai (aY hs) ?_
  k_is
  by_cases hl:ts.length=4
  ·obtain ⟨a,b,c,e,rfl⟩:=Dw.jw hl
   obtain ⟨w,x,y,z,rfl,h1,h2,h3,h4⟩:=pN hs
   rw [show decide ((([a,b,c,e].length:Nat):Int)=4)=true from rfl]
   k_is
   rw [Dw.rP] at q
   refine ⟨rfl,be h1 ?_⟩
   k_is
   cases e1:Dw.ae a 0 8 with
   | false=>rw [e1] at q;exact q S (Sm.refl S)
   | true=>
   rw [e1] at q
   k_is
   refine ⟨rfl,be h2 ?_⟩
   k_is
   cases e2:Dw.ae b 0 60 with
   | false=>rw [e2] at q;exact q S (Sm.refl S)
   | true=>
   rw [e2] at q
   k_is
   refine ai (bv h3) ?_
   k_is
   simp only [Bool.true_and] at q
   cases c with
   | tup rows=>
    obtain ⟨rs,rfl,hr⟩:=h3.tup
    dsimp only [bV]
    k_is
    refine ai (aY hr) ?_
    k_is
    have bad:¬ (1<=rows.length/\rows.length<=4)->Q (D.bl false) S:=fun hb=>by
     have:=q S (Sm.refl S)
     rw [Dw.mH hb] at this
     exact this
    by_cases l1:1<=rows.length
    ·rw [decide_eq_true (show (1:Int)<=rows.length by omega)]
     k_is
     by_cases l4:rows.length<=4
     ·rw [decide_eq_true (show (rows.length:Int)<=4 by omega)]
      k_is
      refine ai (bv h4) ?_
      k_is
      cases e with
      | tup hss=>
       obtain ⟨zs,rfl,hz⟩:=h4.tup
       dsimp only [bV]
       k_is
       refine ai (aY hz) ?_
       k_is
       by_cases lh:hss.length<=4
       ·rw [decide_eq_false (show ¬ (4:Int) < hss.length by omega)]
        k_is
        refine lX hr (by omega) (fun i ρ=>(∀ j t,j < i->rows[j]?=some t->Dw.bE rows.length t=true)/\∃ u,ρ=[some (D.tup [w,x,D.tup rs,D.tup zs]),some w,some x,some (D.tup rs),some (D.tup zs),u,none,none,none,none]) (fun i t d ρ S1 ht sm td ⟨iv,u,er⟩=>?_) (fun ρ S1 sm ⟨iv,u,er⟩=>?_) ⟨fun j t hj=>absurd hj (Nat.not_lt_zero j),none,rfl⟩
        ·subst er
         refine ⟨_,rfl,?_⟩
         have fail:Dw.bE rows.length t=false->∀ S',Sm S1 S'->Q (D.bl false) S':=fun hb S' sm'=>by
          have:=q S' (sm.trans sm')
          rw [Dw.mI ht hb] at this
          exact this
         k_is
         refine ai (bv td) ?_
         k_is
         cases t with
         | tup cs=>
          obtain ⟨xs,rfl,hx⟩:=td.tup
          dsimp only [bV]
          k_is
          refine ai (aY hx) (ai (aY (hr.keep sm.kp)) ?_)
          k_is
          by_cases lc:cs.length=rows.length
          ·rw [decide_eq_true (show (cs.length:Int)=rows.length by omega)]
           k_is
           refine cA hx (by omega) (fun e=>Dw.ae e 1 99) (fun i t d S' _ sm td=>⟨_,rfl,?_⟩) fun S2 sm2=>?_
           ·k_is
            exact ⟨rfl,be td ⟨rfl,Sm.refl _⟩⟩
           ·rw [bO,ad]
            k_is
            cases ea:cs.all (fun e=>Dw.ae e 1 99) with
            | false=>exact fail (by simp only [Dw.bE,ea,Bool.and_false]) S2 sm2
            | true=>
             refine ⟨⟨fun j t hj hjt=>?_,_,rfl⟩,sm2⟩
             by_cases hji:j < i
             ·exact iv j t hji hjt
             ·obtain rfl:j=i:=by omega
              rw [ht] at hjt
              cases hjt
              simp only [Dw.bE,ea,decide_eq_true lc,Bool.and_true]
          ·rw [decide_eq_false (show ¬ (cs.length:Int)=rows.length by omega)]
           exact fail (by simp only [Dw.bE,decide_eq_false lc,Bool.false_and]) S1 (Sm.refl _)
         | _=>exact fail rfl S1 (Sm.refl _)
        ·subst er
         have ha:rows.all (Dw.bE rows.length)=true:=List.all_eq_true.mpr fun t ht=>by
          obtain ⟨j,hj,rfl⟩:=List.getElem_of_mem ht
          exact iv j _ hj (gEG hj)
         k_is
         have hr1:=hr.keep sm.kp
         refine lX hr1 (by omega) (fun i ρ=>(∀ a b c,a < i->b < rows.length->c < rows.length->Dw.eL rows a b c=true)/\∃ u v v',ρ=[some (D.tup [w,x,D.tup rs,D.tup zs]),some w,some x,some (D.tup rs),some (D.tup zs),u,v,v',none,none]) (fun i t d ρ S2 ht sm2 td ⟨iv,u,v,v',er⟩=>?_) (fun ρ S2 sm2 ⟨iv,u,v,v',er⟩=>?_) ⟨fun a b c ha=>absurd ha (Nat.not_lt_zero a),_,none,none,rfl⟩
         ·subst er
          refine ⟨_,rfl,?_⟩
          have hi:i < rows.length:=(List.getElem?_eq_some_iff.mp ht).1
          obtain ⟨r,e0,f1,f2,_⟩:=Dw.dJ ha hi (show 0 < rows.length by omega)
          rw [ht] at f1
          cases f1
          have lr:r.length=rows.length:=by
           have:=List.all_eq_true.mp ha _ (List.mem_of_getElem? ht)
           simp only [Dw.bE,bAE,decide_eq_true_eq] at this
           exact this.1
          obtain ⟨xs,rfl,hx⟩:=td.tup
          k_is
          refine C9 hx (by omega) (fun c ρ=>(∀ b c',b < rows.length->c' < c->Dw.eL rows i b c'=true)/\∃ v v',ρ=[some (D.tup [w,x,D.tup rs,D.tup zs]),some w,some x,some (D.tup rs),some (D.tup zs),some (D.tup xs),v,v',none,none]) (fun c t d ρ S3 hct sm3 td ⟨iv2,v,v',er⟩=>?_) (fun ρ S3 sm3 ⟨iv2,v,v',er⟩=>?_) ⟨fun b c _ hc=>absurd hc (Nat.not_lt_zero c),v,v',rfl⟩
          ·subst er
           have hc:c < rows.length:=by rw [<-lr];exact (List.getElem?_eq_some_iff.mp hct).1
           obtain ⟨r',xac,g1,g2,g3,_⟩:=Dw.dJ ha hi hc
           rw [ht] at g1
           cases g1
           rw [hct] at g2
           cases g2
           obtain rfl:=td.int
           refine ⟨_,gz (by simp) (by simp),?_⟩
           k_is
           refine yc (hx.keep sm3.kp) (by omega) (fun b=>!Dw.eL rows i b c) (fun b t d S4 hbt sm4 td=>⟨_,gz (by simp) (by simp),?_⟩) fun es S4 sm4 ee=>?_
           ·have hb:b < rows.length:=by rw [<-lr];exact (List.getElem?_eq_some_iff.mp hbt).1
            obtain ⟨r',xab,g1,g2,g4,_⟩:=Dw.dJ ha hi hb
            rw [ht] at g1
            cases g1
            rw [hbt] at g2
            cases g2
            obtain rfl:=td.int
            obtain ⟨rc,xcb,k1,k2,k3,_⟩:=Dw.dJ ha hc hb
            k_is
            refine aH (hr1.keep ((sm2.trans sm3).trans sm4).kp) k1 fun d1 t1=>?_
            obtain ⟨dc,rfl,hdc⟩:=t1.tup
            refine aH hdc k2 fun d2 t2=>?_
            obtain rfl:=t2.int
            k_is
            have et:decide (xac+xcb < xab) = !Dw.eL rows i b c:=by
             unfold Dw.eL
             rw [g4,g3,k3]
             by_cases hh:xab<=xac+xcb
             ·rw [decide_eq_true hh,decide_eq_false (by omega)];rfl
             ·rw [decide_eq_false hh,decide_eq_true (by omega)];rfl
            rw [et]
            cases !Dw.eL rows i b c with
            | true=>exact ⟨rfl,Sm.refl _⟩
            | false=>exact ⟨rfl,Sm.refl _⟩
           ·refine ai Bf ?_
            k_is
            rw [ee,lr]
            cases et:(List.range rows.length).all fun b=>!!Dw.eL rows i b c with
            | true=>
             k_is
             refine ⟨⟨fun b c' hb hc'=>?_,_,_,rfl⟩,(sm4.trans (Sm.app _ _)).trans (Sm.app _ _)⟩
             by_cases hcc:c' < c
             ·exact iv2 b c' hb hcc
             ·obtain rfl:c'=c:=by omega
              have:=List.all_eq_true.mp et b (List.mem_range.mpr hb)
              simpa using this
            | false=>
             k_is
             obtain ⟨b,hb,hf⟩:=List.all_eq_false.mp et
             have hf':Dw.eL rows i b c=false:=by simpa using hf
             have:=q (S4++[Ob.lst es]++[Ob.lst []]) ((((sm.trans sm2).trans sm3).trans sm4).trans ((Sm.app _ _).trans (Sm.app _ _)))
             rw [Dw.mJ hi (List.mem_range.mp hb) hc hf'] at this
             exact this
          ·subst er
           k_is
           refine ⟨⟨fun a b c ha' hb hc=>?_,_,_,_,rfl⟩,sm3⟩
           by_cases hai:a < i
           ·exact iv a b c hai hb hc
           ·obtain rfl:a=i:=by omega
            exact iv2 b c hb (by rw [lr];exact hc)
         ·subst er
          have hg:Dw.aD (.tup rows)=true:=Dw.tZ l1 l4 ha fun a b c h1 h2 h3=>iv a b c h1 h2 h3
          rw [hg] at q
          simp only [Bool.true_and] at q
          k_is
          have hz2:=hz.keep (sm.trans sm2).kp
          refine lX hz2 (by omega) (fun i ρ=>(∀ j t,j < i->hss[j]?=some t->Dw.au t=true)/\(∀ j,j+1 < i->Dw.cQ hss j < Dw.dz hss (j+1))/\∃ bh u',ρ=[some (D.tup [w,x,D.tup rs,D.tup zs]),some w,some x,some (D.tup rs),some (D.tup zs),u,v,v',some (.int bh),u']/\(i=0->bh = -1)/\∀ j,i=j+1->bh=Dw.cQ hss j) (fun i t d ρ S3 ht sm3 td ⟨iv1,iv2,bh,u',er,z0,z1⟩=>?_) (fun ρ S3 sm3 ⟨iv1,iv2,bh,u',er,z0,z1⟩=>?_) ⟨fun j t hj=>absurd hj (Nat.not_lt_zero j),fun j hj=>absurd hj (Nat.not_lt_zero _),-1,none,rfl,fun _=>rfl,fun j hj=>absurd hj (Nat.succ_ne_zero j).symm⟩
          ·subst er
           refine ⟨_,rfl,?_⟩
           have fail:Dw.au t=false->∀ S',Sm S3 S'->Q (D.bl false) S':=fun hb S' sm'=>by
            have:=q S' (((sm.trans sm2).trans sm3).trans sm')
            rw [Dw.t0 ht hb] at this
            exact this
           k_is
           refine ai (bv td) ?_
           k_is
           cases t with
           | tup cs=>
            obtain ⟨xs,rfl,hx⟩:=td.tup
            dsimp only [bV]
            k_is
            refine ai (aY hx) ?_
            k_is
            by_cases lc:cs.length=2
            ·rw [decide_eq_true (show (cs.length:Int)=2 by omega)]
             obtain ⟨tb,te,rfl⟩:=Dw.mD lc
             k_is
             refine cA hx (by simp) (fun e=>Dw.ae e 0 9999) (fun i t d S' _ sm td=>⟨_,rfl,?_⟩) fun S4 sm4=>?_
             ·k_is
              exact ⟨rfl,be td ⟨rfl,Sm.refl _⟩⟩
             ·rw [bO,ad]
              k_is
              cases ea:[tb,te].all (fun e=>Dw.ae e 0 9999) with
              | false=>
               refine fail ?_ S4 sm4
               have ea':(Dw.ae tb 0 9999 && Dw.ae te 0 9999)=false:=by simpa using ea
               simp only [Dw.au]
               rw [<-Bool.and_assoc,ea',Bool.false_and]
              | true=>
               have ea':Dw.ae tb 0 9999=true/\Dw.ae te 0 9999=true:=by simpa using ea
               obtain ⟨ib,rfl,b0,b1⟩:=Dw.ah ea'.1
               obtain ⟨ie,rfl,c0,c1⟩:=Dw.ah ea'.2
               k_is
               have hx4:=hx.keep sm4.kp
               refine aH (i:=0) hx4 rfl fun d1 t1=>?_
               obtain rfl:=t1.int
               refine aH (i:=1) hx4 rfl fun d1 t1=>?_
               obtain rfl:=t1.int
               k_is
               by_cases lt:ib < ie
               ·rw [decide_eq_false (show ¬ ie<=ib by omega)]
                k_is
                refine aH (i:=0) hx4 rfl fun d1 t1=>?_
                obtain rfl:=t1.int
                k_is
                have st:Dw.au (.tup [.int ib,.int ie])=true:=by
                 simp only [Dw.au,ea'.1,ea'.2,Dw.ltD,decide_eq_true lt,Bool.and_self]
                have fb:Dw.dz hss i=ib:=by unfold Dw.dz;rw [ht]
                have ff:Dw.cQ hss i=ie:=by unfold Dw.cQ;rw [ht]
                by_cases lb:ib<=bh
                ·rw [decide_eq_true lb]
                 k_is
                 have:=q S4 (((sm.trans sm2).trans sm3).trans sm4)
                 have hi:i < hss.length:=(List.getElem?_eq_some_iff.mp ht).1
                 cases i with
                 | zero=>have:=z0 rfl;omega
                 | succ j=>
                  have e:=z1 j rfl
                  rw [Dw.jZ (i:=j) hi (by rw [fb,<-e];omega)] at this
                  exact this
                ·rw [decide_eq_false lb]
                 k_is
                 refine aH (i:=1) hx4 rfl fun d1 t1=>?_
                 obtain rfl:=t1.int
                 refine ⟨⟨fun j t hj hjt=>?_,fun j hj=>?_,ie,_,rfl,fun h=>absurd h (Nat.succ_ne_zero i),fun j hj=>?_⟩,sm4⟩
                 ·by_cases hji:j < i
                  ·exact iv1 j t hji hjt
                  ·obtain rfl:j=i:=by omega
                   rw [ht] at hjt
                   cases hjt
                   exact st
                 ·by_cases hji:j+1 < i
                  ·exact iv2 j hji
                  ·obtain rfl:i=j+1:=by omega
                   rw [fb,<-z1 j rfl]
                   omega
                 ·obtain rfl:i=j:=by omega
                  exact ff.symm
               ·rw [decide_eq_true (show ie<=ib by omega)]
                refine fail ?_ S4 sm4
                simp only [Dw.au,Dw.ltD,decide_eq_false lt,Bool.and_false]
            ·rw [decide_eq_false (show ¬ (cs.length:Int)=2 by omega)]
             exact fail (Dw.j3 lc) S3 (Sm.refl _)
           | _=>exact fail rfl S3 (Sm.refl _)
          ·subst er
           k_is
           have:=q S3 ((sm.trans sm2).trans sm3)
           rw [Dw.qg lh (fun j d hj=>iv1 j d (List.getElem?_eq_some_iff.mp hj).1 hj) fun j hj=>iv2 j hj] at this
           exact this
       ·rw [decide_eq_true (show (4:Int) < hss.length by omega)]
        have:=q S (Sm.refl S)
        rw [Dw.kW lh,Bool.and_false] at this
        exact this
      | _=>have:=q S (Sm.refl S);simp only [Dw.aE,Bool.and_false] at this;exact this
     ·rw [decide_eq_false (show ¬ (rows.length:Int)<=4 by omega)]
      exact bad fun z=>l4 z.2
    ·rw [decide_eq_false (show ¬ (1:Int)<=rows.length by omega)]
     exact bad fun z=>l1 z.1
   | _=>exact q S (Sm.refl S)
  ·rw [decide_eq_false (show ¬ ((ts.length:Nat):Int)=4 by omega)]
   have:=q S (Sm.refl S)
   have e:Dw.aV (.tup ts)=false:=by
    unfold Dw.aV
    split
    ·rename_i he;cases he;exact absurd rfl hl
    ·rfl
   rw [e] at this
   exact this
 | _=>exact q S (Sm.refl S)
end Lw
namespace Lw
open PySem Ev
variable {p:Nat} {S:Sto} {k:Nat} {Q:D->Sto->Prop}
theorem rj {r s:Int} {h' t:Dw.D} {rows:List Dw.D} {m d:D} (hm:TD p S (.tup [.int r,.int s,.tup rows,h']) m) (h:TD p S t d) (q:∀ S',Sm S S'->Q (.bl (Dw.aA rows.length r s t)) S'):Ok (evC ak (k+3) eI [d,m] S) Q:=by
 obtain ⟨ms,rfl,hms⟩:=hm.tup
 refine aS (d:=cq) (ρ:=[some d,some (.tup ms),none]) rfl rfl ?_
 dsimp only [cq,eK]
 k_is
 refine ai (bv h) ?_
 k_is
 cases t with
 | tup ts=>
  obtain ⟨ds,rfl,hs⟩:=h.tup
  dsimp only [bV]
  k_is
  refine ai (aY hs) ?_
  k_is
  by_cases hl:ts.length=7
  ·rw [decide_eq_true (show (ts.length:Int)=7 by omega)]
   obtain ⟨tk,tj,tf,tl,tu,tw,tg,rfl⟩:=Dw.ou hl
   k_is
   simp only [Dw.aA] at q
   refine aH (i:=0) hs rfl fun d1 t1=>aH (i:=2) hms rfl fun d2 t2=>?_
   obtain ⟨rs,rfl,hr⟩:=t2.tup
   refine ai (aY hr) ?_
   k_is
   refine ⟨rfl,be t1 ?_⟩
   k_is
   have fail:∀ S',Sm S S'->([tj,tf,tl,tu].all (fun e=>Dw.ae e 0 9999) && ((Dw.leD tj s tf && Dw.leD tf 0 tl) && (Dw.ae tk 0 ((rows.length:Int) - 1) && (Dw.ae tw 0 99 && Dw.ae tg 0 r))))=false->Q (.bl false) S':=fun S' sm e=>by
    have:=q S' sm
    rw [e] at this
    exact this
   cases c3:Dw.ae tk 0 ((rows.length:Int) - 1) with
   | false=>exact fail S (Sm.refl S) (by rw [c3];simp)
   | true=>
   k_is
   have hc':TDs p S [tj,tf,tl,tu] (aX ds (some 1) (some 5)):=hs.cut (some 1) (some 5)
   refine lX hc' (by simp) (fun i ρ=>(∀ j t,j < i->[tj,tf,tl,tu][j]?=some t->Dw.ae t 0 9999=true)/\∃ u,ρ=[some (D.tup ds),some (D.tup ms),u]) (fun i t d ρ S1 ht sm td ⟨iv,u,er⟩=>?_) (fun ρ S1 sm ⟨iv,u,er⟩=>?_) ⟨fun j t hj=>absurd hj (Nat.not_lt_zero j),none,rfl⟩
   ·subst er
    refine ⟨_,rfl,?_⟩
    k_is
    refine ⟨rfl,be td ?_⟩
    k_is
    cases c:Dw.ae t 0 9999 with
    | false=>
     refine fail S1 sm ?_
     have:[tj,tf,tl,tu].all (fun e=>Dw.ae e 0 9999)=false:=by
      rw [Bool.eq_false_iff];intro z
      have:=List.all_eq_true.mp z t (List.mem_of_getElem? ht)
      rw [c] at this;cases this
     rw [this,Bool.false_and]
    | true=>
     refine ⟨⟨fun j t' hj hjt=>?_,_,rfl⟩,Sm.refl _⟩
     by_cases hji:j < i
     ·exact iv j t' hji hjt
     ·obtain rfl:j=i:=by omega
      rw [ht] at hjt
      cases hjt
      exact c
   ·subst er
    have wj:=iv 0 tj (by simp) rfl
    have wf:=iv 1 tf (by simp) rfl
    have wl:=iv 2 tl (by simp) rfl
    have wu:=iv 3 tu (by simp) rfl
    have wa:[tj,tf,tl,tu].all (fun e=>Dw.ae e 0 9999)=true:=by simp [wj,wf,wl,wu]
    k_is
    have hs1:=hs.keep sm.kp
    have hms1:=hms.keep sm.kp
    refine aH (i:=5) hs1 rfl fun d1 t1=>⟨rfl,be t1 ?_⟩
    k_is
    cases c4:Dw.ae tw 0 99 with
    | false=>exact fail S1 sm (by rw [c4];simp)
    | true=>
    k_is
    refine aH (i:=6) hs1 rfl fun d1 t1=>aH (i:=0) hms1 rfl fun d2 t2=>?_
    obtain rfl:=t2.int
    refine ⟨rfl,be t1 ?_⟩
    k_is
    cases c5:Dw.ae tg 0 r with
    | false=>exact fail S1 sm (by rw [c5];simp)
    | true=>
    k_is
    obtain ⟨ij,rfl,_⟩:=Dw.ah wj
    obtain ⟨jf,rfl,_⟩:=Dw.ah wf
    obtain ⟨il,rfl,_⟩:=Dw.ah wl
    refine aH (i:=2) hs1 rfl fun d1 t1=>aH (i:=1) hs1 rfl fun d2 t2=>aH (i:=1) hms1 rfl fun d3 t3=>?_
    obtain rfl:=t1.int
    obtain rfl:=t2.int
    obtain rfl:=t3.int
    k_is
    have:=q S1 sm
    rw [wa,c3,c4,c5] at this
    simp only [Dw.leD,Int.add_zero,Bool.true_and,Bool.and_true] at this
    cases c6:decide (ij+s<=jf) with
    | false=>rw [c6] at this;exact this
    | true=>
     rw [c6] at this
     k_is
     refine aH (i:=3) hs1 rfl fun d1 t1=>aH (i:=2) hs1 rfl fun d2 t2=>?_
     obtain rfl:=t1.int
     obtain rfl:=t2.int
     k_is
     exact this
  ·rw [decide_eq_false (show ¬ (ts.length:Int)=7 by omega)]
   have:=q S (Sm.refl S)
   rw [Dw.lC hl] at this
   exact this
 | _=>exact q S (Sm.refl S)
theorem Cy {t:Dw.D} {ts:List Dw.D} {n:Nat} (h:Dw.wid (.tup ts)<=n) (hm:t ∈ ts):Dw.wid t<=n:=by
 rw [Dw.wid] at h
 have:=Dw.jW hm
 omega
theorem Cz {ts:List Dw.D} {n:Nat} (h:Dw.wid (.tup ts)<=n):ts.length<=n:=by
 rw [Dw.wid] at h
 omega
theorem u4 {r s:Int} {rows:List Dw.D} {h' tg tf:Dw.D} {th dm da dg df:D} (k1:TD p S (.tup [.int r,.int s,.tup rows,h']) dm) (k3:TD p S tg dg) (k4:TD p S tf df) (hw:Dw.wid tf<=1000)
  (q:∀ S',Sm S S'->Q (.bl (Dw.aF rows.length r s tg && Dw.bB (Dw.tupOf tg) tf)) S') :
  rW (wSs (evC ak (k+3)) (jv ak) 57 (cy.drop 3)) [some th,some dm,some da,some dg,some df,none,none,none] S (out Q):=by
 dsimp only [cy,List.drop]
 k_is
 refine ai (bv k3) ?_
 k_is
 cases tg with
 | tup gs=>
  obtain ⟨ds,rfl,hs⟩:=k3.tup
  dsimp only [bV]
  k_is
  refine ai (aY hs) ?_
  k_is
  by_cases lg:gs.length<=7
  ·rw [decide_eq_false (show ¬ (7:Int) < gs.length by omega)]
   k_is
   refine ai (bv k4) ?_
   k_is
   cases tf with
   | tup fs=>
    obtain ⟨es,rfl,hf⟩:=k4.tup
    have lf:=Cz hw
    dsimp only [bV]
    k_is
    simp only [Dw.tupOf] at q
    refine lX hs (by omega) (fun i ρ=>(∀ j t,j < i->gs[j]?=some t->Dw.aA rows.length r s t=true)/\∃ u,ρ=[some th,some dm,some da,some (D.tup ds),some (D.tup es),u,none,none]) (fun i t d ρ S1 ht sm td ⟨iv,u,er⟩=>?_) (fun ρ S1 sm ⟨iv,u,er⟩=>?_) ⟨fun j t hj=>absurd hj (Nat.not_lt_zero j),none,rfl⟩
    ·subst er
     refine ⟨_,rfl,?_⟩
     k_is
     refine ⟨rfl,rj (k1.keep sm.kp) td fun S2 sm2=>?_⟩
     k_is
     cases c:Dw.aA rows.length r s t with
     | false=>
      have:=q S2 (sm.trans sm2)
      rw [Dw.oz ht c] at this
      exact this
     | true=>
      refine ⟨⟨fun j t' hj hjt=>?_,_,rfl⟩,sm2⟩
      by_cases hji:j < i
      ·exact iv j t' hji hjt
      ·obtain rfl:j=i:=by omega
       rw [ht] at hjt
       cases hjt
       exact c
    ·subst er
     have ha:gs.all (Dw.aA rows.length r s)=true:=List.all_eq_true.mpr fun t ht=>by
      obtain ⟨j,hj,rfl⟩:=List.getElem_of_mem ht
      exact iv j _ hj (gEG hj)
     have eg:Dw.aF rows.length r s (.tup gs)=true:=by simp only [Dw.aF,ha,decide_eq_true lg,Bool.and_self]
     rw [eg] at q
     simp only [Bool.true_and,Dw.bB] at q
     k_is
     have hs1:=hs.keep sm.kp
     have hf1:=hf.keep sm.kp
     refine C9 hf1 (by omega) (fun i ρ=>(∀ j t,j < i->fs[j]?=some t->Dw.ae t 0 ((gs.length:Int) - 1)=true)/\((Dw.aC fs).take i).Nodup/\∃ v v',ρ=[some th,some dm,some da,some (D.tup ds),some (D.tup es),u,v,v']) (fun i t d ρ S2 ht sm2 td ⟨iv1,nd,v,v',er⟩=>?_) (fun ρ S2 sm2 ⟨iv1,nd,v,v',er⟩=>?_) ⟨fun j t hj=>absurd hj (Nat.not_lt_zero j),by simp,none,none,rfl⟩
     ·subst er
      have hi:i < fs.length:=(List.getElem?_eq_some_iff.mp ht).1
      refine ⟨_,gz (by simp) (by simp),?_⟩
      k_is
      refine ai (aY (hs1.keep sm2.kp)) ?_
      k_is
      refine ⟨rfl,be td ?_⟩
      k_is
      have fail:Dw.bH gs.length (.tup fs)=false->Q (.bl false) S2:=fun e=>by
       have:=q S2 (sm.trans sm2)
       rw [e] at this
       exact this
      cases c:Dw.ae t 0 ((gs.length:Int) - 1) with
      | false=>exact fail (Dw.qi ht c)
      | true=>
       k_is
       obtain ⟨x,rfl,_⟩:=Dw.ah c
       obtain rfl:=td.int
       have tk:es.take i=((Dw.aC fs).take i).map D.int:=by
        have hp:(fs.take i).all (fun e=>Dw.ae e 0 ((gs.length:Int) - 1))=true:=List.all_eq_true.mpr fun t' ht'=>by
         obtain ⟨j,hj,rfl⟩:=List.getElem_of_mem ht'
         rw [List.length_take] at hj
         rw [List.getElem_take]
         exact iv1 j _ (by omega) (gEG (by omega))
        rw [ik hp (hf.take i),Dw.ua]
       rw [gL es i (by rw [hf.len];omega),tk]
       simp only [av,nz,ad]
       k_is
       simp only [Bool.false_bne]
       have gx:(Dw.aC fs)[i]?=some x:=by unfold Dw.aC;rw [List.getElem?_map,ht];rfl
       by_cases hx:x ∈ (Dw.aC fs).take i
       ·rw [decide_eq_true hx]
        refine fail (Dw.qj fun z=>?_)
        have hi':i < (Dw.aC fs).length:=by rw [Dw.dM];exact hi
        rw [<-List.take_append_drop i (Dw.aC fs)] at z
        have:=(List.nodup_append.mp z).2.2 x hx x (by
         rw [List.drop_eq_getElem_cons hi']
         rw [gEG hi'] at gx
         cases gx
         exact List.mem_cons_self)
        exact this rfl
       ·rw [decide_eq_false hx]
        refine ⟨⟨fun j t' hj hjt=>?_,?_,_,_,rfl⟩,Sm.refl _⟩
        ·by_cases hji:j < i
         ·exact iv1 j t' hji hjt
         ·obtain rfl:j=i:=by omega
          rw [ht] at hjt
          cases hjt
          exact c
        ·have hi':i < (Dw.aC fs).length:=by rw [Dw.dM];exact hi
         rw [gEG hi'] at gx
         cases gx
         rw [List.take_succ_eq_append_getElem hi']
         exact List.nodup_append.mpr ⟨nd,by simp,fun a ha' b hb=>by simp at hb;subst hb;exact fun z=>hx (z ▸ ha')⟩
     ·subst er
      rw [<-Dw.dM,List.take_length] at nd
      have wa:fs.all (fun e=>Dw.ae e 0 ((gs.length:Int) - 1))=true:=List.all_eq_true.mpr fun t ht=>by
       obtain ⟨j,hj,rfl⟩:=List.getElem_of_mem ht
       exact iv1 j _ hj (gEG hj)
      rw [Dw.iY wa nd] at q
      simp only [Bool.true_and] at q
      have ei:=ik wa hf
      subst ei
      k_is
      refine yc (hs1.keep sm2.kp) (by omega) (fun i=>decide (0 < Dw.cH gs i) && !decide (((i:Nat):Int) ∈ Dw.aC fs)) (fun i t d S3 ht sm3 td=>⟨_,gz (by simp) (by simp),?_⟩) fun es S3 sm3 ee=>?_
      ·obtain ⟨a1,a2,a3,a4,a5,a6,g,rfl,hg',g0⟩:=Dw.mL ha ht
       obtain ⟨xs,rfl,hx⟩:=td.tup
       k_is
       refine aH (i:=6) hx rfl fun d1 t1=>?_
       obtain rfl:=t1.int
       k_is
       rw [hg']
       cases c:decide (0 < g) with
       | false=>exact ⟨rfl,Sm.refl _⟩
       | true=>
        k_is
        simp only [av,nz,ad]
        k_is
        cases decide (((i:Nat):Int) ∈ Dw.aC fs) with
        | true=>exact ⟨rfl,Sm.refl _⟩
        | false=>exact ⟨rfl,Sm.refl _⟩
      ·refine ai Bg ?_
       have:=q (S3++[Ob.lst es]++[Ob.lst []]) (((sm.trans sm2).trans sm3).trans ((Sm.app _ _).trans (Sm.app _ _)))
       have e:(Dw.t8 gs (Dw.aC fs)).all id=es.isEmpty:=by
        rw [ee]
        unfold Dw.t8
        rw [List.all_map,Bool.eq_iff_iff,List.all_eq_true,List.all_eq_true]
        have key:∀ i,i ∈ List.range gs.length->((decide (Dw.cH gs i=0) || decide (((i:Nat):Int) ∈ Dw.aC fs))=true ↔ (!(decide (0 < Dw.cH gs i) && !decide (((i:Nat):Int) ∈ Dw.aC fs)))=true):=fun i hi=>by
         obtain ⟨a1,a2,a3,a4,a5,a6,g,e1,hg',g0⟩:=Dw.mL ha (gEG (List.mem_range.mp hi))
         rw [hg']
         by_cases m:((i:Nat):Int) ∈ Dw.aC fs
         ·simp [m]
         ·simp only [m,decide_false,Bool.or_false,Bool.not_false,Bool.and_true,decide_eq_true_eq,Bool.not_eq_true',decide_eq_false_iff_not]
          omega
        exact ⟨fun z i hi=>(key i hi).mp (z i hi),fun z i hi=>(key i hi).mpr (z i hi)⟩
       rw [e] at this
       exact this
   | _=>have:=q S (Sm.refl S);simp only [Dw.bB,Bool.and_false] at this;exact this
  ·rw [decide_eq_true (show (7:Int) < gs.length by omega)]
   have:=q S (Sm.refl S)
   simp only [Dw.aF,decide_eq_false lg,Bool.false_and] at this
   exact this
 | _=>exact q S (Sm.refl S)
theorem CA {t:Dw.D} {d:D} (h:TD p S t d) (hw:Dw.wid t<=1000) (q:∀ S',Sm S S'->Q (.bl (Dw.fX t)) S'):Ok (evC ak (k+4) hV [d] S) Q:=by
 refine aS (d:=eA) (ρ:=[some d,none,none,none,none,none,none,none]) rfl rfl ?_
 dsimp only [eA,cy]
 k_is
 refine ai (bv h) ?_
 k_is
 cases t with
 | tup ts=>
  obtain ⟨ds,rfl,hs⟩:=h.tup
  dsimp only [bV]
  k_is
  refine ai (aY hs) ?_
  k_is
  by_cases hl:ts.length=4
  ·rw [decide_eq_true (show (ts.length:Int)=4 by omega)]
   obtain ⟨tm,ta,tg,tf,rfl⟩:=Dw.jw hl
   obtain ⟨dm,da,dg,df,rfl,h1,h2,h3,h4⟩:=pN hs
   k_is
   rw [Dw.mK] at q
   refine aH (i:=0) hs rfl fun d1 t1=>⟨rfl,rh t1 fun S1 sm1=>?_⟩
   k_is
   cases em:Dw.aV tm with
   | false=>rw [em] at q;exact q S1 sm1
   | true=>
   rw [em] at q
   obtain ⟨r,s,rows,hss,rfl,_⟩:=Dw.dB em
   k_is
   simp only [Dw.cS,Dw.fA,Dw.iC,Bool.true_and] at q
   have k1:=h1.keep sm1.kp
   have k2:=h2.keep sm1.kp
   have k3:=h3.keep sm1.kp
   have k4:=h4.keep sm1.kp
   refine ai (ya k2) ?_
   k_is
   have tail:=fun (ea:Dw.bo rows.length ta=true)=>u4 (k:=k) (th:=D.tup [dm,da,dg,df]) (da:=da) (Q:=Q) k1 k3 k4 (Cy hw (by simp)) fun S' sm=>by
    have:=q S' (sm1.trans sm)
    rw [ea] at this
    exact this
   dsimp only [cy,List.drop] at tail
   have fail:Dw.bo rows.length ta=false->Q (.bl false) S1:=fun e=>by
    have:=q S1 sm1
    rw [e] at this
    exact this
   cases ta with
   | non=>dsimp only [qV];k_is;exact tail rfl
   | tup as=>
    obtain ⟨xs,rfl,hx⟩:=k2.tup
    dsimp only [qV]
    k_is
    refine ai (bv k2) ?_
    dsimp only [bV]
    k_is
    refine ai (aY hx) ?_
    k_is
    by_cases la:as.length=2
    ·obtain ⟨b,e,rfl⟩:=Dw.mD la
     rw [show decide ((([b,e].length:Nat):Int)=2)=true from rfl]
     k_is
     obtain ⟨ms,rfl,hms⟩:=k1.tup
     refine aH (i:=0) hx rfl fun d1 t1=>aH (i:=2) hms rfl fun d2 t2=>?_
     obtain ⟨rs,rfl,hr⟩:=t2.tup
     refine ai (aY hr) ?_
     k_is
     refine ⟨rfl,be t1 ?_⟩
     k_is
     cases c1:Dw.ae b 0 ((rows.length:Int) - 1) with
     | false=>exact fail (by simp only [Dw.bo,c1,Bool.false_and])
     | true=>
      k_is
      refine aH (i:=1) hx rfl fun d3 t3=>⟨rfl,be t3 ?_⟩
      k_is
      cases c2:Dw.ae e 0 9999 with
      | false=>exact fail (by simp only [Dw.bo,c2,Bool.and_false])
      | true=>k_is;exact tail (by simp only [Dw.bo,c1,c2,Bool.and_self])
    ·rw [decide_eq_false (show ¬ (as.length:Int)=2 by omega)]
     exact fail (Dw.ow la)
   | _=>dsimp only [qV];k_is;rw [bv k2,ad];dsimp only [bV];k_is;exact fail rfl
  ·rw [decide_eq_false (show ¬ (ts.length:Int)=4 by omega)]
   have:=q S (Sm.refl S)
   rw [Dw.wo hl] at this
   exact this
 | _=>exact q S (Sm.refl S)
end Lw
namespace Lw
open PySem Ev
variable {p:Nat} {S:Sto} {k:Nat} {Q:D->Sto->Prop}
theorem al {f:Int} (h:Pot p S) (h0:0 < f) (h1:f < 1073741824) (q:∀ (r:Int) S',0<=r->r < f->Dr p S S'->Q (.int r) S'):Ok (evC ak (k+1) ac [.ref p,.int f] S) Q:=by
 obtain ⟨n,e⟩:=h
 have lt:p < S.length:=(List.getElem?_eq_some_iff.mp e).1
 refine aS (d:=gw) (ρ:=[some (.ref p),some (.int f),none]) rfl rfl ?_
 dsimp only [gw,kI]
 k_is
 have ix:ixS (.ref p) (.int 0) S=some (.int n,S):=by simp only [ixS,aj,am,e];rfl
 refine ai ix ?_
 k_is
 refine ⟨h0,?_⟩
 k_is
 refine ai ix ?_
 k_is
 refine ⟨⟨h0,h1⟩,?_⟩
 k_is
 refine ⟨S.set p (.lst [.int (n / f)]),by simp only [k7,e];rfl,?_⟩
 exact q _ _ (Int.emod_nonneg _ (by omega)) (Int.emod_lt_of_pos _ h0) ⟨FW,_,kL lt⟩
theorem CB {c:Nat} {ns:List Int} (h:S[0]?=some (.frz (ns.map D.int))) (q:∀ i:Int,Q (.int i) S):Ok (evC ak (k+1) fZ [.ref 0,.int c] S) Q:=by
 refine aS (d:=dh) (ρ:=[some (.ref 0),some (.int c)]) rfl rfl ?_
 dsimp only [dh,f8]
 k_is
 have ln:aq dQ (.ref 0) S=some (.int ns.length,S):=by simp only [aq,aj,am,h,Option.map_some,dQ,List.length_map]
 refine ai ln ?_
 k_is
 refine bw (fun hc=>?_) fun hc=>?_
 ·k_is
  have hc':=of_decide_eq_true hc
  obtain ⟨d,e1,e2⟩:=FY (ds:=ns.map D.int) (i:=c) (by omega) (by rw [List.length_map];omega)
  have ix:ixS (.ref 0) (.int c) S=some (d,S):=by simp only [ixS,aj,am,h,Option.map_some,e1]
  refine ai ix ?_
  rw [List.getElem?_map] at e2
  cases hn:ns[(c:Int).toNat]? with
  | none=>rw [hn] at e2;cases e2
  | some i=>rw [hn] at e2;cases e2;exact q i
 ·k_is
  exact q 0
theorem HW {c:Int} (q:∀ n:Int,Q (.ref S.length) (S++[.lst [.int n]])):Ok (evC ak (k+1) lP [.int c] S) Q:=by
 refine aS (d:=iS) (ρ:=[some (.int c),none,none,none]) rfl rfl ?_
 dsimp only [iS,lU]
 k_is
 refine ⟨⟨by decide,by decide,by decide⟩,?_⟩
 k_is
 refine bw (fun _=>?_) fun _=>?_
 ·k_is
  refine ⟨⟨by decide,by decide,by decide⟩,?_⟩
  k_is
  exact q _
 ·k_is
  refine ⟨by decide,?_⟩
  refine pG (by decide) (fun i ρ S'=>S'=S/\∃ n:Int,∃ u v,ρ=[some (.int c),some (.int n),u,v]) (fun i ρ S' hi ⟨es,n,u,v,er⟩=>?_) (fun ρ S' ⟨es,n,u,v,er⟩=>?_) ⟨rfl,0,none,none,rfl⟩
  ·subst es er
   refine ⟨_,rfl,?_⟩
   k_is
   refine ⟨by decide,?_⟩
   k_is
   refine ⟨nA (by decide) (by decide),?_⟩
   k_is
   refine ⟨sO (by decide) (by decide),by decide,?_⟩
   k_is
   have a1:=Int.emod_nonneg ((c % 2147483629+7919 * (0+(i:Int))+1) * 48271) (show (2147483647:Int) ≠ 0 by decide)
   have a2:=Int.emod_lt_of_pos ((c % 2147483629+7919 * (0+(i:Int))+1) * 48271) (show (0:Int) < 2147483647 by decide)
   refine ⟨nA (by omega) (by omega),?_⟩
   k_is
   refine ⟨nA (by decide) (by decide),?_⟩
   k_is
   refine ⟨by decide,?_⟩
   k_is
   refine ⟨sO (by decide) (by decide),?_⟩
   k_is
   exact ⟨rfl,_,_,_,rfl⟩
  ·subst es er
   k_is
   exact q n
end Lw
namespace Lw
open PySem Ev L2
variable {p:Nat} {S:Sto} {k:Nat} {Q:D->Sto->Prop}
theorem nQ (r:List Int):TDs p S (r.map Dw.D.int) (r.map D.int):=by
 induction r with
 | nil=>exact aw
 | cons a r ih=>exact ab bR ih
theorem rl:∀ (M:List (List Int)),TDs p S (Dw.dA M) (M.map fun r=>D.tup (r.map D.int))
 | []=>aw
 | r::M=>ab (aR (nQ r)) (rl M)
theorem kO {ds:List D} (i:Nat) (d:D) (h:ds[i]?=some d):(fun i=>(ds[i]?).getD .non) i=d:=by
 show (ds[i]?).getD .non=d
 rw [h];rfl
theorem kP {L n:Nat} {es:List D} {M:List (List Int)} (h:Pot p S) (hL:S[L]?=some (.lst es)) (nL:L ≠ p) (hr:RowsS p S es M) (hm:Dw.Mat (n+1) M) (hn:n < 4)
  (q:∀ rows ds S',Dr p S S'->TDs p S' rows ds->Dw.aD (.tup rows)=true->Q (.tup ds) S') :
  rW (wSs (evC ak (k+1)) (jv ak) 57 (cL.drop 3)) [some (.ref p),some (.int (1+(n:Int))),some (.ref L),none] S (out Q):=by
 dsimp only [cL,List.drop]
 k_is
 have e1:((1:Int)+n).toNat=n+1:=by omega
 refine ⟨(by simp only [lim,bAE,decide_eq_true_eq];omega),?_⟩
 rw [e1]
 refine pG (by omega) (fun c ρ S'=>Dr p S S'/\∃ L es M u,ρ=[some (.ref p),some (.int (1+(n:Int))),some (.ref L),u]/\L ≠ p/\S'[L]?=some (.lst es)/\RowsS p S' es M/\Dw.Mat (n+1) M/\Dw.rO (n+1) c M) (fun c ρ S1 hc ⟨d1,L,es,M,u,er,nL,hL,hr,hm,tr⟩=>?_) (fun ρ S1 ⟨d1,L,es,M,u,er,nL,hL,hr,hm,tr⟩=>?_) ⟨Dr.refl h,L,es,M,none,rfl,nL,hL,hr,hm,fun a b q _ _ hq=>absurd hq (Nat.not_lt_zero q)⟩
 ·subst er
  refine ⟨_,rfl,?_⟩
  k_is
  refine ⟨(by rw [aM hL];rfl),?_⟩
  have le:es.length=n+1:=by rw [hr.len,hm.len]
  refine fq (n+1) (fun i=>(es[i]?).getD .non) (fun i acc S'=>Sm S1 S'/\RowsS p S' acc ((List.range i).map (Dw.bF M (n+1) c))) (fun i acc S' hi ⟨sm,_⟩=>by rw [<-le];exact gA (sm _ _ hL) _ kO) (by omega) (fun i acc S2 hi ⟨sm,ra⟩=>?_) (fun es' S2 ⟨sm,ra⟩=>⟨by rw [ra.len,List.length_map,List.length_range];omega,?_⟩) ⟨Sm.refl _,RowsS.nil⟩
  ·obtain ⟨r,m1,lr,_⟩:=hm.at hi hc
   obtain ⟨a,ea,na,za⟩:=hr.row i r m1
   obtain ⟨rc,m2,lrc,_⟩:=hm.at hc hc
   obtain ⟨b,eb,nb,zb⟩:=hr.row c rc m2
   have za2:=sm _ _ za
   have zb2:=sm _ _ zb
   simp only [ea,Option.getD_some]
   refine ⟨_,rfl,?_⟩
   k_is
   refine ⟨(by rw [aM za2];rfl),?_⟩
   have lm:(r.map D.int).length=n+1:=by rw [List.length_map];exact lr
   refine fq (n+1) (fun j=>.tup [.int j,((r.map D.int)[j]?).getD .non]) (fun j acc S'=>S'=S2/\acc=((Dw.bF M (n+1) c i).take j).map D.int) (fun j acc S' hj ⟨e,_⟩=>by subst e;rw [<-lm];exact sP (i:=j) za2 (by omega) (fun j=>.tup [.int j,((r.map D.int)[j]?).getD .non]) fun j d hd=>by show D.tup [.int j,((r.map D.int)[j]?).getD .non]=_;rw [hd];rfl) (by omega) (fun j acc S3 hj ⟨e3,ea'⟩=>?_) (fun es3 S3 ⟨e3,ea'⟩=>⟨by rw [ea',List.length_map,List.length_take];omega,?_⟩) ⟨rfl,rfl⟩
   ·subst e3
    obtain ⟨r',m3,_,e4,_⟩:=hm.at hi hj
    rw [m1] at m3
    cases m3
    have g1:((r.map D.int)[j]?).getD .non = .int (Dw.mg2 M i j):=by rw [List.getElem?_map,e4];rfl
    rw [g1]
    refine ⟨_,gz (by simp) (by simp),?_⟩
    k_is
    obtain ⟨r',m3,_,e5,_⟩:=hm.at hi hc
    rw [m1] at m3
    cases m3
    obtain ⟨rc',m3,_,e6,_⟩:=hm.at hc hj
    rw [m2] at m3
    cases m3
    have z0:(0:Int)+(c:Int)=(c:Int):=by omega
    have at1:∀ (l:List Int) (m:Nat) (x:Int),l[m]?=some x->atI (l.map D.int) (m:Int)=some (.int x):=fun l m x hx=>by
     have hlt:=(List.getElem?_eq_some_iff.mp hx).1
     unfold atI ixN
     rw [if_pos (by omega),if_pos (by rw [List.length_map];omega),Int.toNat_natCast]
     show (l.map D.int)[m]?=_
     rw [List.getElem?_map,hx];rfl
    have i1:ixS (.ref a) (.int (0+(c:Int))) S3=some (.int (Dw.mg2 M i c),S3):=by
     simp only [ixS,aj,aM za2,Option.map_some,z0,at1 r c _ e5]
    have i2:ixS (.ref L) (.int (0+(c:Int))) S3=some (.ref b,S3):=by
     have:atI es (c:Int)=some (.ref b):=by
      unfold atI ixN
      rw [if_pos (by omega),if_pos (by omega),Int.toNat_natCast]
      exact eb
     simp only [ixS,aj,aM (sm _ _ hL),Option.map_some,z0,this]
    have i3:ixS (.ref b) (.int (j:Int)) S3=some (.int (Dw.mg2 M c j),S3):=by
     simp only [ixS,aj,aM zb2,Option.map_some,at1 rc j _ e6]
    refine ai i1 (ai i2 (ai i3 ?_))
    k_is
    have lj:j < (Dw.bF M (n+1) c i).length:=by rw [Dw.jY];exact hj
    have gj:=Dw.oq M (c:=c) (i:=i) hj
    rw [gEG lj] at gj
    rw [ea',List.take_succ_eq_append_getElem lj,List.map_append,Option.some.inj gj]
    exact ⟨rfl,rfl⟩
   ·subst e3
    rw [List.take_of_length_le (by rw [Dw.jY];exact Nat.le_refl _)] at ea'
    subst ea'
    k_is
    have lt:=(Dr.sm d1.pot sm).pot.lt
    refine ⟨sm.trans (Sm.app _ _),?_⟩
    rw [List.range_succ,List.map_append]
    exact (ra.keep (Sm.app _ _).kp).snoc (by omega) bg
  ·k_is
   have lt:=(Dr.sm d1.pot sm).pot.lt
   have st:Dw.Mat (n+1) ((List.range (n+1)).map (Dw.bF M (n+1) c)):=Dw.wn hm hc
   exact ⟨(d1.thenSm sm).thenSm (Sm.app _ _),_,_,_,_,rfl,by omega,bg,ra.keep (Sm.app _ _).kp,st,Dw.wk hm hc tr (Dw.zN hm hc)⟩
 ·subst er
  k_is
  refine ⟨(by rw [aM hL];rfl),?_⟩
  have le:es.length=n+1:=by rw [hr.len,hm.len]
  refine fq (n+1) (fun i=>(es[i]?).getD .non) (fun i acc S'=>S'=S1/\acc=(M.take i).map fun r=>D.tup (r.map D.int)) (fun i acc S' hi ⟨e,_⟩=>by subst e;rw [<-le];exact gA hL _ kO) (by omega) (fun i acc S2 hi ⟨e2,ea⟩=>?_) (fun es' S2 ⟨e2,ea⟩=>⟨by rw [ea,List.length_map,List.length_take];omega,?_⟩) ⟨rfl,rfl⟩
  ·subst e2
   have li:i < M.length:=by rw [hm.len];exact hi
   obtain ⟨a,eb,na,za⟩:=hr.row i M[i] (gEG li)
   simp only [eb,Option.getD_some]
   refine ⟨_,rfl,?_⟩
   k_is
   have tq:aq iJ (.ref a) S2=some (.tup (M[i].map D.int),S2):=by simp only [aq,aj,aM za,Option.map_some,iJ]
   refine ai tq ?_
   refine ⟨rfl,?_⟩
   rw [ea,List.take_succ_eq_append_getElem li,List.map_append];rfl
  ·subst e2
   rw [List.take_of_length_le (by rw [hm.len];exact Nat.le_refl _)] at ea
   subst ea
   show Ok (some (D.tup _,S2)) _
   rw [ad]
   exact q (Dw.dA M) _ S2 d1 (rl M) (Dw.wm hm (by omega) (by omega) tr)
theorem yP (h:Pot p S) (q:∀ rows ds S',Dr p S S'->TDs p S' rows ds->Dw.aD (.tup rows)=true->Q (.tup ds) S'):Ok (evC ak (k+2) kD [.ref p] S) Q:=by
 refine aS (d:=gy) (ρ:=[some (.ref p),none,none,none]) rfl rfl ?_
 dsimp only [gy,cL]
 k_is
 refine ⟨rfl,al h (by decide) (by decide) fun r0 S1 r1 r2 d1=>?_⟩
 k_is
 obtain ⟨n,rfl⟩:∃ n:Nat,r0=(n:Int):=⟨r0.toNat,by omega⟩
 have e1:((1:Int)+n).toNat=n+1:=by omega
 refine ⟨(by simp only [lim,bAE,decide_eq_true_eq];omega),?_⟩
 rw [e1]
 refine qX (by omega) (fun i acc S'=>Dr p S1 S'/\∃ M:List (List Int),M.length=i/\RowsS p S' acc M/\∀ r ∈ M,r.length=n+1/\∀ x ∈ r,1<=x/\x<=99) (fun i acc S2 hi ⟨d2,M,lM,rM,bM⟩=>⟨_,rfl,?_⟩) (fun es S2 ⟨d2,M,lM,rM,bM⟩=>⟨by rw [rM.len];omega,?_⟩) ⟨Dr.refl d1.pot,[],rfl,RowsS.nil,fun r hr=>by simp at hr⟩
 ·k_is
  refine ⟨(by simp only [lim,bAE,decide_eq_true_eq];omega),?_⟩
  rw [e1]
  refine qX (by omega) (fun j acc S'=>Dr p S2 S'/\∃ r:List Int,acc=r.map D.int/\r.length=j/\∀ x ∈ r,1<=x/\x<=99) (fun j acc S3 hj ⟨d3,r,ea,lr,br⟩=>⟨_,rfl,?_⟩) (fun es S3 ⟨d3,r,ea,lr,br⟩=>⟨by rw [ea,List.length_map];omega,?_⟩) ⟨Dr.refl d2.pot,[],rfl,rfl,fun x hx=>by simp at hx⟩
  ·k_is
   refine ⟨rfl,al d3.pot (by decide) (by decide) fun x S4 x1 x2 d4=>?_⟩
   k_is
   refine ⟨d3.trans d4,r++[1+x],by rw [ea,List.map_append];rfl,by simp [lr],fun y hy=>?_⟩
   rcases List.mem_append.mp hy with hy | hy
   ·exact br y hy
   ·simp at hy;omega
  ·subst ea
   k_is
   have lt:=d3.pot.lt
   refine ⟨(d2.trans d3).thenSm (Sm.app _ _),M++[r],by simp [lM],((rM.keep d3.kp).keep (Sm.app _ _).kp).snoc (by omega) bg,fun r' hr'=>?_⟩
   rcases List.mem_append.mp hr' with hr' | hr'
   ·exact bM r' hr'
   ·simp at hr';subst hr';exact ⟨lr,br⟩
 ·have lt2:=d2.pot.lt
  have d3:Dr p S1 (S2++[Ob.lst es]):=d2.thenSm (Sm.app _ _)
  have r3:RowsS p (S2++[Ob.lst es]) es M:=rM.keep (Sm.app _ _).kp
  have a3:(S2++[Ob.lst es])[S2.length]?=some (Ob.lst es):=bg
  have m3:Dw.Mat (n+1) M:=⟨lM,fun r hr=>(bM r hr).1,fun r hr=>(bM r hr).2⟩
  have ne3:S2.length ≠ p:=by omega
  revert a3 r3 d3
  generalize S2++[Ob.lst es]=S3
  intro d3 r3 a3
  k_is
  refine ⟨rfl,al d3.pot (by decide) (by decide) fun x S4 x1 x2 d4=>?_⟩
  k_is
  have a4:=d4.kp _ _ ne3 a3
  have r4:=r3.keep d4.kp
  have d5:Dr p S S4:=(d1.trans d3).trans d4
  have hlim:lim (1+(n:Int))=true:=by simp only [lim,bAE,decide_eq_true_eq];omega
  refine bw (fun _=>?_) fun _=>?_
  ·k_is
   refine ⟨(by rw [aM a4];rfl),?_⟩
   have le:es.length=n+1:=by rw [r4.len,lM]
   refine fq (n+1) (fun i=>(es[i]?).getD .non) (fun i acc S'=>Dr p S4 S'/\∃ M':List (List Int),M'.length=i/\RowsS p S' acc M'/\∀ r ∈ M',r.length=n+1/\∀ x ∈ r,1<=x/\x<=99) (fun i acc S' hi ⟨dd,_⟩=>by rw [<-le];exact gA (dd.kp _ _ ne3 a4) _ kO) (by omega) (fun i acc S5 hi ⟨dd,M',lM',rM',bM'⟩=>?_) (fun es' S5 ⟨dd,M',lM',rM',bM'⟩=>⟨by rw [rM'.len];omega,?_⟩) ⟨Dr.refl d4.pot,[],rfl,RowsS.nil,fun r hr=>by simp at hr⟩
   ·obtain ⟨r,m1,lr,_⟩:=m3.at hi hi
    obtain ⟨a,ea,na,za⟩:=r4.row i r m1
    simp only [ea,Option.getD_some]
    refine ⟨_,rfl,?_⟩
    k_is
    have za5:=dd.kp _ _ na za
    refine ⟨(by rw [aM za5];rfl),?_⟩
    have lm:(r.map D.int).length=n+1:=by rw [List.length_map];exact lr
    refine fq (n+1) (fun i=>((r.map D.int)[i]?).getD .non) (fun j acc S'=>Dr p S5 S'/\∃ r:List Int,acc=r.map D.int/\r.length=j/\∀ x ∈ r,1<=x/\x<=99) (fun j acc S' hj ⟨de,_⟩=>by rw [<-lm];exact gA (de.kp _ _ na za5) _ kO) (by omega) (fun j acc S6 hj ⟨de,r',ea',lr',br⟩=>⟨_,rfl,?_⟩) (fun es6 S6 ⟨de,r',ea',lr',br⟩=>⟨by rw [ea',List.length_map];omega,?_⟩) ⟨Dr.refl dd.pot,[],rfl,rfl,fun x hx=>by simp at hx⟩
    ·k_is
     refine ⟨rfl,al de.pot (by decide) (by decide) fun y S7 y1 y2 d7=>?_⟩
     k_is
     refine ⟨de.trans d7,r'++[99 - y],by rw [ea',List.map_append];rfl,by simp [lr'],fun z hz=>?_⟩
     rcases List.mem_append.mp hz with hz | hz
     ·exact br z hz
     ·simp at hz;omega
    ·subst ea'
     k_is
     have lt:=de.pot.lt
     refine ⟨(dd.trans de).thenSm (Sm.app _ _),M'++[r'],by simp [lM'],((rM'.keep de.kp).keep (Sm.app _ _).kp).snoc (by omega) bg,fun r'' hr''=>?_⟩
     rcases List.mem_append.mp hr'' with hr'' | hr''
     ·exact bM' r'' hr''
     ·simp at hr'';subst hr'';exact ⟨lr',br⟩
   ·have lt:=dd.pot.lt
    have d6:Dr p S4 (S5++[Ob.lst es']):=dd.thenSm (Sm.app _ _)
    have tail:=kP (k:=k) (Q:=Q) (n:=n) (L:=S5.length) (es:=es') (M:=M') d6.pot bg (by omega) (rM'.keep (Sm.app _ _).kp) ⟨lM',fun r hr=>(bM' r hr).1,fun r hr=>(bM' r hr).2⟩ (by omega) fun rows ds S' dd' td hg=>q rows ds S' ((d5.trans d6).trans dd') td hg
    dsimp only [cL,List.drop] at tail
    k_is
    exact tail
  ·have tail:=kP (k:=k) (Q:=Q) (n:=n) d4.pot a4 ne3 r4 m3 (by omega) fun rows ds S' dd' td hg=>q rows ds S' (d5.trans dd') td hg
   dsimp only [cL,List.drop] at tail
   k_is
   exact tail
end Lw
namespace Lw
open PySem Ev L2
variable {p:Nat} {S:Sto} {k:Nat} {Q:D->Sto->Prop}
theorem u5 (h:Pot p S) (q:∀ ts ds S',Dr p S S'->TDs p S' ts ds->Dw.aE (.tup ts)=true->Q (.tup ds) S'):Ok (evC ak (k+2) jd [.ref p,.int 0] S) Q:=by
 refine aS (d:=fk) (ρ:=[some (.ref p),some (.int 0),none,none,none]) rfl rfl ?_
 dsimp only [fk,jn]
 k_is
 have d0:Dr p S (S++[Ob.lst []]):=Dr.sm h (Sm.app _ _)
 refine ⟨rfl,al d0.pot (by decide) (by decide) fun r0 S1 r1 r2 d1=>?_⟩
 obtain ⟨n,rfl⟩:∃ n:Nat,r0=(n:Int):=⟨r0.toNat,by omega⟩
 have lt:=h.lt
 have a1:S1[S.length]?=some (Ob.lst []):=d1.kp _ _ (by omega) bg
 have at5:atI [D.int 0,D.int 1,D.int 2,D.int 3,D.int 4] (n:Int)=some (D.int n):=by
  have:n=0\/n=1\/n=2\/n=3\/n=4:=by omega
  rcases this with rfl | rfl | rfl | rfl | rfl <;> rfl
 refine ⟨_,at5,?_⟩
 k_is
 refine ⟨(by simp only [lim,bAE,decide_eq_true_eq];omega),?_⟩
 rw [Int.toNat_natCast]
 refine pG (by omega) (fun i ρ S'=>Kp p S S'/\Pot p S'/\∃ (es:List (Int × Int)) (b:Int) (u:Option D),ρ=[some (.ref p),some (.int 0),some (.ref S.length),some (.int b),u]/\S'[S.length]?=some (.lst (es.map cu))/\Dw.Good es b/\es.length=i/\0<=b/\b<=20 * i) (fun i ρ S2 hi ⟨k2,p2,es,b,u,er,hf,hg,le,b0,b1⟩=>?_) (fun ρ S2 ⟨k2,p2,es,b,u,er,hf,hg,le,b0,b1⟩=>?_) ⟨d0.kp.trans d1.kp,d1.pot,[],0,none,rfl,a1,Dw.Good.nil,rfl,by omega,by omega⟩
 ·subst er
  refine ⟨_,rfl,?_⟩
  k_is
  refine ⟨rfl,al p2 (by decide) (by decide) fun x S3 x1 x2 d3=>?_⟩
  k_is
  have f3:=d3.kp _ _ (show S.length ≠ p by omega) hf
  refine ⟨kM f3,?_⟩
  k_is
  refine ⟨rfl,al d3.pot (by decide) (by decide) fun y S4 y1 y2 d4=>?_⟩
  k_is
  have f4:=d4.kp _ _ (show S.length ≠ p by omega) f3
  rw [yd f4 (by rw [List.length_map];omega)]
  k_is
  have lt4:S.length < S4.length:=(List.getElem?_eq_some_iff.mp f4).1
  have f5:(S4.set S.length (Ob.lst (es.map cu++[D.tup [D.int (b+1+x),D.int (b+1+x+1+y)]])))[S.length]?=some (Ob.lst (es.map cu++[D.tup [D.int (b+1+x),D.int (b+1+x+1+y)]])):=kL lt4
  refine ai (Bi f5) ?_
  k_is
  show Ok (some (D.int (b+1+x+1+y),_)) _
  rw [ad]
  k_is
  refine ⟨((k2.trans d3.kp).trans d4.kp).setNew (Nat.le_refl _),d4.pot.setNe (by omega),es++[(b+1+x,b+1+x+1+y)],_,_,rfl,by rw [List.map_append];exact f5,hg.more b0 (by omega) (by omega),by simp [le],by omega,by omega⟩
 ·subst er
  k_is
  have tq:aq iJ (.ref S.length) S2=some (.tup (es.map cu),S2):=by simp only [aq,aj,aM hf,Option.map_some,iJ]
  refine ai tq ?_
  k_is
  exact q _ _ S2 ⟨k2,p2⟩ (pH es) (hg.shuts (by omega) (by omega))
theorem yQ (h:Pot p S) (q:∀ r s rows hs d S',Dr p S S'->TD p S' (.tup [.int r,.int s,.tup rows,.tup hs]) d->Dw.aV (.tup [.int r,.int s,.tup rows,.tup hs])=true->Q d S'):Ok (evC ak (k+3) hR [.ref p] S) Q:=by
 refine aS (d:=eu) (ρ:=[some (.ref p),none]) rfl rfl ?_
 dsimp only [eu,ic]
 k_is
 refine ⟨rfl,al h (by decide) (by decide) fun r0 S1 r1 r2 d1=>?_⟩
 obtain ⟨n,rfl⟩:∃ n:Nat,r0=(n:Int):=⟨r0.toNat,by omega⟩
 obtain ⟨r,at1,hr⟩:∃ r:Int,atI [D.int 2,D.int 1,D.int 3,D.int 8,D.int 0] (n:Int)=some (D.int r)/\0<=r/\r<=8:=by
  have:n=0\/n=1\/n=2\/n=3\/n=4:=by omega
  rcases this with rfl | rfl | rfl | rfl | rfl
  ·exact ⟨2,rfl,by decide,by decide⟩
  ·exact ⟨1,rfl,by decide,by decide⟩
  ·exact ⟨3,rfl,by decide,by decide⟩
  ·exact ⟨8,rfl,by decide,by decide⟩
  ·exact ⟨0,rfl,by decide,by decide⟩
 refine ⟨_,at1,?_⟩
 k_is
 refine ⟨rfl,al d1.pot (by decide) (by decide) fun s0 S2 s1 s2 d2=>?_⟩
 obtain ⟨m,rfl⟩:∃ n:Nat,s0=(n:Int):=⟨s0.toNat,by omega⟩
 obtain ⟨s,at2,hs⟩:∃ r:Int,atI [D.int 2,D.int 0,D.int 1,D.int 5,D.int 60] (m:Int)=some (D.int r)/\0<=r/\r<=60:=by
  have:m=0\/m=1\/m=2\/m=3\/m=4:=by omega
  rcases this with rfl | rfl | rfl | rfl | rfl
  ·exact ⟨2,rfl,by decide,by decide⟩
  ·exact ⟨0,rfl,by decide,by decide⟩
  ·exact ⟨1,rfl,by decide,by decide⟩
  ·exact ⟨5,rfl,by decide,by decide⟩
  ·exact ⟨60,rfl,by decide,by decide⟩
 refine ⟨_,at2,?_⟩
 k_is
 refine ⟨rfl,yP d2.pot fun rows ds S3 d3 td hg=>?_⟩
 k_is
 refine ⟨rfl,u5 d3.pot fun hs' es S4 d4 td4 hh=>?_⟩
 k_is
 refine q r s rows hs' _ S4 (((d1.trans d2).trans d3).trans d4) (aR (ab bR (ab bR (ab (aR (td.keep d4.kp)) (ab (aR td4) aw))))) ?_
 rw [Dw.rP,hg,hh]
 simp only [Dw.ae,decide_eq_true hr.1,decide_eq_true hr.2,decide_eq_true hs.1,decide_eq_true hs.2,Bool.and_self]
theorem yR {r s:Int} {rows:List Dw.D} {hs:Dw.D} {m:D} (h:Pot p S) (hm:TD p S (.tup [.int r,.int s,.tup rows,hs]) m) (hr:0<=r) (hs0:0<=s) (hs1:s<=60) (l1:1<=rows.length) (l4:rows.length<=4)
  (q:∀ (a j f l u w:Int) S',Dr p S S'->Dw.aA rows.length r s (.tup [.int a,.int j,.int f,.int l,.int u,.int w,.int 0])=true->Q (.tup [.int a,.int j,.int f,.int l,.int u,.int w,.int 0]) S'):Ok (evC ak (k+2) hU [.ref p,m] S) Q:=by
 obtain ⟨ms,rfl,hms⟩:=hm.tup
 refine aS (d:=ez) (ρ:=[some (.ref p),some (.tup ms),none,none,none,none]) rfl rfl ?_
 dsimp only [ez,ig]
 k_is
 refine ⟨rfl,al h (by decide) (by decide) fun j S1 j1 j2 d1=>?_⟩
 k_is
 refine aH (i:=1) (hms.keep d1.kp) rfl fun d2 t2=>?_
 obtain rfl:=t2.int
 k_is
 refine ⟨rfl,al d1.pot (by decide) (by decide) fun x S2 x1 x2 d2=>?_⟩
 k_is
 refine ⟨rfl,al d2.pot (by decide) (by decide) fun y S3 y1 y2 d3=>?_⟩
 obtain ⟨n,rfl⟩:∃ n:Nat,y=(n:Int):=⟨y.toNat,by omega⟩
 obtain ⟨e,at1,he⟩:∃ e:Int,atI [D.int 0,D.int 0,D.int x] (n:Int)=some (D.int e)/\0<=e/\e<=9:=by
  have:n=0\/n=1\/n=2:=by omega
  rcases this with rfl | rfl | rfl
  ·exact ⟨0,rfl,by decide,by decide⟩
  ·exact ⟨0,rfl,by decide,by decide⟩
  ·exact ⟨x,rfl,by omega,by omega⟩
 refine ⟨_,at1,?_⟩
 k_is
 refine ⟨rfl,al d3.pot (by decide) (by decide) fun x' S4 a1 a2 d4=>?_⟩
 k_is
 refine ⟨rfl,al d4.pot (by decide) (by decide) fun x'' S5 b1 b2 d5=>?_⟩
 k_is
 refine ⟨rfl,al d5.pot (by decide) (by decide) fun y' S6 c1 c2 d6=>?_⟩
 obtain ⟨n',rfl⟩:∃ n:Nat,y'=(n:Int):=⟨y'.toNat,by omega⟩
 obtain ⟨g,at2,hg⟩:∃ e:Int,atI [D.int x',D.int (5+x''),D.int 60,D.int 200] (n':Int)=some (D.int e)/\0<=e/\e<=200:=by
  have:n'=0\/n'=1\/n'=2\/n'=3:=by omega
  rcases this with rfl | rfl | rfl | rfl
  ·exact ⟨x',rfl,by omega,by omega⟩
  ·exact ⟨5+x'',rfl,by omega,by omega⟩
  ·exact ⟨60,rfl,by decide,by decide⟩
  ·exact ⟨200,rfl,by decide,by decide⟩
 refine ⟨_,at2,?_⟩
 k_is
 refine ⟨rfl,al d6.pot (by decide) (by decide) fun z S7 z1 z2 d7=>?_⟩
 k_is
 refine ⟨rfl,al d7.pot (by decide) (by decide) fun z' S8 z3 z4 d8=>?_⟩
 k_is
 refine ⟨rfl,al d8.pot (by decide) (by decide) fun y'' S9 y3 y4 d9=>?_⟩
 obtain ⟨n'',rfl⟩:∃ n:Nat,y''=(n:Int):=⟨y''.toNat,by omega⟩
 obtain ⟨u,at3,hu⟩:∃ v:Int,atI [D.int (j+s+e),D.int (j+z),D.int z'] (n'':Int)=some (D.int v)/\0<=v/\v<=300:=by
  have:n''=0\/n''=1\/n''=2:=by omega
  rcases this with rfl | rfl | rfl
  ·exact ⟨j+s+e,rfl,by omega,by omega⟩
  ·exact ⟨j+z,rfl,by omega,by omega⟩
  ·exact ⟨z',rfl,by omega,by omega⟩
 refine ⟨_,at3,?_⟩
 k_is
 have d10:=(((((((d1.trans d2).trans d3).trans d4).trans d5).trans d6).trans d7).trans d8).trans d9
 refine aH (i:=2) (hms.keep d10.kp) rfl fun dd t2=>?_
 obtain ⟨rs,rfl,hrs⟩:=t2.tup
 refine ai (aY hrs) ?_
 k_is
 refine ⟨rfl,al d9.pot (by omega) (by omega) fun kd Sa ka kb da=>?_⟩
 k_is
 refine ⟨rfl,al da.pot (by decide) (by decide) fun w Sb w1 w2 db=>?_⟩
 k_is
 refine q kd j (j+s+e) (j+s+e+g) u w Sb ((d10.trans da).trans db) ?_
 simp only [Dw.aA,Dw.ae,Dw.leD,List.all_cons,List.all_nil,bAE,decide_eq_true_eq,Bool.and_true]
 omega
end Lw
namespace Lw
open PySem Ev L2
variable {p:Nat} {S:Sto} {k:Nat} {Q:D->Sto->Prop}
noncomputable def HX:List Dw.D:=[.non,.bl true,.bl false,.int (-1),.int (10 ^ 30),.str "", .str "a", .str "1", .tup [],.lst [],.dic [] [],.lst [.tup []],.tup [.tup []],.tup [.int 0],.lst [.int 0],.dic [k8 0] [.int 1],.tup [.bl true,.bl true]]
theorem HY:∀ t ∈ HX,Dw.Fit 2 2 t/\Dw.Bd (10 ^ 31) 300 t:=by
 have h:(HX.all fun t=>decide (Dw.dep t<=2) && (decide (Dw.wid t<=2) && Dw.bdB t))=true:=by kernel_rfl
 intro t ht
 have:=List.all_eq_true.mp h t ht
 simp only [bAE,decide_eq_true_eq] at this
 exact ⟨⟨this.1,this.2.1⟩,Dw.En this.2.2⟩
theorem jJ (h:Pot p S) (q:∀ t d S',Dr p S S'->TD p S' t d->Dw.Fit 2 2 t->Dw.Bd (10 ^ 31) 300 t->Q d S'):Ok (evC ak (k+2) cE [.ref p] S) Q:=by
 refine aS (d:=iU) (ρ:=[some (.ref p),none]) rfl rfl ?_
 dsimp only [iU,lV]
 k_is
 refine ⟨⟨by decide,by decide,by decide⟩,?_⟩
 have lt:=h.lt
 have g0:=@bg S (Ob.lst [])
 have g1:=@bg (S++[Ob.lst []]) (Ob.dic [] [])
 have g2:=@bg (S++[Ob.lst []]++[Ob.dic [] []]) (Ob.lst [D.tup []])
 have g3:=@bg (S++[Ob.lst []]++[Ob.dic [] []]++[Ob.lst [D.tup []]]) (Ob.lst [D.int 0])
 have g4:=@bg (S++[Ob.lst []]++[Ob.dic [] []]++[Ob.lst [D.tup []]]++[Ob.lst [D.int 0]]) (Ob.dic [k8 0] [D.int 1])
 have n0:List.length S ≠ p:=by omega
 have n1:List.length (S++[Ob.lst []]) ≠ p:=by simp;omega
 have n2:List.length (S++[Ob.lst []]++[Ob.dic [] []]) ≠ p:=by simp;omega
 have n3:List.length (S++[Ob.lst []]++[Ob.dic [] []]++[Ob.lst [D.tup []]]) ≠ p:=by simp;omega
 have n4:List.length (S++[Ob.lst []]++[Ob.dic [] []]++[Ob.lst [D.tup []]]++[Ob.lst [D.int 0]]) ≠ p:=by simp;omega
 have n5:List.length (S++[Ob.lst []]++[Ob.dic [] []]++[Ob.lst [D.tup []]]++[Ob.lst [D.int 0]]++[Ob.dic [k8 0] [D.int 1]]) ≠ p:=by simp;omega
 have s1:=Sm.app S [Ob.lst []]
 have s2:=Sm.app (S++[Ob.lst []]) [Ob.dic [] []]
 have s3:=Sm.app (S++[Ob.lst []]++[Ob.dic [] []]) [Ob.lst [D.tup []]]
 have s4:=Sm.app (S++[Ob.lst []]++[Ob.dic [] []]++[Ob.lst [D.tup []]]) [Ob.lst [D.int 0]]
 have s5:=Sm.app (S++[Ob.lst []]++[Ob.dic [] []]++[Ob.lst [D.tup []]]++[Ob.lst [D.int 0]]) [Ob.dic [k8 0] [D.int 1]]
 generalize hE:(S++[Ob.lst []]++[Ob.dic [] []]++[Ob.lst [D.tup []]]++[Ob.lst [D.int 0]]++[Ob.dic [k8 0] [D.int 1]])=E at *
 have s6:=fun o=>Sm.app E [o]
 have g5:=fun o=>@bg E o
 generalize List.length (S++[Ob.lst []]++[Ob.dic [] []]++[Ob.lst [D.tup []]]++[Ob.lst [D.int 0]])=i4 at *
 generalize List.length (S++[Ob.lst []]++[Ob.dic [] []]++[Ob.lst [D.tup []]])=i3 at *
 generalize List.length (S++[Ob.lst []]++[Ob.dic [] []])=i2 at *
 generalize List.length (S++[Ob.lst []])=i1 at *
 have td:∀ o,TDs p (E++[o]) HX [D.non,D.bl true,D.bl false,D.int (-1),D.int (10 ^ Int.toNat 30),D.str (Str.ofString ""),D.str (Str.ofString "a"),D.str (Str.ofString "1"),D.tup [],D.ref (List.length S),D.ref i1,D.ref i2,D.tup [D.tup []],D.tup [D.int 0],D.ref i3,D.ref i4,D.tup [D.bl true,D.bl true]]:=fun o=>by
  refine ab qS (ab pD (ab pD (ab bR (ab bR (ab qT (ab qT (ab qT (ab (aR aw) (ab (nB n0 (s6 o _ _ (s5 _ _ (s4 _ _ (s3 _ _ (s2 _ _ g0))))) aw) (ab (ye n1 (s6 o _ _ (s5 _ _ (s4 _ _ (s3 _ _ g1)))) aw) (ab (nB n2 (s6 o _ _ (s5 _ _ (s4 _ _ g2))) (ab (aR aw) aw)) (ab (aR (ab (aR aw) aw)) (ab (aR (ab bR aw)) (ab (nB n3 (s6 o _ _ (s5 _ _ g3)) (ab bR aw)) (ab (ye n4 (s6 o _ _ g4) (ab bR aw)) (ab (aR (ab pD (ab pD aw))) aw))))))))))))))))
 have d0:∀ o,Dr p S (E++[o]):=fun o=>Dr.sm h ((((s1.trans s2).trans s3).trans s4).trans (s5.trans (s6 o)))
 generalize [D.non,D.bl true,D.bl false,D.int (-1),D.int (10 ^ Int.toNat 30),D.str (Str.ofString ""),D.str (Str.ofString "a"),D.str (Str.ofString "1"),D.tup [],D.ref (List.length S),D.ref i1,D.ref i2,D.tup [D.tup []],D.tup [D.int 0],D.ref i3,D.ref i4,D.tup [D.bl true,D.bl true]]=L at *
 have ll:L.length=17:=(td (Ob.lst [])).len
 have lq:aq dQ (D.ref (List.length E)) (E++[Ob.lst L])=some (.int 17,E++[Ob.lst L]):=by simp only [aq,aj,aM (g5 _),Option.map_some,dQ,ll];rfl
 k_is
 refine ai lq ?_
 k_is
 refine ⟨rfl,al (d0 _).pot (by decide) (by decide) fun r S1 r1 r2 d1=>?_⟩
 obtain ⟨n,rfl⟩:∃ n:Nat,r=(n:Int):=⟨r.toNat,by omega⟩
 have a1:=d1.kp _ _ n5 (g5 (Ob.lst L))
 have hn:n < HX.length:=by show n < 17;omega
 obtain ⟨d,e1,tdn⟩:=((td (Ob.lst L)).keep d1.kp).get (gEG hn)
 have ix:ixS (.ref (List.length E)) (.int (n:Int)) S1=some (d,S1):=by simp only [ixS,aj,aM a1,Option.map_some,Ev.mi e1]
 refine ai ix ?_
 k_is
 have bd:=HY HX[n] (List.getElem_mem hn)
 exact q _ _ _ ((d0 _).trans d1) tdn bd.1 bd.2
theorem HZ {ts:List Dw.D} {ds:List D} (h:TDs p S ts ds):ds.isEmpty=ts.isEmpty:=by
 cases ts with
 | nil=>rw [h.nil];rfl
 | cons t ts=>obtain ⟨d,r,rfl,_⟩:=h.cons;rfl
end Lw
namespace Lw
open PySem Ev L2
variable {p:Nat} {S:Sto} {k:Nat} {Q:D->Sto->Prop}
theorem l5 {t:Dw.D} {d:D} {n m B s:Nat} (h:Pot p S) (ht:TD p S t d) (nt:bV t=false) (hf:Dw.Fit n m t) (hB:Dw.Bd B s t) (m2:2<=m)
  (q:∀ t' d' S',Dr p S S'->TD p S' t' d'->Dw.Fit (n+2) (m+1) t'->Dw.Bd (B+10 ^ 31) (3 * s+400) t'->Q d' S'):Ok (evC ak (k+3) dW [.ref p,d] S) Q:=by
 refine aS (d:=cM) (ρ:=[some (.ref p),some d,none,none]) rfl rfl ?_
 dsimp only [cM,gn]
 k_is
 rw [bv ht,ad,nt]
 k_is
 have odd:∀ S1,Dr p S S1->Ok (evC ak (k+2) cE [D.ref p] S1) fun d S2=>Q d S2:=fun S1 d1=>jJ d1.pot fun t' d' S' dd td f b=>q t' d' S' (d1.trans dd) td (f.up (by omega) (by omega)) (b.up (by omega) (by omega))
 refine ⟨rfl,lZ ht ?_⟩
 k_is
 cases hw:Dw.isW t with
 | false=>k_is;exact ⟨rfl,odd S (Dr.refl h)⟩
 | true=>
  k_is
  refine ⟨rfl,al h (by decide) (by decide) fun r S1 r1 r2 d1=>?_⟩
  k_is
  refine bw (fun _=>?_) fun _=>?_
  ·k_is
   cases t with
   | int i=>
    obtain rfl:=ht.int
    refine ⟨⟨by decide,by decide,by decide⟩,?_⟩
    k_is
    refine ⟨rfl,al d1.pot (by decide) (by decide) fun r' S2 r3 r4 d2=>?_⟩
    obtain ⟨n',rfl⟩:∃ n:Nat,r'=(n:Int):=⟨r'.toNat,by omega⟩
    obtain ⟨e,at1,he⟩:∃ e:Int,atI [D.int 1,D.int (-1),D.int 9,D.int 100,D.int 9999,D.int (-10 ^ Int.toNat 4)] (n':Int)=some (D.int e)/\e.natAbs<=10000:=by
     have:n'=0\/n'=1\/n'=2\/n'=3\/n'=4\/n'=5:=by omega
     rcases this with rfl | rfl | rfl | rfl | rfl | rfl
     ·exact ⟨1,rfl,by decide⟩
     ·exact ⟨-1,rfl,by decide⟩
     ·exact ⟨9,rfl,by decide⟩
     ·exact ⟨100,rfl,by decide⟩
     ·exact ⟨9999,rfl,by decide⟩
     ·exact ⟨-10 ^ Int.toNat 4,rfl,by decide⟩
    refine ⟨_,at1,?_⟩
    k_is
    have hb:=hB.bn
    simp only [Dw.bnd] at hb
    exact q (.int (i+e)) _ S2 (d1.trans d2) bR (Dw.wg rfl) (Dw.Em (by omega) (by omega))
   | _=>simp [Dw.isW] at hw
  ·k_is
   exact ⟨rfl,odd S1 d1⟩
theorem pO:∀ (n:Nat) {S:Sto} {Q:D->Sto->Prop} {t:Dw.D} {d:D} {m B s:Nat},Pot p S->TD p S t d->Dw.Fit n m t->Dw.Bd B s t->2<=m->m<=300 ->
  (∀ t' d' S',Dr p S S'->TD p S' t' d'->Dw.Fit (n+2) (m+1) t'->Dw.Bd (B+10 ^ 31) (3 * s+400) t'->Q d' S')->Ok (evC ak (k+n+3) dW [.ref p,d] S) Q
 | 0,S,Q,t,d,m,B,s,h,ht,hf,hB,m2,m3,q=>by
  cases t with
  | tup ts=>exact absurd hf.pos (by omega)
  | _=>exact l5 h ht rfl hf hB m2 q
 | n+1,S,Q,t,d,m,B,s,h,ht,hf,hB,m2,m3,q=>by
  cases t with
  | tup ts=>
   obtain ⟨ds,rfl,hs⟩:=ht.tup
   refine aS (d:=cM) (k:=k+n+3) (ρ:=[some (.ref p),some (.tup ds),none,none]) rfl rfl ?_
   dsimp only [cM,gn]
   k_is
   refine ai (bv ht) ?_
   k_is
   dsimp only [bV]
   k_is
   refine ⟨rfl,al h (by decide) (by decide) fun way S1 w1 w2 d1=>?_⟩
   k_is
   have hs1:=hs.keep d1.kp
   have ll:=hs.len
   have lm:=hf.len
   have m1:∀ x:D,(ds++[x]).length<=1000:=fun x=>by rw [List.length_append,List.length_singleton];omega
   refine HS ?_ fun _ ne=>?_
   ·k_is
    refine ⟨rfl,jJ d1.pot fun ta da S2 d2 t2 f2 b2=>?_⟩
    show Ok (some (ds,S2)) _
    rw [ad]
    k_is
    have lt:=d2.pot.lt
    have d3:Dr p S2 (S2++[Ob.lst ds]):=Dr.sm d2.pot (Sm.app _ _)
    refine ⟨rfl,jJ d3.pot fun tb db S4 d4 t4 f4 b4=>⟨by show ds.length+1<=1000;omega,?_,rfl,al d4.pot (by decide) (by decide) fun r S5 r1 r2 d5=>?_⟩⟩
    ·have:=(hs.cut (some (-1)) none).len
     have:=Dw.rK ts (some (-1)) none
     omega
    ·have dd:Dr p S S5:=(((d1.trans d2).trans d3).trans d4).trans d5
     have hs5:TDs p S5 ts ds:=hs.keep dd.kp
     have a5:S5[List.length S2]?=some (Ob.lst ds):=(d4.trans d5).kp _ _ (by omega) bg
     obtain ⟨n',rfl⟩:∃ n:Nat,r=(n:Int):=⟨r.toNat,by omega⟩
     have:n'=0\/n'=1\/n'=2\/n'=3:=by omega
     rcases this with rfl | rfl | rfl | rfl
     ·exact ⟨_,rfl,q ta da S5 dd (t2.keep ((d3.trans d4).trans d5).kp) (f2.up (by omega) (by omega)) (b2.up (by omega) (by omega))⟩
     ·exact ⟨_,rfl,q (.lst ts) _ S5 dd (nB (by omega) a5 hs5) (hf.lst.up (by omega) (by omega)) ((Dw.Ei hB).up (by omega) (by omega))⟩
     ·refine ⟨_,rfl,q (.tup (ts++[tb])) _ S5 dd (aR (hs5.app (ab (t4.keep d5.kp) aw))) (Dw.Fit.tup (n:=n+2) ?_ ?_) (Dw.zR hB b4)⟩
      ·rw [List.length_append,List.length_singleton];omega
      ·intro x hx
       rcases List.mem_append.mp hx with hx | hx
       ·exact (hf.mem hx).up (by omega) (by omega)
       ·rw [List.mem_singleton.mp hx];exact f4.up (by omega) (by omega)
     ·refine ⟨_,rfl,q (.tup (ts++Dw.aX ts (some (-1)) none)) _ S5 dd (aR (hs5.app (hs5.cut _ _))) (Dw.Fit.tup (n:=n+2) ?_ ?_) (Dw.Ek hB)⟩
      ·rw [List.length_append]
       have:=Dw.zL ts
       omega
      ·intro x hx
       rcases List.mem_append.mp hx with hx | hx
       ·exact (hf.mem hx).up (by omega) (by omega)
       ·exact (hf.mem (Dw.bz hx)).up (by omega) (by omega)
   ·k_is
    have pos:0 < ts.length:=by
     cases ts with
     | nil=>rw [HZ hs] at ne;cases ne
     | cons _ _=>simp
    refine ai (aY hs1) ?_
    k_is
    refine ⟨rfl,al d1.pot (by omega) (by omega) fun at_ S2 a1 a2 d2=>?_⟩
    obtain ⟨a,rfl⟩:∃ n:Nat,at_=(n:Int):=⟨at_.toNat,by omega⟩
    k_is
    have dd:Dr p S S2:=d1.trans d2
    have hs2:TDs p S2 ts ds:=hs.keep dd.kp
    have c1:=Dw.mE ts (a:Int) (by omega)
    have c2:=Dw.mF ts ((a:Int)+1) (by omega) (by omega)
    have e1:=(hs.cut none (some (a:Int))).len
    have e2:=(hs.cut (some ((a:Int)+1)) none).len
    refine bw (fun _=>?_) fun _=>?_
    ·k_is
     refine ⟨by omega,q _ _ S2 dd (aR ((hs2.cut none (some (a:Int))).app (hs2.cut (some ((a:Int)+1)) none))) ((Dw.gK (k:=n) (Dw.dL hf) (Dw.dL hf) ?_).up (by omega) (by omega)) (Dw.zS hB)⟩
     rw [List.length_append];omega
    ·k_is
     refine bw (fun _=>?_) fun _=>?_
     ·k_is
      have c3:=Dw.zK ts (a:Int) (by omega)
      have c4:=Dw.mF ts (a:Int) (by omega) (by omega)
      have e3:=(hs.cut (some (a:Int)) (some ((a:Int)+1))).len
      have e4:=(hs.cut (some (a:Int)) none).len
      have hf':Dw.Fit (n+1) (m+1) (.tup ts):=hf.up (Nat.le_refl _) (by omega)
      refine ⟨by omega,by rw [List.length_append];omega,q _ _ S2 dd (aR (((hs2.cut none (some (a:Int))).app (hs2.cut (some (a:Int)) (some ((a:Int)+1)))).app (hs2.cut (some (a:Int)) none))) ((Dw.gK (k:=n) (Dw.gK (k:=n) (Dw.dL hf') (Dw.dL hf') ?_) (Dw.dL hf') ?_).up (by omega) (by omega)) (Dw.zT hB)⟩
      ·rw [List.length_append];omega
      ·rw [List.length_append,List.length_append];omega
     ·k_is
      have ha:a < ts.length:=by omega
      refine aH hs2 (gEG ha) fun x tx=>?_
      have hm:=List.getElem_mem ha
      obtain ⟨bx,sx⟩:=Dw.Ej hB hm
      refine ⟨rfl,pO n dd.pot tx (hf.mem hm) bx m2 m3 fun t' d' S3 d3 td' f' b'=>?_⟩
      k_is
      have hs3:=hs2.keep d3.kp
      have hf':Dw.Fit (n+3) (m+1) (.tup ts):=hf.up (by omega) (by omega)
      refine ⟨by rw [List.length_singleton];omega,by rw [List.length_append,List.length_singleton];omega,q _ _ S3 (dd.trans d3) (aR (((hs3.cut none (some (a:Int))).app (ab td' aw)).app (hs3.cut (some ((a:Int)+1)) none))) (Dw.gK (k:=n+2) (Dw.gK (k:=n+2) (Dw.dL hf') (Dw.zM f' (by omega)) ?_) (Dw.dL hf') ?_) (Dw.El hB (gEG ha) b')⟩
      ·rw [List.length_append,List.length_singleton];omega
      ·rw [List.length_append,List.length_append,List.length_singleton];omega
  | _=>exact (l5 (k:=k+n+1) h ht rfl hf hB m2 q)
end Lw
namespace Lw
open PySem Ev L2
variable {p:Nat} {S:Sto} {k:Nat} {Q:D->Sto->Prop}
theorem sW {α β:Type} (f:α->β):∀ (l:List α) (j:Nat),(l.map f).eraseIdx j=(l.eraseIdx j).map f
 | [],_=>rfl
 | _::_,0=>rfl
 | a::l,j+1=>by rw [List.map_cons,List.eraseIdx_cons_succ,List.eraseIdx_cons_succ,List.map_cons,sW f l j]
theorem pP {α:Type}:∀ (l:List α) (j:Nat) (hj:j < l.length),(l[j]::l.eraseIdx j).Perm l
 | a::l,0,_=>List.Perm.refl _
 | a::l,j+1,hj=>by
  rw [List.eraseIdx_cons_succ,List.getElem_cons_succ]
  exact (List.Perm.swap _ _ _).trans ((pP l j (by simpa using hj)).cons a)
theorem u6 {L:Nat} {is0:List Int} (h:Pot p S) (hL:S[L]?=some (.lst (is0.map D.int))) (nL:L ≠ p) (hn:is0.length<=1000)
  (q:∀ (is:List Int) S',Dr p S S'->is.Perm is0->Q (.ref (List.length S')) (S'++[.lst (is.map D.int)])):Ok (evC ak (k+2) je [.ref p,.ref L] S) Q:=by
 refine aS (d:=fo) (ρ:=[some (.ref p),some (.ref L),none]) rfl rfl ?_
 dsimp only [fo,jo]
 k_is
 have it:aj (.ref L) S=some (false,is0.map D.int):=by simp only [aj,aM hL,Option.map_some]
 rw [it]
 show Ok (some (is0.map D.int,S)) _
 rw [ad]
 k_is
 have lt:=h.lt
 have d0:Dr p S (S++[Ob.lst (is0.map D.int)]):=Dr.sm h (Sm.app _ _)
 have hL0:=Sm.app S [Ob.lst (is0.map D.int)] _ _ hL
 have hLl:L < List.length S:=(List.getElem?_eq_some_iff.mp hL).1
 k_is
 refine ⟨(by rw [aM hL0];rfl),?_⟩
 have lm:(is0.map D.int).length=is0.length:=List.length_map _
 refine fq is0.length (fun i=>((is0.map D.int)[i]?).getD .non) (fun i acc S'=>Ev.Kp p S S'/\Pot p S'/\∃ left as:List Int,S'[List.length S]?=some (.lst (left.map D.int))/\acc=as.map D.int/\(as++left).Perm is0/\left.length+i=is0.length) (fun i acc S' hi ⟨kp,_⟩=>by rw [<-lm];exact gA (kp _ _ nL hL) _ kO) (by omega) (fun i acc S1 hi ⟨kp,pt,left,as,hf,ea,pm,ll⟩=>⟨_,rfl,?_⟩) (fun es S1 ⟨kp,pt,left,as,hf,ea,pm,ll⟩=>⟨by rw [ea,List.length_map];have:=pm.length_eq;rw [List.length_append] at this;omega,?_⟩) ⟨d0.kp,d0.pot,is0,[],bg,rfl,by simp,by omega⟩
 ·k_is
  refine ⟨kM hf,?_⟩
  k_is
  have lq:aq dQ (D.ref (List.length S)) S1=some (.int left.length,S1):=by simp only [aq,aj,aM hf,Option.map_some,dQ,List.length_map]
  refine ai lq ?_
  k_is
  refine ⟨rfl,al pt (by omega) (by omega) fun r S2 r1 r2 d2=>?_⟩
  k_is
  obtain ⟨j,rfl⟩:∃ n:Nat,r=(n:Int):=⟨r.toNat,by omega⟩
  have hj:j < left.length:=by omega
  have hf2:=d2.kp _ _ (show List.length S ≠ p by omega) hf
  have lt2:List.length S < S2.length:=(List.getElem?_eq_some_iff.mp hf2).1
  have pa:gi (.ref (List.length S)) [.int (j:Int)] S2=some (.int left[j],S2.set (List.length S) (.lst ((left.map D.int).eraseIdx j))):=by
   have hix:ixN (left.map D.int).length (j:Int)=some j:=by
    unfold ixN
    rw [if_pos (by omega),if_pos (by rw [List.length_map];omega),Int.toNat_natCast]
   simp only [gi,chg,hf2,hix,List.getElem?_map,gEG hj,Option.map_some]
  refine ai pa ?_
  k_is
  refine ⟨(kp.trans d2.kp).setNew (Nat.le_refl _),d2.pot.setNe (by omega),left.eraseIdx j,as++[left[j]],by rw [kL lt2,sW],by rw [ea,List.map_append];rfl,?_,by rw [List.length_eraseIdx_of_lt hj];omega⟩
  refine List.Perm.trans ?_ pm
  rw [List.append_assoc]
  exact List.Perm.append_left as (pP left j hj)
 ·subst ea
  k_is
  have:left=[]:=List.length_eq_zero_iff.mp (by omega)
  subst this
  rw [List.append_nil] at pm
  exact q as S1 ⟨kp,pt⟩ pm
end Lw
namespace Lw
open PySem Ev L2
variable {p:Nat} {S:Sto} {k:Nat} {Q:D->Sto->Prop}
theorem l6:∀ (ps:List (Int × Int)),eV (ps.map cu)=some ps
 | []=>rfl
 | q::ps=>by
  rw [List.map_cons]
  simp only [eV,l6 ps,cu,m7]
theorem rm {α:Type} (d:α) (l:List α):(List.range l.length).map (fun i=>l.getD i d)=l:=by
 apply List.ext_getElem
 ·simp
 ·intro i h1 h2
  simp at h1
  simp [h1]
theorem u7 (ps:List (Int × Int)):∃ qs:List (Int × Int),cK ps .non (ps.map cu)=qs.map cu/\qs.Perm ps:=by
 by_cases h:ps.length < 2
 ·exact ⟨ps,by unfold cK;rw [if_pos (by rw [List.length_map];exact h)],List.Perm.refl _⟩
 ·have hn:0 < ps.length:=by omega
  have pm:Pm ps.length (dR (k5 ps) (PySem.W.kas_sort ps.length)):=(mY hn).run
  refine ⟨(dR (k5 ps) (PySem.W.kas_sort ps.length)).toList.map fun i=>ps.getD i (0,0),?_,?_⟩
  ·unfold cK
   rw [if_neg (by rw [List.length_map];exact h),List.length_map,List.map_map]
   refine List.map_congr_left fun i hi=>?_
   have hi':=(m6 (lt:=k5 ps) hn).1 i hi
   simp [hi']
  ·have e:(dR (k5 ps) (PySem.W.kas_sort ps.length)).toList.Perm (List.range ps.length):=by
    have:=Array.perm_iff_toList_perm.mp pm
    simpa using this
   have:=e.map fun i=>ps.getD i (0,0)
   rwa [rm] at this
noncomputable def GL (n:Nat) (r s:Int) (g:List Int):Prop:=g.length=7/\Dw.aA n r s (.tup (g.map Dw.D.int))=true
theorem gB {g:List Int} (h:g.length=7):∃ a b c d e f i,g=[a,b,c,d,e,f,i]:=by
 match g,h with
 | [a,b,c,d,e,f,i],_=>exact ⟨a,b,c,d,e,f,i,rfl⟩
noncomputable def f9 (M:List (List Int)) (i:Nat):Int:=((M[i]?).getD []).getD 6 0
noncomputable def gE (g:List Int):D:=.tup (g.map D.int)
theorem u8 (ds:List D) (j:Nat):aX ds none (some (j:Int))=ds.take j:=by
 by_cases h:j<=ds.length
 ·exact gL ds j h
 ·unfold aX
  rw [Dw.jX _ _ (by omega),Int.toNat_natCast,Nat.min_eq_right (by omega)]
  show (ds.drop 0).take (ds.length - 0)=ds.take j
  rw [List.drop_zero,List.take_of_length_le (by omega),List.take_of_length_le (by omega)]
theorem KG {S:Sto} (M:List (List Int)):TDs p S (Dw.dA M) (M.map gE):=rl M
theorem yS {M:List (List Int)} {n:Nat} {r s:Int} (hM:∀ g ∈ M,GL n r s g) {i:Nat} (hi:i < M.length):Dw.cH (Dw.dA M) i=f9 M i:=by
 obtain ⟨a,b,c,d,e,f,x,eg⟩:=gB (hM M[i] (List.getElem_mem hi)).1
 unfold Dw.cH Dw.dA f9
 rw [List.getElem?_map,gEG hi,eg]
 rfl
theorem CC {r s:Int} {rows hs:List Dw.D} {M:List (List Int)} {fx:List Int} {ta:Dw.D} (em:Dw.aV (.tup [.int r,.int s,.tup rows,.tup hs])=true) (ea:Dw.bo rows.length ta=true) (hM:∀ g ∈ M,GL rows.length r s g) (l7:M.length<=7) (nd:fx.Nodup) (hb:∀ x ∈ fx,0<=x/\x < (M.length:Int)) (hr:∀ j:Nat,j < M.length->f9 M j=0\/(j:Int) ∈ fx) :
  Dw.fX (.tup [.tup [.int r,.int s,.tup rows,.tup hs],ta,.tup (Dw.dA M),.tup (fx.map Dw.D.int)])=true:=by
 have lm:(Dw.dA M).length=M.length:=by unfold Dw.dA;rw [List.length_map]
 have ha:(Dw.dA M).all (Dw.aA rows.length r s)=true:=by
  unfold Dw.dA
  rw [List.all_map,List.all_eq_true]
  exact fun g hg=>(hM g hg).2
 have ei:Dw.aC (fx.map Dw.D.int)=fx:=by unfold Dw.aC;rw [List.map_map];exact (List.map_congr_left fun x _=>rfl).trans (List.map_id fx)
 have hu:Dw.bH (Dw.dA M).length (.tup (fx.map Dw.D.int))=true:=by
  refine Dw.iY ?_ (by rw [ei];exact nd)
  rw [List.all_map,List.all_eq_true]
  intro x hx
  have:=hb x hx
  show (decide (0<=x) && decide (x<=((Dw.dA M).length:Int) - 1))=true
  rw [lm,bAE,decide_eq_true_eq,decide_eq_true_eq]
  omega
 rw [lm] at hu
 rw [Dw.mK,em]
 simp only [Dw.cS,Dw.fA,Dw.iC,ea,Bool.true_and,Dw.aF,ha,lm,decide_eq_true l7,Dw.tupOf,Dw.bB,hu,ei]
 unfold Dw.t8
 rw [List.all_map,List.all_eq_true]
 intro i hi
 rw [lm] at hi
 have hi':=List.mem_range.mp hi
 show (decide (Dw.cH (Dw.dA M) i=0) || decide (((i:Nat):Int) ∈ fx))=true
 rw [yS hM hi',Bool.or_eq_true,decide_eq_true_eq,decide_eq_true_eq]
 exact hr i hi'
theorem rn {r s:Int} {rows hs:List Dw.D} {m:D} {G N:Nat} {M:List (List Int)} {is:List Int} {S0:Sto} (h:Pot p S) (k0:Ev.Kp p S0 S) (l0:S0.length<=G) (hm:∀ S,TD p S (.tup [.int r,.int s,.tup rows,.tup hs]) m) (em:Dw.aV (.tup [.int r,.int s,.tup rows,.tup hs])=true)
  (hG:S[G]?=some (.lst (M.map gE))) (nG:G ≠ p) (hN:S[N]?=some (.lst (is.map D.int))) (nN:N ≠ p) (nGN:G < N) (hM:∀ g ∈ M,GL rows.length r s g) (h0:∀ i,f9 M i=0) (l7:M.length<=7) (pm:is.Perm ((List.range M.length).map fun i=>Int.ofNat i))
  (q:∀ ta tg tf d S',Ev.Kp p S0 S'->Pot p S'->TD p S' (.tup [.tup [.int r,.int s,.tup rows,.tup hs],ta,tg,tf]) d->Dw.fX (.tup [.tup [.int r,.int s,.tup rows,.tup hs],ta,tg,tf])=true->Q d S') :
  rW (wSs (evC ak (k+1)) (jv ak) 56 (fO.drop 4)) [some (.ref p),some (.int 7),some m,some (.ref G),some (.ref N),none,none,none] S (out Q):=by
 dsimp only [fO,List.drop]
 k_is
 obtain ⟨r',s',rows',hs',eqm,r0,r8,s0,s60,hg,hh⟩:=Dw.dB em
 cases eqm
 have lr:1<=rows.length/\rows.length<=4:=by
  simp only [Dw.aD,bAE,decide_eq_true_eq] at hg
  exact hg.1
 refine ⟨rfl,al h (by decide) (by decide) fun x S1 x1 x2 d1=>?_⟩
 obtain ⟨c,rfl⟩:∃ n:Nat,x=(n:Int):=⟨x.toNat,by omega⟩
 have at4:atI [D.int 0,D.int 1,D.int 2,D.int 3] (c:Int)=some (D.int c):=by
  have:c=0\/c=1\/c=2\/c=3:=by omega
  rcases this with rfl | rfl | rfl | rfl <;> rfl
 refine ⟨_,at4,?_⟩
 k_is
 have hN1:=d1.kp _ _ nN hN
 have hG1:=d1.kp _ _ nG hG
 have hsl:slS none (some (c:Int)) (D.ref N) S1=some (D.ref (List.length S1),S1++[Ob.lst ((is.take c).map D.int)]):=by
  simp only [slS,aM hN1,u8,List.map_take]
 refine ai hsl ?_
 k_is
 have d2:Dr p S1 (S1++[Ob.lst ((is.take c).map D.int)]):=Dr.sm d1.pot (Sm.app _ _)
 have hF2:(S1++[Ob.lst ((is.take c).map D.int)])[List.length S1]?=some (Ob.lst ((is.take c).map D.int)):=bg
 have hG2:=d2.kp _ _ nG hG1
 have k2:=(k0.trans d1.kp).trans d2.kp
 have lt1:=d1.pot.lt
 have nF:List.length S1 ≠ p:=by omega
 have nFG:List.length S1 ≠ G:=by have:=(List.getElem?_eq_some_iff.mp hG1).1;omega
 refine ⟨(by rw [aM hF2];rfl),?_⟩
 generalize S1++[Ob.lst ((is.take c).map D.int)]=S2 at *
 generalize List.length S1=F at *
 have pe:∀ x ∈ is,0<=x/\x < (M.length:Int):=fun x hx=>by
  have:=pm.mem_iff.mp hx
  obtain ⟨i,hi,rfl⟩:=List.mem_map.mp this
  have:=List.mem_range.mp hi
  show 0<=(i:Int)/\(i:Int) < M.length
  omega
 have nd:is.Nodup:=pm.nodup_iff.mpr (List.pairwise_map.mpr (List.nodup_range.imp fun h z=>h (Int.ofNat.inj z)))
 have pf:∀ x ∈ is.take c,0<=x/\x < (M.length:Int):=fun x hx=>pe x (List.mem_of_mem_take hx)
 have ndf:(is.take c).Nodup:=nd.sublist (List.take_sublist c is)
 generalize is.take c=fx at *
 have lf:fx.length<=1000:=by
  have:=Dw.cR M.length fx ndf pf
  omega
 have lmf:(fx.map D.int).length=fx.length:=List.length_map _
 have fin:∀ (M':List (List Int)) (ta:Dw.D) (da:D) S3,Ev.Kp p S0 S3->Pot p S3->S3[G]?=some (Ob.lst (M'.map gE))->S3[F]?=some (Ob.lst (fx.map D.int))->M'.length=M.length->(∀ g ∈ M',GL rows.length r s g)->(∀ j:Nat,f9 M' j=0\/(j:Int) ∈ fx)->TD p S3 ta da->Dw.bo rows.length ta=true ->
   Q (D.tup [m,da,D.tup (M'.map gE),D.tup (fx.map D.int)]) S3:=fun M' ta da S3 k3 p3 _ _ l3 hM3 hr3 tda ea=>by
  refine q ta (.tup (Dw.dA M')) (.tup (fx.map Dw.D.int)) _ S3 k3 p3 (aR (ab (hm S3) (ab tda (ab (aR (KG M')) (ab (aR (nQ fx)) aw))))) ?_
  exact CC em ea hM3 (by omega) ndf (fun x hx=>by rw [l3];exact pf x hx) fun j _=>hr3 j
 refine jH fx.length (fun i ρ S'=>Ev.Kp p S0 S'/\Pot p S'/\∃ (M':List (List Int)) (u:Option D),ρ=[some (.ref p),some (.int 7),some m,some (.ref G),some (.ref N),some (.ref F),u,none]/\S'[G]?=some (Ob.lst (M'.map gE))/\S'[F]?=some (Ob.lst (fx.map D.int))/\M'.length=M.length/\(∀ g ∈ M',GL rows.length r s g)/\∀ j:Nat,f9 M' j=0\/(j:Int) ∈ fx) (by unfold LF;omega) (fun i ρ S3 hi ⟨k3,p3,M',u,er,g3,f3,l3,hM3,hr3⟩=>?_) (fun ρ S3 ⟨k3,p3,M',u,er,g3,f3,l3,hM3,hr3⟩=>⟨?_,?_⟩) ⟨k2,d2.pot,M,none,rfl,hG2,hF2,rfl,hM,fun j=>.inl (h0 j)⟩
 ·subst er
  have hx:=pf fx[i] (List.getElem_mem hi)
  obtain ⟨j,ej⟩:∃ n:Nat,fx[i]=(n:Int):=⟨fx[i].toNat,by omega⟩
  have jin:(j:Int) ∈ fx:=ej ▸ List.getElem_mem hi
  have hj:j < M'.length:=by omega
  refine ⟨.int j,_,by rw [gA f3 (fun i=>((fx.map D.int)[i]?).getD .non) kO,if_pos (by rw [lmf];exact hi)];simp [gEG hi,ej],rfl,?_⟩
  k_is
  refine ⟨rfl,al p3 (by decide) (by decide) fun y S4 y1 y2 d4=>?_⟩
  k_is
  have g4:=d4.kp _ _ nG g3
  have f4:=d4.kp _ _ nF f3
  have k4:=k3.trans d4.kp
  have mt:∀ S,ixS m (.int 0) S=some (.int r,S):=fun S=>by
   obtain ⟨ms,rfl,hms⟩:=(hm S).tup
   obtain ⟨a,b,c',d',rfl,t1,_⟩:=pN hms
   obtain rfl:=t1.int
   rfl
  cases ey:decide (y=0) with
  | false=>k_is;exact ⟨k4,d4.pot,M',_,rfl,g4,f4,l3,hM3,hr3⟩
  | true=>
   k_is
   rw [mt,ad]
   k_is
   cases er0:decide (0 < r) with
   | false=>k_is;exact ⟨k4,d4.pot,M',_,rfl,g4,f4,l3,hM3,hr3⟩
   | true=>
    have hr0:=of_decide_eq_true er0
    k_is
    have gj:=(hM3 M'[j] (List.getElem_mem hj))
    obtain ⟨a1,a2,a3,a4,a5,a6,a7,eg⟩:=gB gj.1
    have ix1:ixS (.ref G) (.int (j:Int)) S4=some (gE M'[j],S4):=by
     have:(M'.map gE)[j]?=some (gE M'[j]):=by rw [List.getElem?_map,gEG hj];rfl
     simp only [ixS,aj,aM g4,Option.map_some,Ev.mi this]
    refine ai ix1 ?_
    k_is
    rw [eg]
    rw [show gE [a1,a2,a3,a4,a5,a6,a7]=D.tup [.int a1,.int a2,.int a3,.int a4,.int a5,.int a6,.int a7] from rfl]
    k_is
    rw [show aX [D.int a1,.int a2,.int a3,.int a4,.int a5,.int a6,.int a7] none (some 6)=[.int a1,.int a2,.int a3,.int a4,.int a5,.int a6] from rfl,mt,ad]
    k_is
    refine ⟨rfl,al d4.pot hr0 (by omega) fun z S5 z1 z2 d5=>?_⟩
    k_is
    have g5:=d5.kp _ _ nG g4
    have f5:=d5.kp _ _ nF f4
    have lt5:G < S5.length:=(List.getElem?_eq_some_iff.mp g5).1
    refine ⟨by show 7<=1000;decide,?_⟩
    refine ⟨S5.set G (.lst ((M'.map gE).set j (.tup [.int a1,.int a2,.int a3,.int a4,.int a5,.int a6,.int (1+z)]))),?_,?_⟩
    ·have hix:ixN (M'.map gE).length (j:Int)=some j:=by
      unfold ixN
      rw [if_pos (by omega),if_pos (by rw [List.length_map];omega),Int.toNat_natCast]
     simp only [k7,g5,hix,Option.map_some]
     rfl
    ·k_is
     refine ⟨(k4.trans d5.kp).setNew l0,d5.pot.setNe nG,M'.set j [a1,a2,a3,a4,a5,a6,1+z],_,rfl,?_,?_,by rw [List.length_set];exact l3,fun g hg=>?_,fun j'=>?_⟩
     ·rw [kL lt5,List.map_set];rfl
     ·rw [List.getElem?_set_ne (Ne.symm nFG)];exact f5
     ·rcases List.mem_or_eq_of_mem_set hg with hg | rfl
      ·exact hM3 g hg
      ·refine ⟨rfl,?_⟩
       have:=gj.2
       rw [eg] at this
       simp only [List.map_cons,List.map_nil,Dw.aA,Dw.ae,Dw.leD,List.all_cons,List.all_nil,bAE,decide_eq_true_eq,Bool.and_true] at this ⊢
       omega
     ·by_cases hjj:j'=j
      ·subst hjj;exact .inr jin
      ·rcases hr3 j' with z | z
       ·left
        unfold f9 at z ⊢
        rw [List.getElem?_set_ne (Ne.symm hjj)]
        exact z
       ·exact .inr z
 ·subst er
  rw [gA f3 (fun i=>((fx.map D.int)[i]?).getD .non) kO,if_neg (by rw [lmf];exact Nat.lt_irrefl _)]
 ·subst er
  k_is
  refine ⟨rfl,al p3 (by decide) (by decide) fun y S4 y1 y2 d4=>?_⟩
  k_is
  have tqs:∀ (S:Sto) (a:Nat) (ds:List D),S[a]?=some (Ob.lst ds)->aq iJ (.ref a) S=some (.tup ds,S):=fun S a ds e=>by simp only [aq,aj,aM e,Option.map_some,iJ]
  have g4:=d4.kp _ _ nG g3
  have f4:=d4.kp _ _ nF f3
  refine bw (fun _=>?_) fun _=>?_
  ·k_is
   obtain ⟨ms,em',hms⟩:=(hm S4).tup
   have ix2:Ok (ixS m (.int 2) S4) fun d S=>∃ rs,d = .tup rs/\S=S4/\TDs p S4 rows rs:=by
    rw [em']
    exact aH (i:=2) hms rfl fun d t=>let ⟨rs,e,z⟩:=t.tup;⟨rs,e,rfl,z⟩
   refine ix2.mono fun d S' ⟨rs,e,es,z⟩=>?_
   subst e es
   refine ai (aY z) ?_
   k_is
   refine ⟨rfl,al d4.pot (by omega) (by omega) fun a S5 a1 a2 d5=>?_⟩
   k_is
   refine ⟨rfl,al d5.pot (by decide) (by decide) fun b S6 b1 b2 d6=>?_⟩
   k_is
   have g6:=(d5.trans d6).kp _ _ nG g4
   have f6:=(d5.trans d6).kp _ _ nF f4
   refine ai (tqs _ _ _ g6) (ai (tqs _ _ _ f6) ?_)
   k_is
   refine fin M' (.tup [.int a,.int b]) _ S6 ((k3.trans d4.kp).trans (d5.trans d6).kp) d6.pot g6 f6 l3 hM3 hr3 (aR (ab bR (ab bR aw))) ?_
   simp only [Dw.bo,Dw.ae,bAE,decide_eq_true_eq]
   omega
  ·k_is
   refine ai (tqs _ _ _ g4) (ai (tqs _ _ _ f4) ?_)
   k_is
   exact fin M' .non .non S4 (k3.trans d4.kp) d4.pot g4 f4 l3 hM3 hr3 qS rfl
end Lw
namespace Lw
open PySem Ev L2
variable {p:Nat} {S:Sto} {k:Nat} {Q:D->Sto->Prop}
mutual
noncomputable def aO:Dw.D->Bool
 | .non=>true
 | .int i=>decide (i.natAbs < 10 ^ 20)
 | .tup ts=>cC ts
 | _=>false
noncomputable def cC:List Dw.D->Bool
 | []=>true
 | t::ts=>aO t && cC ts
end
theorem bS:∀ {ts:List Dw.D},(∀ t ∈ ts,aO t=true)->cC ts=true
 | [],_=>by rw [cC]
 | t::ts,h=>by rw [cC,h t List.mem_cons_self,bS fun t' ht'=>h t' (List.mem_cons_of_mem _ ht')];rfl
theorem jp:∀ {ts:List Dw.D},cC ts=true->∀ t ∈ ts,aO t=true
 | t::ts,h,t',ht=>by
  rw [cC,bAE] at h
  rcases List.mem_cons.mp ht with rfl | ht
  ·exact h.1
  ·exact jp h.2 t' ht
mutual
theorem TD.any {p':Nat} {S S':Sto}:∀ {t:Dw.D} {d:D},aO t=true->TD p S t d->TD p' S' t d
 | .non,_,_,h=>by rw [h.non];exact qS
 | .int _,_,_,h=>by rw [h.int];exact bR
 | .tup ts,_,f,h=>by
  rw [aO] at f
  obtain ⟨ds,rfl,q⟩:=h.tup
  exact aR (TDs.any f q)
 | .bl _,_,f,_=>by simp [aO] at f
 | .str _,_,f,_=>by simp [aO] at f
 | .lst _,_,f,_=>by simp [aO] at f
 | .dic _ _,_,f,_=>by simp [aO] at f
theorem TDs.any {p':Nat} {S S':Sto}:∀ {ts:List Dw.D} {ds:List D},cC ts=true->TDs p S ts ds->TDs p' S' ts ds
 | [],_,_,h=>by rw [h.nil];exact aw
 | t::ts,_,f,h=>by
  rw [cC,bAE] at f
  obtain ⟨d,r,rfl,a,q⟩:=h.cons
  exact ab (TD.any f.1 a) (TDs.any f.2 q)
end
theorem kQ {t:Dw.D} {a b:Int} (h:Dw.ae t a b=true) (ha:-10000<=a) (hb:b<=10000):aO t=true:=by
 obtain ⟨i,rfl,h0,h1⟩:=Dw.ah h
 rw [aO]
 exact decide_eq_true (by omega)
theorem io {r s:Int} {rows hs:List Dw.D} (em:Dw.aV (.tup [.int r,.int s,.tup rows,.tup hs])=true):aO (.tup [.int r,.int s,.tup rows,.tup hs])=true:=by
 rw [Dw.rP] at em
 simp only [bAE] at em
 obtain ⟨e1,e2,e3,e4⟩:=em
 rw [aO]
 refine bS fun t ht=>?_
 simp only [List.mem_cons,List.not_mem_nil,or_false] at ht
 rcases ht with rfl | rfl | rfl | rfl
 ·exact kQ e1 (by decide) (by decide)
 ·exact kQ e2 (by decide) (by decide)
 ·rw [aO]
  simp only [Dw.aD,bAE] at e3
  refine bS fun t ht=>?_
  have:=List.all_eq_true.mp e3.2.1 t ht
  cases t with
  | tup cs=>
   simp only [Dw.bE,bAE] at this
   rw [aO]
   exact bS fun t' ht'=>kQ (List.all_eq_true.mp this.2 t' ht') (by decide) (by decide)
  | _=>simp [Dw.bE] at this
 ·rw [aO]
  simp only [Dw.aE,bAE] at e4
  refine bS fun t ht=>?_
  obtain ⟨b,e,rfl,b0,b1,c0,c1,_⟩:=Dw.gg (List.all_eq_true.mp e4.2.1 t ht)
  rw [aO]
  refine bS fun t' ht'=>?_
  simp only [List.mem_cons,List.not_mem_nil,or_false] at ht'
  rcases ht' with rfl | rfl <;> (rw [aO];exact decide_eq_true (by omega))
theorem yT (h:Pot p S) (q:∀ tm ta tg tf d S',Dr p S S'->TD p S' (.tup [tm,ta,tg,tf]) d->Dw.fX (.tup [tm,ta,tg,tf])=true->Q d S'):Ok (evC ak (k+4) lQ [.ref p,.int 7] S) Q:=by
 refine aS (d:=iT) (ρ:=[some (.ref p),some (.int 7),none,none,none,none,none,none]) rfl rfl ?_
 dsimp only [iT,fO]
 k_is
 refine ⟨rfl,yQ h fun r s rows hs m S1 d1 tm em=>?_⟩
 k_is
 obtain ⟨r',s',rows',hs',eqm,r0,r8,s0,s60,hg,hh⟩:=Dw.dB em
 cases eqm
 have lr:1<=rows.length/\rows.length<=4:=by
  simp only [Dw.aD,bAE,decide_eq_true_eq] at hg
  exact hg.1
 refine ⟨rfl,al d1.pot (by decide) (by decide) fun x S2 x1 x2 d2=>?_⟩
 obtain ⟨n,rfl⟩:∃ n:Nat,x=(n:Int):=⟨x.toNat,by omega⟩
 k_is
 have hmA:∀ S,TD p S (.tup [.int r,.int s,.tup rows,.tup hs]) m:=fun S=>TD.any (io em) tm
 refine ⟨(by simp only [lim,bAE,decide_eq_true_eq];omega),?_⟩
 rw [Int.toNat_natCast]
 refine qX (by omega) (fun i acc S'=>Dr p S2 S'/\∃ M:List (List Int),acc=M.map gE/\M.length=i/\(∀ g ∈ M,GL rows.length r s g)/\∀ j,f9 M j=0) (fun i acc S3 hi ⟨d3,M,ea,lM,hM,h0⟩=>⟨_,rfl,?_⟩) (fun es S3 ⟨d3,M,ea,lM,hM,h0⟩=>⟨by rw [ea,List.length_map];omega,?_⟩) ⟨Dr.refl d2.pot,[],rfl,rfl,fun g hg=>by simp at hg,fun j=>by unfold f9;simp⟩
 ·k_is
  refine ⟨rfl,yR (k:=k+1) d3.pot (hmA S3) r0 s0 s60 lr.1 lr.2 fun a j f l u w S4 d4 hg=>?_⟩
  refine ⟨d3.trans d4,M++[[a,j,f,l,u,w,0]],by rw [ea,List.map_append];rfl,by simp [lM],fun g hg'=>?_,fun j'=>?_⟩
  ·rcases List.mem_append.mp hg' with hg' | hg'
   ·exact hM g hg'
   ·rw [List.mem_singleton.mp hg'];exact ⟨rfl,hg⟩
  ·have:=h0 j'
   unfold f9 at this ⊢
   by_cases hj:j' < M.length
   ·rw [List.getElem?_append_left hj];exact this
   ·by_cases hj2:j'=M.length
    ·subst hj2;rw [List.getElem?_append_right (Nat.le_refl _),Nat.sub_self];rfl
    ·rw [List.getElem?_eq_none (by rw [List.length_append,List.length_singleton];omega)];rfl
 ·subst ea
  have lt3:=d3.pot.lt
  have d4:Dr p S3 (S3++[Ob.lst (M.map gE)]):=Dr.sm d3.pot (Sm.app _ _)
  have g4:(S3++[Ob.lst (M.map gE)])[List.length S3]?=some (Ob.lst (M.map gE)):=bg
  have lS:S.length<=List.length S3:=by
   have hkp:=((d1.trans d2).trans d3).kp
   by_cases hz:S.length<=List.length S3
   ·exact hz
   ·exfalso
    have hlt:List.length S3 < S.length:=by omega
    have hx:List.length S3 ≠ p:=by omega
    have:=hkp (List.length S3) S[List.length S3] hx (gEG hlt)
    rw [List.getElem?_eq_none (Nat.le_refl _)] at this
    cases this
  k_is
  have lq:aq dQ (D.ref (List.length S3)) (S3++[Ob.lst (M.map gE)])=some (.int M.length,S3++[Ob.lst (M.map gE)]):=by simp only [aq,aj,aM g4,Option.map_some,dQ,List.length_map]
  refine ai lq ?_
  k_is
  refine ⟨_,rfl,by omega,?_⟩
  have nG:List.length S3 ≠ p:=by omega
  have lGN:List.length S3 < List.length (S3++[Ob.lst (M.map gE)]):=by simp
  have k4:=((d1.trans d2).trans d3).trans d4
  generalize S3++[Ob.lst (M.map gE)]=S4 at *
  have d5:Dr p S4 (S4++[Ob.lst ((List.range M.length).map fun j=>D.int (Int.ofNat j))]):=Dr.sm d4.pot (Sm.app _ _)
  have n5:(S4++[Ob.lst ((List.range M.length).map fun j=>D.int (Int.ofNat j))])[List.length S4]?=some (Ob.lst (((List.range M.length).map fun j=>Int.ofNat j).map D.int)):=by rw [List.map_map];exact bg
  have g5:=d5.kp _ _ nG g4
  have lt4:=d4.pot.lt
  have nN:List.length S4 ≠ p:=by omega
  generalize S4++[Ob.lst ((List.range M.length).map fun j=>D.int (Int.ofNat j))]=S5 at *
  generalize List.length S3=G at *
  generalize hLN:List.length S4=N at *
  have tail:∀ (is:List Int) (N':Nat) (S':Sto),Ev.Kp p S S'->Pot p S'->S'[G]?=some (Ob.lst (M.map gE))->S'[N']?=some (Ob.lst (is.map D.int))->N' ≠ p->G < N'->is.Perm ((List.range M.length).map fun i=>Int.ofNat i) ->
    rW (wSs (evC ak (k+2+1)) (jv ak) 56 (fO.drop 4)) [some (.ref p),some (.int 7),some m,some (.ref G),some (.ref N'),none,none,none] S' (out Q):=fun is N' S' kp pt hG hN' nN' gN pm=>
   rn pt kp lS hmA em hG nG hN' nN' gN hM h0 (by omega) pm fun ta tg tf d S' k' p' td hsk=>q _ ta tg tf d S' ⟨k',p'⟩ td hsk
  dsimp only [fO,List.drop] at tail
  k_is
  refine ⟨rfl,al d5.pot (by decide) (by decide) fun y S6 y1 y2 d6=>?_⟩
  k_is
  have g6:=d6.kp _ _ nG g5
  have n6:=d6.kp _ _ nN n5
  have k6:Ev.Kp p S S6:=(k4.kp.trans d5.kp).trans d6.kp
  have lt6:=d6.pot.lt
  have lG6:G < List.length S6:=(List.getElem?_eq_some_iff.mp g6).1
  refine bw (fun _=>?_) fun _=>?_
  ·k_is
   refine ⟨(by rw [aM g6];rfl),?_⟩
   have lm:(M.map gE).length=M.length:=List.length_map _
   refine fq M.length (fun i=>.tup [.int i,((M.map gE)[i]?).getD .non]) (fun i acc S'=>S'=S6/\acc=((List.range i).map fun j=>((((M[j]?).getD []).getD 2 0:Int),(Int.ofNat j))).map cu) (fun i acc S' hi ⟨e,_⟩=>by subst e;rw [<-lm];exact sP (i:=i) g6 (by omega) (fun i=>.tup [.int i,((M.map gE)[i]?).getD .non]) fun j d hd=>by show D.tup [.int j,((M.map gE)[j]?).getD .non]=_;rw [hd];rfl) (by omega) (fun i acc S7 hi ⟨e7,ea⟩=>?_) (fun es S7 ⟨e7,ea⟩=>⟨by rw [ea,List.length_map,List.length_map,List.length_range];omega,?_⟩) ⟨rfl,rfl⟩
   ·subst e7
    obtain ⟨b1,b2,b3,b4,b5,b6,b7,eg⟩:=gB (hM M[i] (List.getElem_mem hi)).1
    have g1:((M.map gE)[i]?).getD .non=gE [b1,b2,b3,b4,b5,b6,b7]:=by rw [List.getElem?_map,gEG hi,eg];rfl
    rw [g1]
    refine ⟨_,gz (by simp) (by simp),?_⟩
    k_is
    show Ok (some (D.int b3,S7)) _
    rw [ad]
    k_is
    refine ⟨rfl,?_⟩
    rw [ea,List.range_succ,List.map_append,List.map_append]
    simp [cu,gEG hi,eg]
   ·subst e7
    have lps:((List.range M.length).map fun j=>((((M[j]?).getD []).getD 2 0:Int),(Int.ofNat j))).length=M.length:=by rw [List.length_map,List.length_range]
    have snd:((List.range M.length).map fun j=>((((M[j]?).getD []).getD 2 0:Int),(Int.ofNat j))).map (·.2)=(List.range M.length).map fun i=>Int.ofNat i:=by rw [List.map_map];rfl
    generalize (List.range M.length).map (fun j=>((((M[j]?).getD []).getD 2 0:Int),(Int.ofNat j)))=ps at *
    subst ea
    obtain ⟨qs,e1,pq⟩:=u7 ps
    refine ⟨qs.map cu,?_,?_⟩
    ·show (if false=false then ut false (ps.map cu) else none)=_
     rw [if_pos rfl]
     simp only [ut,l6]
     rw [if_pos (by rw [List.length_map];omega),e1]
    ·have lq:qs.length=M.length:=by rw [pq.length_eq];exact lps
     refine fq qs.length (fun i=>((qs.map cu)[i]?).getD .non) (fun i acc S'=>S'=S7/\acc=((qs.map (·.2)).take i).map D.int) (fun i acc S' hi ⟨e,_⟩=>by
      show some (qs.map cu)[i]?=_
      split
      ·rename_i hh;rw [List.getElem?_map,gEG hh];rfl
      ·rename_i hh;rw [List.getElem?_eq_none (by rw [List.length_map];omega)]) (by omega) (fun i acc S8 hi ⟨e8,ea⟩=>?_) (fun es S8 ⟨e8,ea⟩=>⟨by rw [ea,List.length_map,List.length_take,List.length_map];omega,?_⟩) ⟨rfl,rfl⟩
     ·subst e8
      have g1:((qs.map cu)[i]?).getD .non = .tup [.int qs[i].1,.int qs[i].2]:=by rw [List.getElem?_map,gEG hi];rfl
      rw [g1]
      refine ⟨_,rfl,?_⟩
      k_is
      show Ok (some (D.int qs[i].2,S8)) _
      rw [ad]
      k_is
      refine ⟨rfl,?_⟩
      have hi':i < (qs.map (·.2)).length:=by rw [List.length_map];exact hi
      rw [ea,List.take_succ_eq_append_getElem hi',List.map_append,List.getElem_map];rfl
     ·subst e8
      rw [List.take_of_length_le (by rw [List.length_map];exact Nat.le_refl _)] at ea
      subst ea
      k_is
      exact tail (qs.map (·.2)) (List.length S8) _ (k6.trans (Sm.app _ _).kp) (Dr.sm d6.pot (Sm.app _ _)).pot (Sm.app _ _ _ _ g6) bg (by omega) lG6 (by rw [<-snd];exact pq.map _)
  ·k_is
   refine ⟨rfl,u6 (k:=k+1) d6.pot n6 nN (by rw [List.length_map,List.length_range];omega) fun is S7 d7 pm=>?_⟩
   have g7:=d7.kp _ _ nG g6
   have lt7:=d7.pot.lt
   have lG7:G < List.length S7:=(List.getElem?_eq_some_iff.mp g7).1
   k_is
   exact tail is (List.length S7) _ ((k6.trans d7.kp).trans (Sm.app _ _).kp) (Dr.sm d7.pot (Sm.app _ _)).pot (Sm.app _ _ _ _ g7) bg (by omega) lG7 pm
end Lw
namespace Lw
open PySem Ev L2
variable {p:Nat} {S:Sto} {k:Nat} {Q:D->Sto->Prop}
structure PF (n:Nat) (t:Dw.D):Prop where
 pl:aO t=true
 de:Dw.dep t<=n
 wi:Dw.wid t<=8
theorem PF.tup {n:Nat} {ts:List Dw.D} (hl:ts.length<=8) (h:∀ t ∈ ts,PF n t):PF (n+1) (.tup ts):=by
 have f:=Dw.Fit.tup (n:=n) (m:=8) hl fun t ht=>⟨(h t ht).de,(h t ht).wi⟩
 exact ⟨by rw [aO];exact bS fun t ht=>(h t ht).pl,f.de,f.wi⟩
theorem PF.up {n m:Nat} {t:Dw.D} (h:PF n t) (hm:n<=m):PF m t:=⟨h.pl,Nat.le_trans h.de hm,h.wi⟩
theorem nR {n:Nat} {i:Int} (h:i.natAbs < 10 ^ 20):PF n (.int i):=⟨by rw [aO];exact decide_eq_true h,by simp [Dw.dep],by simp [Dw.wid]⟩
theorem H8 {n:Nat}:PF n .non:=⟨by rw [aO],by simp [Dw.dep],by simp [Dw.wid]⟩
theorem yU {n:Nat} {t:Dw.D} {a b:Int} (h:Dw.ae t a b=true) (ha:-10000<=a) (hb:b<=10000):PF n t:=by
 obtain ⟨i,rfl,h0,h1⟩:=Dw.ah h
 exact nR (by omega)
noncomputable def cB:Nat->Nat
 | 0=>60
 | n+1=>8 * (cB n+2)+4
theorem yV {c:Nat}:∀ {ts:List Dw.D},(∀ t ∈ ts,Dw.sz t<=c)->Dw.szL ts<=ts.length * (c+2)
 | [],_=>by simp [Dw.szL]
 | t::ts,h=>by
  have h1:=h t List.mem_cons_self
  have h2:=yV (ts:=ts) fun t' ht'=>h t' (List.mem_cons_of_mem _ ht')
  rw [Dw.szL,List.length_cons,Nat.succ_mul]
  omega
theorem yW:∀ n,60<=cB n
 | 0=>Nat.le_refl _
 | n+1=>by have:=yW n;rw [cB];omega
theorem yX:∀ (n:Nat) {t:Dw.D},PF n t->Dw.Bd (10 ^ 31) (cB n) t
 | n,.non,h=>⟨by simp only [Dw.bnd],by rw [Dw.sz];have:=yW n;omega⟩
 | n,.int i,h=>⟨by
   have:=h.pl
   rw [aO] at this
   have:=of_decide_eq_true this
   simp only [Dw.bnd]
   omega,by rw [Dw.sz];exact yW n⟩
 | 0,.tup ts,h=>by have:=h.de;rw [Dw.dep] at this;omega
 | n+1,.tup ts,h=>by
  have hpl:=h.pl
  rw [aO] at hpl
  have f:Dw.Fit (n+1) 8 (.tup ts):=⟨h.de,h.wi⟩
  have each:∀ t ∈ ts,Dw.Bd (10 ^ 31) (cB n) t:=fun t ht=>yX n ⟨jp hpl t ht,(f.mem ht).de,(f.mem ht).wi⟩
  have l8:=f.len
  refine Dw.iG (fun t ht=>(each t ht).bn) ?_
  have:=yV (c:=cB n) fun t ht=>(each t ht).sz
  have h2:ts.length * (cB n+2)<=8 * (cB n+2):=Nat.mul_le_mul_right _ l8
  rw [cB]
  omega
 | n,.bl _,h=>by have:=h.pl;simp [aO] at this
 | n,.str _,h=>by have:=h.pl;simp [aO] at this
 | n,.lst _,h=>by have:=h.pl;simp [aO] at this
 | n,.dic _ _,h=>by have:=h.pl;simp [aO] at this
structure Shw (t:Dw.D):Prop where
 sh:Dw.Shn t
 de:Dw.dep t<=50
 wi:Dw.wid t<=1000
theorem rp {n m B s:Nat} {t:Dw.D} (f:Dw.Fit n m t) (b:Dw.Bd B s t) (hn:n<=50) (hm:m<=1000) (hB:B<=10 ^ 50) (hs:s<=16000000):Shw t:=
 ⟨b.shn hB (by rw [sizeLine_eq];omega) (Nat.le_trans f.de (by omega)),Nat.le_trans f.de hn,Nat.le_trans f.wi hm⟩
theorem Ia {t:Dw.D} (h:PF 4 t):Shw t:=rp (n:=4) (m:=8) ⟨h.de,h.wi⟩ (yX 4 h) (by decide) (by decide) (by decide) (by decide)
theorem u9 {n:Nat} {r s:Int} {t:Dw.D} (h:Dw.aA n r s t=true) (hn:n<=4) (hr:r<=8):PF 1 t:=by
 obtain ⟨k,j,f,l,u,w,g,rfl,hh⟩:=Dw.iE h
 refine PF.tup (n:=0) (by simp) fun t ht=>?_
 simp only [List.mem_cons,List.not_mem_nil,or_false] at ht
 rcases ht with rfl | rfl | rfl | rfl | rfl | rfl | rfl <;> exact nR (by omega)
theorem ve {tm ta tg tf:Dw.D} (h:Dw.fX (.tup [tm,ta,tg,tf])=true):∃ r s rows hs gs fs,tm = .tup [.int r,.int s,.tup rows,.tup hs]/\tg = .tup gs/\tf = .tup fs/\PF 3 tm/\PF 3 ta/\(∀ g ∈ gs,Dw.aA rows.length r s g=true)/\gs.length<=7/\fs.length<=7/\(∀ f ∈ fs,PF 0 f)/\0<=r/\r<=8/\0<=s/\s<=60/\rows.length<=4:=by
 rw [Dw.mK] at h
 simp only [bAE] at h
 obtain ⟨em,ea,eg,ef⟩:=h
 obtain ⟨r,s,rows,hs,rfl,r0,r8,s0,s60,hg,hh⟩:=Dw.dB em
 simp only [Dw.cS,Dw.fA,Dw.iC] at ea eg
 have lr:rows.length<=4:=by
  simp only [Dw.aD,bAE,decide_eq_true_eq] at hg
  exact hg.1.2
 cases tg with
 | tup gs=>
  simp only [Dw.aF,bAE,decide_eq_true_eq] at eg
  cases tf with
  | tup fs=>
   simp only [Dw.tupOf,Dw.bB,bAE] at ef
   have hu:=ef.1
   simp only [Dw.bH,bAE,decide_eq_true_eq] at hu
   have fm:=Dw.qh (r:=r) (s:=s) hg hh
   refine ⟨r,s,rows,hs,gs,fs,rfl,rfl,rfl,⟨io em,fm.de,Nat.le_trans fm.wi (by decide)⟩,?_,List.all_eq_true.mp eg.2,eg.1,by omega,fun f hf=>yU (List.all_eq_true.mp hu.2.1 f hf) (by decide) (by omega),r0,r8,s0,s60,lr⟩
   cases ta with
   | non=>exact H8
   | tup as=>
    unfold Dw.bo at ea
    split at ea
    ·rename_i he;cases he
    ·rename_i a b he
     cases he
     simp only [bAE] at ea
     refine (PF.tup (n:=0) (by simp) fun t ht=>?_).up (by decide)
     simp only [List.mem_cons,List.not_mem_nil,or_false] at ht
     rcases ht with rfl | rfl
     ·exact yU ea.1 (by decide) (by omega)
     ·exact yU ea.2 (by decide) (by decide)
    ·cases ea
   | _=>simp [Dw.bo] at ea
  | _=>simp [Dw.bB] at ef
 | _=>simp [Dw.aF] at eg
end Lw
namespace Lw
open PySem Ev L2
variable {p:Nat} {S:Sto} {k:Nat} {Q:D->Sto->Prop}
theorem CD {l:List Int} (h:∀ x ∈ l,x.natAbs < 10 ^ 20) (hl:l.length<=8):PF 1 (.tup (l.map Dw.D.int)):=PF.tup (n:=0) (by rw [List.length_map];exact hl) fun t ht=>by
 obtain ⟨x,hx,rfl⟩:=List.mem_map.mp ht
 exact nR (h x hx)
noncomputable def sB:Nat->Nat
 | 0=>cB 4
 | n+1=>3 * sB n+400
theorem vf {tm ta tg tf:Dw.D} {d:D} {ρ0:Rho} (h:Pot p S) (ht:TD p S (.tup [tm,ta,tg,tf]) d) (pf:PF 4 (.tup [tm,ta,tg,tf])) (w7:Dw.wid (.tup [tm,ta,tg,tf])<=8) {a b c e f g:Option D}
  (q:∀ t' d' S',Dr p S S'->TD p S' t' d'->Shw t'->Q d' S') :
  rW (wSs (evC ak (k+11)) (jv ak) 54 (cz.drop 6)) [some (.ref p),some d,a,b,c,e,f,none,none,none,none,none,none] S (out Q):=by
 dsimp only [cz,List.drop]
 k_is
 refine ⟨rfl,al h (by decide) (by decide) fun x S1 x1 x2 d1=>?_⟩
 k_is
 obtain ⟨n,rfl⟩:∃ n:Nat,x=(n:Int):=⟨x.toNat,by omega⟩
 refine ⟨(by simp only [lim,bAE,decide_eq_true_eq];omega),?_⟩
 rw [show ((1:Int)+n).toNat=n+1 by omega]
 refine pG (by omega) (fun i ρ S'=>Dr p S S'/\∃ t' d' u,ρ=[some (.ref p),some d,a,b,c,e,f,none,none,none,none,some d',u]/\TD p S' t' d'/\Dw.Fit (4+2 * i) (8+i) t'/\Dw.Bd ((i+1) * 10 ^ 31) (sB i) t') (fun i ρ S2 hi ⟨d2,t',d',u,er,td,ft,bd⟩=>?_) (fun ρ S2 ⟨d2,t',d',u,er,td,ft,bd⟩=>?_) ⟨d1,_,_,none,rfl,ht.keep d1.kp,⟨pf.de,w7⟩,(yX 4 pf).up (by omega) (Nat.le_refl _)⟩
 ·subst er
  refine ⟨_,rfl,?_⟩
  k_is
  refine ⟨rfl,?_⟩
  have e11:k+11=(k+(4 - 2 * i))+(4+2 * i)+3:=by omega
  rw [e11]
  refine pO (4+2 * i) d2.pot td ft bd (by omega) (by omega) fun t2 d2' S3 d3 td3 f3 b3=>?_
  exact ⟨d2.trans d3,t2,_,_,rfl,td3,f3.up (by omega) (by omega),b3.up (by omega) (Nat.le_refl _)⟩
 ·subst er
  k_is
  refine q t' _ S2 d2 td (rp ft bd (by omega) (by omega) ?_ ?_)
  ·have:n+1+1<=4:=by omega
   calc (n+1+1) * 10 ^ 31<=4 * 10 ^ 31:=Nat.mul_le_mul_right _ this
    _<=10 ^ 50:=by decide
  ·have:n=0\/n=1\/n=2:=by omega
   rcases this with rfl | rfl | rfl <;> decide
theorem gC {tm ta tg tf:Dw.D} {d:D} (h:Pot p S) (ht:TD p S (.tup [tm,ta,tg,tf]) d) (hs:Dw.fX (.tup [tm,ta,tg,tf])=true) (q:∀ t' d' S',Dr p S S'->TD p S' t' d'->Shw t'->Q d' S'):Ok (evC ak (k+12) cx [.ref p,d] S) Q:=by
 obtain ⟨r,s,rows,hss,gs,fs,rfl,rfl,rfl,pm,pa,hg,lg,lf,pfs,r0,r8,s0,s60,lr⟩:=ve hs
 obtain ⟨ds,rfl,hds⟩:=ht.tup
 obtain ⟨dm,da,dg,df,rfl,h1,h2,h3,h4⟩:=pN hds
 obtain ⟨gd,rfl,hgs⟩:=h3.tup
 obtain ⟨fd,rfl,hfs⟩:=h4.tup
 obtain ⟨md,rfl,hms⟩:=h1.tup
 have pg1:∀ g ∈ gs,PF 1 g:=fun g hgg=>u9 (hg g hgg) lr r8
 have pg:PF 3 (.tup gs):=(PF.tup (by omega) pg1).up (by decide)
 have pf:PF 3 (.tup fs):=(PF.tup (by omega) pfs).up (by decide)
 have mk:∀ {x y:Dw.D},PF 3 x->PF 3 y->Shw (.tup [.tup [.int r,.int s,.tup rows,.tup hss],ta,x,y]):=fun hx hy=>Ia (PF.tup (by simp) fun t ht=>by
  simp only [List.mem_cons,List.not_mem_nil,or_false] at ht
  rcases ht with rfl | rfl | rfl | rfl
  ·exact pm
  ·exact pa
  ·exact hx
  ·exact hy)
 have pall:PF 4 (.tup [.tup [.int r,.int s,.tup rows,.tup hss],ta,.tup gs,.tup fs]):=PF.tup (by simp) fun t ht=>by
  simp only [List.mem_cons,List.not_mem_nil,or_false] at ht
  rcases ht with rfl | rfl | rfl | rfl
  ·exact pm
  ·exact pa
  ·exact pg
  ·exact pf
 refine aS (d:=eB) (k:=k+11) (ρ:=[some (.ref p),some (.tup [.tup md,da,.tup gd,.tup fd]),none,none,none,none,none,none,none,none,none,none,none]) rfl rfl ?_
 dsimp only [eB,cz]
 k_is
 refine ⟨rfl,al h (by decide) (by decide) fun way S1 w1 w2 d1=>?_⟩
 k_is
 have lgd:=hgs.len
 have lfd:=hfs.len
 have build:∀ {x y:Dw.D} {dx dy:D} {S':Sto},Dr p S S'->TD p S' x dx->TD p S' y dy->PF 3 x->PF 3 y->Q (.tup [.tup md,da,dx,dy]) S':=fun dd tx ty px py=>q _ _ _ dd (aR (ab (h1.keep dd.kp) (ab (h2.keep dd.kp) (ab tx (ab ty aw))))) (mk px py)
 have tail:=vf (k:=k) (Q:=Q) (ρ0:=[]) (S:=S1) (g:=none) (a:=some (.tup md)) (b:=some da) (c:=some (.tup gd)) (e:=some (.tup fd)) (f:=some (.int way)) d1.pot (ht.keep d1.kp) pall pall.wi fun t' d' S' dd td sh=>q t' d' S' (d1.trans dd) td sh
 dsimp only [cz,List.drop] at tail
 have hg1:=hgs.keep d1.kp
 have hf1:=hfs.keep d1.kp
 have hm1:=hms.keep d1.kp
 have le1:(1:Int).natAbs < 10 ^ 20:=by decide
 have pe:∀ {ts:List Dw.D} {ds:List D},TDs p S ts ds->(!ds.isEmpty)=true->0 < ts.length:=fun {ts ds} h e=>by
  cases ts with
  | nil=>have:=h.nil;subst this;cases e
  | cons _ _=>simp
 refine jI (fun _ eg=>?_) ?_
 ·k_is
  have pos:=pe hgs eg
  refine ai (aY hg1) ?_
  refine ⟨rfl,al d1.pot (by omega) (by omega) fun x S2 x1 x2 d2=>?_⟩
  k_is
  refine ⟨by rw [List.length_singleton];omega,build (d1.trans d2) (h3.keep (d1.trans d2).kp) (aR ((hfs.keep (d1.trans d2).kp).app (ab bR aw))) pg ((PF.tup (n:=0) (by rw [List.length_append,List.length_singleton];omega) fun t ht=>?_).up (by decide))⟩
  rcases List.mem_append.mp ht with ht | ht
  ·exact pfs t ht
  ·rw [List.mem_singleton.mp ht];exact nR (by omega)
 k_is
 refine jI (fun _ eg=>?_) ?_
 ·k_is
  have pos:=pe hfs eg
  refine ai (aY hf1) ?_
  refine ⟨rfl,al d1.pot (by omega) (by omega) fun x S2 x1 x2 d2=>?_⟩
  k_is
  have hf2:=hfs.keep (d1.trans d2).kp
  have c1:=(hfs.cut none (some x)).len
  have c2:=(hfs.cut (some (x+1)) none).len
  have c3:=Dw.mE fs x x1
  have c4:=Dw.mF fs (x+1) (by omega) (by omega)
  refine ⟨by omega,build (d1.trans d2) (h3.keep (d1.trans d2).kp) (aR ((hf2.cut none (some x)).app (hf2.cut (some (x+1)) none))) pg ((PF.tup (n:=0) (by rw [List.length_append];omega) fun t ht=>?_).up (by decide))⟩
  rcases List.mem_append.mp ht with ht | ht
  ·exact pfs t (Dw.bz ht)
  ·exact pfs t (Dw.bz ht)
 k_is
 refine jI (fun _ eg=>?_) ?_
 ·k_is
  have pos:=pe hgs eg
  refine ai (aY hg1) ?_
  refine ⟨rfl,al d1.pot (by omega) (by omega) fun x S2 x1 x2 d2=>?_⟩
  k_is
  obtain ⟨j,rfl⟩:∃ n:Nat,x=(n:Int):=⟨x.toNat,by omega⟩
  have hj:j < gs.length:=by omega
  have dd:=d1.trans d2
  obtain ⟨a1,a2,a3,a4,a5,a6,a7,eg',hh⟩:=Dw.iE (hg gs[j] (List.getElem_mem hj))
  refine aH (hgs.keep dd.kp) (gEG hj) fun gl tgl=>?_
  rw [eg'] at tgl
  obtain ⟨gl',rfl,hgl⟩:=tgl.tup
  obtain ⟨b1,b2,b3,b4,b5,b6,b7,rfl,t1,t2,t3,t4,t5,t6,t7⟩:=Dq hgl
  obtain rfl:=t1.int
  obtain rfl:=t2.int
  obtain rfl:=t3.int
  obtain rfl:=t4.int
  obtain rfl:=t5.int
  obtain rfl:=t6.int
  obtain rfl:=t7.int
  obtain ⟨m1,m2,m3,m4,rfl,u1,u2,_,_⟩:=pN hms
  obtain rfl:=u1.int
  obtain rfl:=u2.int
  k_is
  refine ai (show ixS (D.tup [D.int a1,.int a2,.int a3,.int a4,.int a5,.int a6,.int a7]) (.int 1) S2=some (.int a2,S2) from rfl) ?_
  k_is
  refine ai (show ixS (D.tup [.int r,.int s,m3,m4]) (.int 1) S2=some (.int s,S2) from rfl) ?_
  k_is
  refine ⟨by show 3<=1000;decide,by show 7<=1000;decide,?_⟩
  refine ai (show ixS (D.tup [D.int a1,.int a2,.int a3,.int a4,.int a5,.int a6,.int a7]) (.int 2) S2=some (.int a3,S2) from rfl) ?_
  k_is
  refine ⟨by show 4<=1000;decide,by show 7<=1000;decide,?_⟩
  k_is
  have lt2:=d2.pot.lt
  have at2:(S2++[Ob.lst [D.tup [D.int a1,D.int a2,D.int (a2+s - 1),D.int a4,D.int a5,D.int a6,D.int a7],D.tup [D.int a1,D.int a2,D.int a3,D.int (a3 - 1),D.int a5,D.int a6,D.int a7]]])[List.length S2]?=some (Ob.lst [D.tup [D.int a1,D.int a2,D.int (a2+s - 1),D.int a4,D.int a5,D.int a6,D.int a7],D.tup [D.int a1,D.int a2,D.int a3,D.int (a3 - 1),D.int a5,D.int a6,D.int a7]]):=bg
  have d3:Dr p S2 (S2++[Ob.lst [D.tup [D.int a1,D.int a2,D.int (a2+s - 1),D.int a4,D.int a5,D.int a6,D.int a7],D.tup [D.int a1,D.int a2,D.int a3,D.int (a3 - 1),D.int a5,D.int a6,D.int a7]]]):=Dr.sm d2.pot (Sm.app _ _)
  refine ⟨kM at2,?_⟩
  rw [show ∀ S,ixS (D.tup [.int r,.int s,m3,m4]) (.int 0) S=some (.int r,S) from fun _=>rfl,ad]
  k_is
  refine ⟨by show 7<=1000;decide,?_⟩
  show Ok (oW (D.ref (List.length S2)) [D.tup [D.int a1,D.int a2,D.int a3,D.int a4,D.int a5,D.int a6,D.int (r+1)]] (S2++[Ob.lst [D.tup [D.int a1,D.int a2,D.int (a2+s - 1),D.int a4,D.int a5,D.int a6,D.int a7],D.tup [D.int a1,D.int a2,D.int a3,D.int (a3 - 1),D.int a5,D.int a6,D.int a7]]])) _
  rw [yd at2 (by simp)]
  have ltL:=(List.getElem?_eq_some_iff.mp at2).1
  have at3:=kL (o:=Ob.lst ([D.tup [D.int a1,D.int a2,D.int (a2+s - 1),D.int a4,D.int a5,D.int a6,D.int a7],D.tup [D.int a1,D.int a2,D.int a3,D.int (a3 - 1),D.int a5,D.int a6,D.int a7]]++[D.tup [D.int a1,D.int a2,D.int a3,D.int a4,D.int a5,D.int a6,D.int (r+1)]])) ltL
  have kA:Ev.Kp p S ((S2++[Ob.lst [D.tup [D.int a1,D.int a2,D.int (a2+s - 1),D.int a4,D.int a5,D.int a6,D.int a7],D.tup [D.int a1,D.int a2,D.int a3,D.int (a3 - 1),D.int a5,D.int a6,D.int a7]]]).set (List.length S2) (Ob.lst ([D.tup [D.int a1,D.int a2,D.int (a2+s - 1),D.int a4,D.int a5,D.int a6,D.int a7],D.tup [D.int a1,D.int a2,D.int a3,D.int (a3 - 1),D.int a5,D.int a6,D.int a7]]++[D.tup [D.int a1,D.int a2,D.int a3,D.int a4,D.int a5,D.int a6,D.int (r+1)]]))):=(dd.kp.trans d3.kp).setNew (by
   by_cases hz:S.length<=List.length S2
   ·exact hz
   ·exfalso
    have hlt:List.length S2 < S.length:=by omega
    have:=dd.kp (List.length S2) S[List.length S2] (by omega) (gEG hlt)
    rw [List.getElem?_eq_none (Nat.le_refl _)] at this
    cases this)
  have pA:=d3.pot.setNe (f:=List.length S2) (o:=Ob.lst ([D.tup [D.int a1,D.int a2,D.int (a2+s - 1),D.int a4,D.int a5,D.int a6,D.int a7],D.tup [D.int a1,D.int a2,D.int a3,D.int (a3 - 1),D.int a5,D.int a6,D.int a7]]++[D.tup [D.int a1,D.int a2,D.int a3,D.int a4,D.int a5,D.int a6,D.int (r+1)]])) (by omega)
  revert at3 kA pA
  generalize (S2++[Ob.lst [D.tup [D.int a1,D.int a2,D.int (a2+s - 1),D.int a4,D.int a5,D.int a6,D.int a7],D.tup [D.int a1,D.int a2,D.int a3,D.int (a3 - 1),D.int a5,D.int a6,D.int a7]]]).set (List.length S2) (Ob.lst ([D.tup [D.int a1,D.int a2,D.int (a2+s - 1),D.int a4,D.int a5,D.int a6,D.int a7],D.tup [D.int a1,D.int a2,D.int a3,D.int (a3 - 1),D.int a5,D.int a6,D.int a7]]++[D.tup [D.int a1,D.int a2,D.int a3,D.int a4,D.int a5,D.int a6,D.int (r+1)]]))=S5
  intro at3 kA pA
  k_is
  refine ⟨rfl,al pA (by decide) (by decide) fun y S6 y1' y2' d6=>?_⟩
  k_is
  obtain ⟨c,rfl⟩:∃ n:Nat,y=(n:Int):=⟨y.toNat,by omega⟩
  have at6:=d6.kp _ _ (show List.length S2 ≠ p by omega) at3
  have d7:Dr p S S6:=⟨kA.trans d6.kp,d6.pot⟩
  have hg7:=hgs.keep d7.kp
  have e1:=(hgs.cut none (some (j:Int))).len
  have e2:=(hgs.cut (some ((j:Int)+1)) none).len
  have c1:=Dw.mE gs (j:Int) (by omega)
  have c2:=Dw.mF gs ((j:Int)+1) (by omega) (by omega)
  have fin:∀ (l:List Int),l.length<=8->(∀ x ∈ l,x.natAbs < 10 ^ 20)->ixS (.ref (List.length S2)) (.int (c:Int)) S6=some (.tup (l.map D.int),S6)->Ok (ixS (.ref (List.length S2)) (.int (c:Int)) S6) fun d S1=>(aX gd none (some (j:Int))).length+[d].length<=1000/\(aX gd none (some (j:Int))++[d]).length+(aX gd (some ((j:Int)+1)) none).length<=1000/\Q (D.tup [D.tup [D.int r,D.int s,m3,m4],da,D.tup (aX gd none (some (j:Int))++[d]++aX gd (some ((j:Int)+1)) none),D.tup fd]) S1:=fun l ll lb e=>by
   refine ai e ?_
   refine ⟨by rw [List.length_singleton];omega,by rw [List.length_append,List.length_singleton];omega,build d7 (aR (((hg7.cut none (some (j:Int))).app (ab (aR (nQ l)) aw)).app (hg7.cut (some ((j:Int)+1)) none))) (h4.keep d7.kp) ((PF.tup (n:=1) (by rw [List.length_append,List.length_append,List.length_singleton];omega) fun t ht=>?_).up (by decide)) pf⟩
   rcases List.mem_append.mp ht with ht | ht
   ·rcases List.mem_append.mp ht with ht | ht
    ·exact pg1 t (Dw.bz ht)
    ·rw [List.mem_singleton.mp ht];exact CD lb ll
   ·exact pg1 t (Dw.bz ht)
  have this:c=0\/c=1\/c=2:=by omega
  rcases this with rfl | rfl | rfl
  ·refine fin [a1,a2,a2+s - 1,a4,a5,a6,a7] (by simp) (fun x hx=>?_) (by simp only [ixS,aj,aM at6];rfl)
   simp only [List.mem_cons,List.not_mem_nil,or_false] at hx
   omega
  ·refine fin [a1,a2,a3,a3 - 1,a5,a6,a7] (by simp) (fun x hx=>?_) (by simp only [ixS,aj,aM at6];rfl)
   simp only [List.mem_cons,List.not_mem_nil,or_false] at hx
   omega
  ·refine fin [a1,a2,a3,a4,a5,a6,r+1] (by simp) (fun x hx=>?_) (by simp only [ixS,aj,aM at6];rfl)
   simp only [List.mem_cons,List.not_mem_nil,or_false] at hx
   omega
 k_is
 refine jI (fun _ eg=>?_) ?_
 ·k_is
  have pos:=pe hgs eg
  have hmul:bP .mul (D.tup gd) (.int 8) S1=some (.tup (List.replicate 8 gd).flatten,S1):=by
   simp only [bP,mV]
   rw [if_pos ⟨by decide,eg,by rw [lgd];show gs.length * 8<=1000;omega⟩];rfl
  refine ai hmul ?_
  refine ⟨rfl,al d1.pot (by decide) (by decide) fun x S2 x1 x2 d2=>?_⟩
  k_is
  have dd:=d1.trans d2
  have hg2:=hgs.keep dd.kp
  have hrep:∀ n:Nat,TDs p S2 (List.replicate n gs).flatten (List.replicate n gd).flatten:=fun n=>by
   induction n with
   | zero=>simp [aw]
   | succ n ih=>rw [List.replicate_succ,List.replicate_succ,List.flatten_cons,List.flatten_cons];exact hg2.app ih
  have c3:=Dw.mE (List.replicate 8 gs).flatten (7+x) (by omega)
  refine build dd (aR ((hrep 8).cut none (some (7+x)))) (h4.keep dd.kp) ((PF.tup (n:=1) (by omega) fun t ht=>?_).up (by decide)) pf
  have:=Dw.bz ht
  obtain ⟨l,hl,htl⟩:=List.mem_flatten.mp this
  rw [List.eq_of_mem_replicate hl] at htl
  exact pg1 t htl
 k_is
 exact tail
end Lw
namespace Lw
open PySem Ev L2
variable {p:Nat} {S:Sto} {k:Nat} {Q:D->Sto->Prop}
mutual
theorem sX {S:Sto}:∀ (n:Nat) {t:Dw.D} {d:D},Dw.dep t < n->TD p S t d->cn n S d=some t
 | n+1,.non,_,_,h=>by rw [h.non];simp only [cn]
 | n+1,.bl _,_,_,h=>by rw [h.bl];simp only [cn]
 | n+1,.int _,_,_,h=>by rw [h.int];simp only [cn]
 | n+1,.str _,_,_,h=>by rw [h.str];simp only [cn]
 | n+1,.tup ts,_,hd,h=>by
  obtain ⟨ds,rfl,q⟩:=h.tup
  rw [Dw.dep] at hd
  simp only [cn,ip n (by omega) q,Option.map_some]
 | n+1,.lst ts,_,hd,h=>by
  rw [TD] at h
  obtain ⟨m,ds,rfl,_,e,q⟩:=h
  rw [Dw.dep] at hd
  simp only [cn,e,ip n (by omega) q,Option.map_some]
 | n+1,.dic ks ts,_,hd,h=>by
  rw [TD] at h
  obtain ⟨m,ds,rfl,_,e,q⟩:=h
  rw [Dw.dep] at hd
  simp only [cn,e,ip n (by omega) q,Option.map_some]
theorem ip {S:Sto}:∀ (n:Nat) {ts:List Dw.D} {ds:List D},Dw.gJ ts < n->TDs p S ts ds->bW (cn n S) ds=some ts
 | n,[],_,_,h=>by rw [h.nil];simp only [bW]
 | n,t::ts,_,hd,h=>by
  obtain ⟨d,r,rfl,a,q⟩:=h.cons
  rw [Dw.gJ] at hd
  simp only [bW,sX n (by omega) a,ip n (by omega) q]
end
theorem nS {t:Dw.D} {d:D} (h:TD p S t d) (s:Shw t):i7 d S=some (.str (Dw.aW t).shown,S):=by
 unfold i7
 rw [sX 100 (by have:=s.de;omega) h]
 dsimp only
 rw [if_pos s.sh]
theorem sY {b:Bool}:i7 (.bl b) S=some (.str (Dw.aW (.bl b)).shown,S):=nS (p:=0) pD ⟨Dw.Bd.shn (B:=1) (s:=10) ⟨by simp only [Dw.bnd],by rw [Dw.sz];exact Nat.le_refl _⟩ (by decide) (by decide) (by simp [Dw.dep]),by simp [Dw.dep],by simp [Dw.wid]⟩
theorem sZ (x y:Str) (S:Sto):av .ne (.str x) (.str y) S=some (.bl (!(x == y)),S):=by
 simp only [av,neS]
 have:eqD 60 S (.str x) (.str y)=some (x == y):=rfl
 rw [this];rfl
theorem main (ns:List Int) (hn:ns.length<=63):∃ S',evC ak 40 sK [.ref 0] [.frz (ns.map D.int)]=some (.bl true,S'):=by
 have key:Ok (evC ak (39+1) sK [.ref 0] [.frz (ns.map D.int)]) fun d _=>d = .bl true:=by
  refine aS (d:=sL) (ρ:=[some (.ref 0),none,none,none,none,none]) rfl rfl ?_
  dsimp only [sL,C8]
  k_is
  have lq:aq dQ (.ref 0) [Ob.frz (ns.map D.int)]=some (.int ns.length,[Ob.frz (ns.map D.int)]):=by simp only [aq,aj,am,List.getElem?_cons_zero,Option.map_some,dQ,List.length_map]
  refine ai lq ?_
  k_is
  obtain ⟨c,hc,c20⟩:∃ c:Nat,(if (if (20:Int) < ns.length then (20:Int) else ns.length) > 1 then (if (20:Int) < ns.length then (20:Int) else ns.length) else 1)=(c:Int)/\c<=20:=by
   refine ⟨(if (if (20:Int) < ns.length then (20:Int) else ns.length) > 1 then (if (20:Int) < ns.length then (20:Int) else ns.length) else 1).toNat,?_,?_⟩
   ·split <;> split <;> omega
   ·split <;> split <;> omega
  rw [hc]
  refine ⟨by simp only [lim,bAE,decide_eq_true_eq];omega,?_⟩
  rw [Int.toNat_natCast]
  refine pG (by omega) (fun i ρ S'=>S'[0]?=some (Ob.frz (ns.map D.int))/\∃ a b c d e,ρ=[some (.ref 0),a,b,c,d,e]) (fun i ρ S1 hi ⟨h0,a,b,c',d,e,er⟩=>?_) (fun ρ S1 ⟨h0,a,b,c',d,e,er⟩=>?_) ⟨rfl,none,none,none,none,none,rfl⟩
  ·subst er
   refine ⟨_,rfl,?_⟩
   k_is
   rw [Int.zero_add]
   refine ⟨rfl,CB (k:=38) h0 fun x=>?_⟩
   k_is
   refine ⟨rfl,HW (k:=38) fun n=>?_⟩
   k_is
   have pt:Pot (List.length S1) (S1++[Ob.lst [D.int n]]):=⟨n,bg⟩
   have n0:0 ≠ List.length S1:=fun z=>by rw [List.length_eq_zero_iff.mp z.symm] at h0;simp at h0
   have h1:(S1++[Ob.lst [D.int n]])[0]?=some (Ob.frz (ns.map D.int)):=Sm.app _ _ _ _ h0
   generalize S1++[Ob.lst [D.int n]]=S2 at *
   generalize List.length S1=p at *
   refine ⟨rfl,yT (k:=35) pt fun tm ta tg tf sk S3 d3 tsk hsk=>?_⟩
   k_is
   refine ⟨rfl,yO (k:=32) tsk fun S4 sm4=>?_⟩
   rw [hsk]
   have isn:av .isnot (.bl true) (.bl true) S4=some (.bl false,S4):=rfl
   refine ai isn ?_
   k_is
   have d4:=d3.thenSm sm4
   refine ⟨rfl,gC (k:=27) d4.pot (tsk.keep sm4.kp) hsk fun t1 x1 S5 d5 td1 sh1=>?_⟩
   k_is
   have tk5:=(tsk.keep sm4.kp).keep d5.kp
   refine ⟨rfl,gC (k:=27) d5.pot tk5 hsk fun t2 x2 S6 d6 td2 sh2=>?_⟩
   k_is
   refine ⟨rfl,gC (k:=27) d6.pot (tk5.keep d6.kp) hsk fun t3 x3 S7 d7 td3 sh3=>?_⟩
   k_is
   refine ⟨rfl,jJ (k:=37) d7.pot fun t4 x4 S8 d8 td4 f4 b4=>?_⟩
   have sh4:Shw t4:=rp f4 b4 (by decide) (by decide) (by decide) (by decide)
   k_is
   have tds:TDs p S8 [t1,t2,t3,t4] [x1,x2,x3,x4]:=ab (td1.keep ((d6.trans d7).trans d8).kp) (ab (td2.keep (d7.trans d8).kp) (ab (td3.keep d8.kp) (ab td4 aw)))
   have shs:∀ t ∈ [t1,t2,t3,t4],Shw t:=fun t ht=>by
    simp only [List.mem_cons,List.not_mem_nil,or_false] at ht
    rcases ht with rfl | rfl | rfl | rfl <;> assumption
   have h8:S8[0]?=some (Ob.frz (ns.map D.int)):=(((d4.trans d5).trans d6).trans (d7.trans d8)).kp _ _ n0 h1
   refine lX tds (by simp) (fun i' ρ=>∃ u v,ρ=[some (.ref 0),some (.int (i:Int)),some (.ref p),some sk,u,v]) (fun i' t d ρ S9 ht sm9 td ⟨u,v,er⟩=>?_) (fun ρ S9 sm9 ⟨u,v,er⟩=>?_) ⟨_,_,rfl⟩
   ·subst er
    have sh:=shs t (List.mem_of_getElem? ht)
    refine ⟨_,rfl,?_⟩
    k_is
    refine ai (nS td sh) ?_
    k_is
    refine ⟨rfl,yO (k:=32) td fun Sa sma=>?_⟩
    refine ai sY ?_
    k_is
    refine ⟨rfl,CA (k:=35) (td.keep sma.kp) sh.wi fun Sb smb=>?_⟩
    rw [sY,ad];k_is;rw [sZ,ad];k_is
    k_is
    rw [beq_self_eq_true]
    k_is
    rw [nS ((td.keep sma.kp).keep smb.kp) sh,ad];k_is;rw [sZ,ad];k_is
    k_is
    rw [beq_self_eq_true]
    k_is
    exact ⟨⟨_,_,rfl⟩,sma.trans smb⟩
   ·subst er
    k_is
    exact ⟨sm9 _ _ h8,_,_,_,_,_,rfl⟩
  ·subst er
   k_is
 obtain ⟨d,S',e,rfl⟩:=key
 exact ⟨S',e⟩
end Lw
theorem PySem.Challenge.cw_downrings_k03_skies_looked_at_holds : PySem.Challenge.rw_downrings_k03_skies_looked_at.Holds :=
 Lw.head Lw.main
