import PyProof.Rows.All
import Wide.All
import OpenK.AllK
import Wide.FinOn
import Lean
import PyProof.EqAt
import PyProof.EqKinds
import PyProof.TupleCall
import PyProof.NeKinds
import KE.KSortTup
import PySem.Challenge.RW_downrings_k34_stuck_in_each_way
set_option Elab.async false
set_option linter.all false
set_option maxRecDepth 100000
set_option maxHeartbeats 4000000
theorem gEG {α:Type _} {l:List α} {i:Nat} (h:i < l.length):l[i]?=some l[i]:=List.getElem?_eq_getElem h
theorem bAE (a b:Bool):((a && b)=true)=(a=true/\b=true):=Bool.and_eq_true a b
namespace L2
open PySem PySem.Spec PyProof.Rows
noncomputable abbrev Key:=Sum Int Str
noncomputable def sy:Key->Value->Bool
 | .inl k,v=>Value.isInt k v
 | .inr x,v=>Value.isStrOf x v
noncomputable def KR (w:World):Key->Int
 | .inl k=>hashInt k
 | .inr x=>hashStr w x
theorem aV:∀ {k:Key} {v:Value},sy k v=true->(∃ i t,k=Sum.inl i/\v=Value.int i t)\/(∃ x t,k=Sum.inr x/\v=Value.str x t)
 | .inl i,v,h=>by
  obtain ⟨t,e⟩:=Value.isInt_shape (k:=i) (v:=v) h
  exact .inl ⟨i,t,rfl,e⟩
 | .inr x,v,h=>by
  obtain ⟨t,e⟩:=Value.isStrOf_shape (x:=x) (v:=v) h
  exact .inr ⟨x,t,rfl,e⟩
theorem DI (a b:Int):decide ((Sum.inl a:Key)=Sum.inl b)=(a == b):=by
 by_cases e:a=b
 ·subst e;simp
 ·have h:¬ (Sum.inl a:Key)=Sum.inl b:=fun q=>e (Sum.inl.inj q)
  rw [decide_eq_false h]
  exact (beq_eq_false_iff_ne.mpr e).symm
theorem DJ (a b:Str):decide ((Sum.inr a:Key)=Sum.inr b)=decide (a=b):=by
 by_cases e:a=b
 ·subst e;simp
 ·have h:¬ (Sum.inr a:Key)=Sum.inr b:=fun q=>e (Sum.inr.inj q)
  rw [decide_eq_false h,decide_eq_false e]
theorem DK (a:Int) (b:Str):decide ((Sum.inl a:Key)=Sum.inr b)=false:=decide_eq_false (fun q=>nomatch q)
theorem DL (a:Str) (b:Int):decide ((Sum.inr a:Key)=Sum.inl b)=false:=decide_eq_false (fun q=>nomatch q)
noncomputable def fI (prog:Program) (w:World):PySem.KeyKind prog w Key where
 is:=sy
 hash:=KR w
 inj:=fun v a b ha hb=>by
  rcases aV ha with ⟨i,t,rfl,rfl⟩ | ⟨x,t,rfl,rfl⟩
  ·rcases aV hb with ⟨j,u,rfl,e⟩ | ⟨y,u,rfl,e⟩
   ·injection e with e1 _;rw [e1]
   ·exact nomatch e
  ·rcases aV hb with ⟨j,u,rfl,e⟩ | ⟨y,u,rfl,e⟩
   ·exact nomatch e
   ·injection e with e1 _;rw [e1]
 byValue:=fun k v h=>by
  rcases aV h with ⟨i,t,rfl,rfl⟩ | ⟨x,t,rfl,rfl⟩ <;> rfl
 pyHash:=fun hv h=>by
  rcases aV hv with ⟨i,t,rfl,rfl⟩ | ⟨x,t,rfl,rfl⟩
  ·exact wpAny_pyHash_int h
  ·exact wpAny_pyHash_str h
 eqBool:=fun hu hv h=>by
  rcases aV hu with ⟨i,t,rfl,rfl⟩ | ⟨x,t,rfl,rfl⟩
  ·rcases aV hv with ⟨j,u,rfl,rfl⟩ | ⟨y,u,rfl,rfl⟩
   ·rw [DI] at h;exact wpAny_eqBool_int h
   ·rw [DK] at h;exact SeqAt.EqAt.int_str i t y u _ _ _ _ h
  ·rcases aV hv with ⟨j,u,rfl,rfl⟩ | ⟨y,u,rfl,rfl⟩
   ·rw [DL] at h;exact SeqAt.EqAt.str_int x t j u _ _ _ _ h
   ·rw [DJ] at h;exact wpAny_eqBool_str h
 «strs»:=fun k x t v h=>by
  rcases aV h with ⟨i,u,rfl,e⟩ | ⟨y,u,rfl,e⟩
  ·exact nomatch e
  ·injection e with e1 _
   subst e1
   cases v <;> rfl
end L2
namespace L2
open PySem PySem.Spec PyProof.Rows
inductive V where
 | non | bl (b:Bool) | int (i:Int) | str (x:Str) | byt (b:Array UInt8) | flt (b:UInt64) | ref (a:Addr) | ty (n:String)
 deriving DecidableEq
noncomputable def aN:V->Value->Prop
 | .non,u=>u=Value.none
 | .bl b,u=>u=Value.bool b
 | .int i,u=>∃ t,u=Value.int i t
 | .str x,u=>∃ t,u=Value.str x t
 | .byt b,u=>∃ t,u=Value.bytes b t
 | .flt b,u=>∃ t,u=Value.float b t
 | .ref a,u=>u=Value.ref a
 | .ty n,u=>u=Value.type n
noncomputable abbrev aP:List V->List Value->Prop:=Paired aN
theorem aP.length {xs:List V} {us:List Value} (r:aP xs us):xs.length=us.length:=Paired.length r
theorem aP.get:∀ {xs:List V} {us:List Value} {i:Nat} {x:V},aP xs us->xs[i]?=some x->∃ u,us[i]?=some u/\aN x u
 | _,_,_,_,.nil,e=>by simp at e
 | _,_,0,_,.cons r _,e=>by simp at e;subst e;exact ⟨_,rfl,r⟩
 | _,_,i+1,x,.cons _ t,e=>by
  obtain ⟨u,h1,h2⟩:=aP.get (i:=i) (x:=x) t (by simpa using e)
  exact ⟨u,by simpa using h1,h2⟩
theorem aP.set {x:V} {u:Value} (r:aN x u):∀ {xs:List V} {us:List Value} (i:Nat),aP xs us->aP (xs.set i x) (us.set i u)
 | _,_,_,.nil=>.nil
 | _,_,0,.cons _ t=>.cons r t
 | _,_,i+1,.cons q t=>.cons q (aP.set r i t)
theorem aP.append:∀ {xs ys:List V} {us ws:List Value},aP xs us->aP ys ws->aP (xs++ys) (us++ws)
 | _,_,_,_,.nil,s=>s
 | _,_,_,_,.cons r t,s=>.cons r (aP.append t s)
theorem aP.take:∀ {xs:List V} {us:List Value} (n:Nat),aP xs us->aP (xs.take n) (us.take n)
 | _,_,0,_=>.nil
 | _,_,_+1,.nil=>.nil
 | _,_,n+1,.cons r t=>.cons r (aP.take n t)
theorem aP.drop:∀ {xs:List V} {us:List Value} (n:Nat),aP xs us->aP (xs.drop n) (us.drop n)
 | _,_,0,r=>r
 | _,_,_+1,.nil=>.nil
 | _,_,n+1,.cons _ t=>aP.drop n t
noncomputable def DM:Option V->Option Value->Prop
 | some v,some u=>aN v u
 | none,none=>True
 | _,_=>False
noncomputable def KV {κ:Type}:List (κ × V)->List (κ × Value)->Prop:=Paired fun (p:κ × V) (q:κ × Value)=>p.1=q.1/\aN p.2 q.2
noncomputable def kV:Key->V
 | .inl i=>.int i
 | .inr x=>.str x
noncomputable def mW (h:Heap) (a:Addr) (items:Array Value):Prop:=∃ o,h.get? a=some o/\o.cls = .type "tuple"/\∃ n,o.data = .seq items n/\o.dict=none
theorem mW.isTup {h:Heap} {a:Addr} {items:Array Value} (x:mW h a items):IsTup h a items:=let ⟨o,e,c,n,d,_⟩:=x;⟨o,e,c,n,d⟩
theorem mW.lt {h:Heap} {a:Addr} {items:Array Value} (x:mW h a items):a < h.objs.size:=x.isTup.lt
theorem mW.new (h:Heap) (items:Array Value):mW (h.push { cls:=.type "tuple", data:=.seq items }) h.objs.size items:=⟨_,Heap.get?_push_size _ rfl,rfl,_,rfl,rfl⟩
inductive HO where
  | lst (xs:List V)
  | tup (xs:List V)
  | dK (kvs:List (Key × V)) | dT (kvs:List (List Key × V))
  | set (S:Int->Bool) (n:Nat)
  | ins (C dx:Addr) (fs:List (Str × V))
  | own (x:Addr)
  | xd (fs:List (Str × V))
  | met (f x:Addr)
  | rng (lo hi:Int)
  | frz (o:Obj) (u:HO)
  | tbl (ps:Array Value)
  | ext (φ:Heap->Prop)
noncomputable abbrev Hp:=Addr->Option HO
noncomputable def upd (H:Hp) (a:Addr) (o:HO):Hp:=fun b=>if b=a then some o else H b
theorem bx {H:Hp} {a:Addr} {o:HO}:upd H a o a=some o:=by unfold upd;rw [if_pos rfl]
theorem aC {H:Hp} {a b:Addr} {o:HO} (h:b ≠ a):upd H a o b=H b:=by unfold upd;rw [if_neg h]
theorem aR {H:Hp} {a b:Addr} {o:HO} (h:H a=some o) (h':H b=none):a ≠ b:=by
 intro e;subst e;rw [h] at h';cases h'
section
variable (P:Program) (w:World)
noncomputable def bO (H:Hp) (h:Heap) (a:Addr):HO->Prop
 | .lst xs=>xs.length<=sizeLine/\∃ (its:List Value) (n:Nat),aP xs its/\h.get? a=some { cls:=.type "list", data:=.seq its.toArray n }
 | .tup xs=>xs.length<=sizeLine/\∃ its:List Value,aP xs its/\mW h a its.toArray
 | .dK kvs=>kvs.length<=sizeLine/\(a == sysModules)=false/\∃ vs,KV kvs vs/\h.DictOf (fI P w) a vs
 | .dT kvs=>kvs.length<=sizeLine/\(a == sysModules)=false/\∃ xs:List (List Key × Addr × Value),
   Paired (fun (p:List Key × V) (q:List Key × Addr × Value)=>p.1=q.1/\H q.2.1=some (.tup (p.1.map kV))/\aN p.2 q.2.2) kvs xs ∧
   ∃ o es ep,h.get? a=some o/\o.ExactDict/\o.data = .dict es ep/\es.toList=xs.map (entryOfKey (tupleKind (fI P w)))/\(xs.map (·.1)).Nodup
 | .set S n=>h.SetOf (intKind P w) a S n
 | .ins C dx fs=>H dx=some (.own a)/\fs.length<=1000/\dx ≠ a/\h.get? a=some (PySem.W.instObj C dx) ∧
   ∃ mA,h.Ns1 dx mA/\(∀ f,DM (fs.lookup f) (mA f))/\PySem.Within mA (fs.map (·.1))
 | .own _=>∃ o,h.get? a=some o
 | .xd fs=>∃ mA,h.Ns1 a mA/\∀ f,DM (fs.lookup f) (mA f)
 | .rng lo hi=>∃ t u v,h.get? a=some { cls:=.type "range", data:=.fields #[.int lo t,.int hi u,.int 1 v] }
 | .frz o u=>h.get? a=some o/\bO H h a u
 | .tbl ps=>h.get? a=some { cls:=.none,data:=.fields ps }
 | .met f x=>h.get? a=some (PySem.W.methodObj (.ref f) (.ref x))
 | .ext φ=>φ h/\(∃ o,h.get? a=some o)/\∀ h1 h2:Heap,φ h1->(∀ o,h1.get? a=some o->h2.get? a=some o)->φ h2
noncomputable def HOk (H:Hp) (h:Heap):Prop:=∀ a o,H a=some o->bO P w H h a o
end
section
variable {P:Program} {w:World} {H H':Hp} {h h':Heap} {a:Addr} {o:HO}
theorem bO.lt (x:bO P w H h a o):a < h.objs.size:=by
 cases o with
 | lst xs=>obtain ⟨_,_,_,_,e⟩:=x;exact Heap.lt_size e
 | tup xs=>obtain ⟨_,_,_,p⟩:=x;exact p.lt
 | dK kvs=>obtain ⟨_,_,_,_,o,_,_,e,_⟩:=x;exact Heap.lt_size e
 | dT kvs=>obtain ⟨_,_,_,_,o,_,_,e,_⟩:=x;exact Heap.lt_size e
 | set S n=>obtain ⟨o,_,_,_,e,_⟩:=x;exact Heap.lt_size e
 | ins C dx fs=>obtain ⟨_,_,_,e,_⟩:=x;exact Heap.lt_size e
 | own y=>obtain ⟨_,e⟩:=x;exact Heap.lt_size e
 | xd fs=>obtain ⟨_,⟨_,_,_,e,_⟩,_⟩:=x;exact Heap.lt_size e
 | rng lo hi=>obtain ⟨_,_,_,e⟩:=x;exact Heap.lt_size e
 | frz ob u=>obtain ⟨e,_⟩:=x;exact Heap.lt_size e
 | tbl ps=>exact Heap.lt_size (show h.get? a=some _ from x)
 | met f y=>exact Heap.lt_size (show h.get? a=some _ from x)
 | ext φ=>obtain ⟨_,⟨_,e⟩,_⟩:=x;exact Heap.lt_size e
theorem Paired.mapP {α β:Type} {F G:α->β->Prop}:∀ {l₁:List α} {l₂:List β},Paired F l₁ l₂->(∀ a b,F a b->G a b)->Paired G l₁ l₂
 | _,_,.nil,_=>.nil
 | _,_,.cons r t,f=>.cons (f _ _ r) (Paired.mapP t f)
theorem bO.stay (x:bO P w H h a o) (k:∀ b u,(b=a\/H b=some (.own a))->h.get? b=some u->h'.get? b=some u)
  (ho:∀ b,H b=some (.own a)->H' b=some (.own a)) (ht:∀ b xs,H b=some (.tup xs)->H' b=some (.tup xs)):bO P w H' h' a o:=by
 induction o with
 | lst xs=>obtain ⟨z,its,n,r,e⟩:=x;exact ⟨z,its,n,r,k _ _ (.inl rfl) e⟩
 | tup xs=>obtain ⟨z,its,r,ob,e,c⟩:=x;exact ⟨z,its,r,ob,k _ _ (.inl rfl) e,c⟩
 | dK kvs=>obtain ⟨z,y,vs,r,ob,es,ep,e,c⟩:=x;exact ⟨z,y,vs,r,ob,es,ep,k _ _ (.inl rfl) e,c⟩
 | dT kvs=>
  obtain ⟨z,y,xs,r,ob,es,ep,e,c⟩:=x
  exact ⟨z,y,xs,Paired.mapP r fun p q z=>⟨z.1,ht _ _ z.2.1,z.2.2⟩,ob,es,ep,k _ _ (.inl rfl) e,c⟩
 | set S n=>obtain ⟨ob,es,ep,t,e,c⟩:=x;exact ⟨ob,es,ep,t,k _ _ (.inl rfl) e,c⟩
 | ins C dx fs=>
  obtain ⟨d,z,ne,e,mA,⟨od,es,ep,e2,c⟩,r⟩:=x
  exact ⟨ho _ d,z,ne,k _ _ (.inl rfl) e,mA,⟨od,es,ep,k _ _ (.inr d) e2,c⟩,r⟩
 | own y=>obtain ⟨ob,e⟩:=x;exact ⟨ob,k _ _ (.inl rfl) e⟩
 | xd fs=>obtain ⟨mA,⟨od,es,ep,e,c⟩,r⟩:=x;exact ⟨mA,⟨od,es,ep,k _ _ (.inl rfl) e,c⟩,r⟩
 | rng lo hi=>obtain ⟨t,u,v,e⟩:=x;exact ⟨t,u,v,k _ _ (.inl rfl) e⟩
 | frz ob u ih=>obtain ⟨e,q⟩:=x;exact ⟨k _ _ (.inl rfl) e,ih q⟩
 | tbl ps=>
  have e:h.get? a=some { cls:=.none,data:=.fields ps }:=x
  show h'.get? a=some { cls:=.none,data:=.fields ps }
  exact k a _ (.inl rfl) e
 | met f y=>
  have e:h.get? a=some (PySem.W.methodObj (.ref f) (.ref y)):=x
  show h'.get? a=some (PySem.W.methodObj (.ref f) (.ref y))
  exact k a _ (.inl rfl) e
 | ext φ=>obtain ⟨p,⟨o,e⟩,st⟩:=x;exact ⟨st _ _ p fun o q=>k _ _ (.inl rfl) q,⟨o,k _ _ (.inl rfl) e⟩,st⟩
theorem HOk.lt (x:HOk P w H h) (e:H a=some o):a < h.objs.size:=(x a o e).lt
theorem HOk.fresh (x:HOk P w H h) (e:h.objs.size<=a):H a=none:=by
 cases q:H a with
 | none=>rfl
 | some u=>exact absurd (Nat.lt_of_lt_of_le (x.lt q) e) (Nat.lt_irrefl _)
theorem HOk.kept (x:HOk P w H h) (k:∀ b u,h.get? b=some u->h'.get? b=some u):HOk P w H h':=fun a o e=>
 (x a o e).stay (fun b u _ q=>k b u q) (fun _ q=>q) fun _ _ q=>q
theorem HOk.laid (x:HOk P w H h) (k:∀ b u,h.get? b=some u->h'.get? b=some u) (hp:h.objs.size<=a) (new:bO P w (upd H a o) h' a o):HOk P w (upd H a o) h':=fun b u e=>by
 have hn:=x.fresh hp
 by_cases hb:b=a
 ·subst hb;rw [bx] at e;cases e;exact new
 ·rw [aC hb] at e
  exact (x b u e).stay (fun c v _ q=>k c v q) (fun c q=>by rw [aC (aR q hn)];exact q) fun c xs q=>by rw [aC (aR q hn)];exact q
end
noncomputable def Rd (H:Hp) (a:Addr) (u:HO):Prop:=H a=some u\/∃ o,H a=some (.frz o u)
theorem Rd.ok {P:Program} {w:World} {H:Hp} {h:Heap} {a:Addr} {u:HO} (r:Rd H a u) (x:HOk P w H h):bO P w H h a u:=by
 rcases r with r | ⟨o,r⟩
 ·exact x a u r
 ·obtain ⟨_,q⟩:=x a _ r
  exact q
noncomputable def Mut:Option HO->Prop
 | some (.lst _)=>True
 | some (.dK _)=>True
 | some (.dT _)=>True
 | some (.set _ _)=>True
 | some (.ins _ _ _)=>True
 | some (.ext _)=>True
 | _=>False
section
variable {P:Program} {w:World} {H:Hp} {h h':Heap} {x e:Addr} {o':HO}
theorem HOk.write (ok:HOk P w H h) (mu:Mut (H x)) (he:e=x\/H e=some (.own x)) (k:∀ b u,b ≠ e->h.get? b=some u->h'.get? b=some u) (heo:∃ u,h'.get? e=some u)
  (new:bO P w (upd H x o') h' x o'):HOk P w (upd H x o') h':=fun b u q=>by
 have nown:∀ c y,H c=some (.own y)->c ≠ x:=fun c y r z=>by subst z;rw [r] at mu;exact mu
 have ntup:∀ c xs,H c=some (.tup xs)->c ≠ x:=fun c xs r z=>by subst z;rw [r] at mu;exact mu
 by_cases hb:b=x
 ·subst hb;rw [bx] at q;cases q;exact new
 ·rw [aC hb] at q
  by_cases hbe:b=e
  ·have q':H b=some (.own x):=by
    rcases he with z | z
    ·exact absurd (hbe.trans z) hb
    ·rw [hbe];exact z
   rw [q] at q';cases q'
   obtain ⟨v,hv⟩:=heo
   exact ⟨v,by rw [hbe];exact hv⟩
  ·refine (ok b u q).stay (fun c v hc r=>k c v ?_ r) (fun c r=>by rw [aC (nown c b r)];exact r) fun c xs r=>by rw [aC (ntup c xs r)];exact r
   rcases hc with rfl | hc
   ·exact hbe
   ·rintro rfl
    rcases he with z | z
    ·exact nown c b hc z
    ·rw [hc] at z;cases z;exact hb rfl
end
structure Un (fs ex:List Addr) (H H':Hp) (h h':Heap):Prop where
 keep:∀ b o,h.get? b=some o->H b=none->b ∉ fs->b ∉ ex->h'.get? b=some o
 slot:∀ b o,h.get? b=some o->H b=none->b ∈ fs->b ∉ ex->∃ sl,h'.get? b=some { o with slots:=sl }
 free:∀ b o,h.get? b=some o->H b=none->b ∉ ex->H' b=none
 there:∀ b o,h.get? b=some o->b ∉ ex->∃ o',h'.get? b=some o'
 tups:∀ b xs,H b=some (.tup xs)->H' b=some (.tup xs)
 frzs:∀ b o u,H b=some (.frz o u)->H' b=some (.frz o u)
 tbls:∀ b ps,H b=some (.tbl ps)->∃ more,H' b=some (.tbl (ps++more))
section
variable {fs fs' ex ex':List Addr} {H H1 H2:Hp} {h h1 h2 h':Heap} {a x e:Addr} {o:HO}
theorem Un.any (u:Un fs ex H H1 h h1) {b:Addr} {ob:Obj} (q:h.get? b=some ob) (n:H b=none) (hx:b ∉ ex):∃ sl,h1.get? b=some { ob with slots:=sl }:=by
 by_cases hb:b ∈ fs
 ·exact u.slot b ob q n hb hx
 ·exact ⟨ob.slots,u.keep b ob q n hb hx⟩
theorem Un.kept (k:∀ b u,h.get? b=some u->h'.get? b=some u):Un fs ex H H h h':=
 ⟨fun b ob q _ _ _=>k b ob q,fun b ob q _ _ _=>⟨ob.slots,k b ob q⟩,fun _ _ _ n _=>n,fun b ob q _=>⟨ob,k b ob q⟩,fun _ _ q=>q,fun _ _ _ q=>q,fun _ ps q=>⟨#[],by rw [q];simp⟩⟩
theorem Un.refl:Un fs ex H H h h:=Un.kept fun _ _ q=>q
theorem Un.laid (k:∀ b u,h.get? b=some u->h'.get? b=some u) (hp:h.objs.size<=a) (hn:H a=none):Un fs ex H (upd H a o) h h' where
 keep:=fun b u q _ _ _=>k b u q
 slot:=fun b u q _ _ _=>⟨u.slots,k b u q⟩
 free:=fun b u q n _=>by rw [aC (Nat.ne_of_lt (Nat.lt_of_lt_of_le (Heap.lt_size q) hp))];exact n
 there:=fun b u q _=>⟨u,k b u q⟩
 tups:=fun b xs q=>by rw [aC (aR q hn)];exact q
 frzs:=fun b u xs q=>by rw [aC (aR q hn)];exact q
 tbls:=fun b ps q=>⟨#[],by rw [aC (aR q hn),q];simp⟩
theorem Un.write (mu:Mut (H x)) (he:e=x\/H e=some (.own x)) (k:∀ b u,b ≠ e->h.get? b=some u->h'.get? b=some u) (heo:∃ u,h'.get? e=some u):Un fs ex H (upd H x o) h h':=by
 have hx:∀ b,H b=none->b ≠ x:=fun b n z=>by subst z;rw [n] at mu;exact mu
 have hb:∀ b,H b=none->b ≠ e:=fun b n z=>by
  subst z
  rcases he with r | r
  ·exact hx b n r
  ·rw [n] at r;cases r
 have hm:∀ b u,H b=some u->¬ Mut (some u)->b ≠ x:=fun b u q nm z=>by subst z;rw [q] at mu;exact nm mu
 refine ⟨fun b u q n _ _=>k b u (hb b n) q,fun b u q n _ _=>⟨u.slots,k b u (hb b n) q⟩,fun b u q n _=>by rw [aC (hx b n)];exact n,fun b u q _=>?_,
  fun b xs q=>by rw [aC (hm b _ q fun z=>z)];exact q,fun b u xs q=>by rw [aC (hm b _ q fun z=>z)];exact q,fun b ps q=>⟨#[],by rw [aC (hm b _ q fun z=>z),q];simp⟩⟩
 by_cases hbe:b=e
 ·subst hbe;exact heo
 ·exact ⟨u,k b u hbe q⟩
end
noncomputable def trk (h:Heap) (H:Hp):List Addr:=(List.range h.objs.size).filter fun a=>(H a).isSome
noncomputable def mX (h:Heap) (H:Hp):Heap:=PySem.W.hideAll h (trk h H)
theorem ug (h:Heap) (H:Hp):(mX h H).objs.size=h.objs.size:=PySem.W.hideAll_size _ _
theorem vQ {h:Heap} {H:Hp} {b:Addr} {o:Obj} (e:h.get? b=some o) (n:H b=none):(mX h H).get? b=some o:=
 PySem.W.hideAll_get _ e fun hm=>by
  have q:(H b).isSome=true:=(List.mem_filter.mp hm).2
  rw [n] at q;simp at q
theorem zA {h:Heap} {H:Hp} {b:Addr} {o:Obj} (e:(mX h H).get? b=some o):h.get? b=some o/\H b=none:=by
 have e':h.get? b=some o:=PySem.W.of_hideAll (trk h H) e
 refine ⟨e',?_⟩
 cases q:H b with
 | none=>rfl
 | some x=>
  have hm:b ∈ trk h H:=List.mem_filter.mpr ⟨List.mem_range.mpr (Heap.lt_size e'),by simp [q]⟩
  have z:(mX h H).get? b=none:=PySem.W.hideAll_none (trk h H) hm
  rw [z] at e;cases e
end L2
namespace L2
open PySem PySem.Spec PyProof.Rows
structure Mod (K:PySem.W.Frag) (mg:Str->Option Value) (base:Heap):Prop where
 kin:K.In base
 glob:base.Ns mainGlobals mg
 blt:∃ mb,base.Ns builtinsNs mb/\∀ x:Str,x ≠ "__name__"->mb x=bootBuiltins x
 nolimit:base.NoLimit
structure Cx where
 prog:Program
 w:World
 K:PySem.W.Frag
 mg:Str->Option Value
 base:Heap
 A:Around
 N:List Str
 s₀:Shared
 H₀:Hp
 env:Env
 outer:List Env
 stack:List Env
 ex:List Addr
 fn:Str->Bool
 calm:Bool
 pn:List (Addr × Obj)
 xe:Value->Shared->Prop
noncomputable def frs (l:List Env):List Addr:=l.filterMap (·.frame)
noncomputable abbrev Cx.fs (X:Cx):List Addr:=frs X.outer
noncomputable def Vis (sc:Scope) (x:Str):Prop:=sc.names.lookup x=some .local\/sc.names.lookup x=some .cell\/sc.names.lookup x=some .free
noncomputable def Loc (sc:Scope) (x:Str):Prop:=sc.names.lookup x=some .local\/sc.names.lookup x=some .cell
noncomputable def KS (env:Env) (h:Heap) (m:Str->Option Value) (x:Str) (u:Value):Prop:=
 (env.kindOf x=some .local/\m x=some u)\/((env.kindOf x=some .cell\/env.kindOf x=some .free)/\∃ c,env.cells.lookup x=some c/\h.IsCell c (some u))
structure Cx.Ok (X:Cx):Prop where
 mod:Mod X.K X.mg X.base
 kind:X.env.scope.kind = .function
 glob:X.env.globals=mainGlobals
 blt:X.env.builtins=builtinsNs
 above:X.s₀.heap.objs.size<=X.env.locals
 inj:∀ x y c,X.env.cells.lookup x=some c->X.env.cells.lookup y=some c->x=y
 has:∀ x,(X.env.kindOf x=some .cell\/X.env.kindOf x=some .free)->∃ c,X.env.cells.lookup x=some c
 cab:∀ x c,X.fn x=true->X.env.cells.lookup x=some c->X.s₀.heap.objs.size<=c
 hd:X.calm=true->X.A.handled=none
 frames:X.A.frames=some X.stack
 stk:X.stack=X.outer\/(X.stack=X.env::X.outer/\X.env.frame=some X.env.locals)
 exf:∀ b ∈ X.ex,b ≠ X.env.locals/\∀ x c,X.env.cells.lookup x=some c->c ≠ b
 bs:∀ b o,X.base.get? b=some o->X.s₀.heap.get? b=some o/\X.H₀ b=none
 bsz:X.base.objs.size<=X.s₀.heap.objs.size
 noex:∀ b o,X.base.get? b=some o->b ∉ X.ex
 exfs:∀ b ∈ X.ex,b ∉ X.fs
 funs:X.s₀.heap.FunFrames X.base X.outer
 frf:∀ b ∈ X.fs,X.H₀ b=none
structure Inv (X:Cx) (pins:List (Addr × Obj)) (σ:List (Option V)) (H:Hp) (s:Shared):Prop where
 ok:X.Ok
 os:s.os=X.s₀.os
 bare:AllBare s.gens
 base:Un X.fs X.ex X.H₀ H X.s₀.heap s.heap
 loc:∃ m,s.heap.Ns X.env.locals m/\∀ (i:Nat) (x:Str) (v:V),X.N[i]?=some x->σ[i]?=some (some v)->Vis X.env.scope x->∃ u,aN v u/\KS X.env s.heap m x u
 cell:∀ x c,X.env.cells.lookup x=some c->∃ v,s.heap.IsCell c v
 free:H X.env.locals=none
 freeC:∀ x c,X.env.cells.lookup x=some c->H c=none
 pin:∀ p ∈ X.pn++pins,s.heap.get? p.1=some p.2/\H p.1=none/\p.1 ≠ X.env.locals/\p.1 ∉ X.fs/\∀ v,p.2.data ≠ .cell v
 hok:HOk X.prog X.w H s.heap
 len:σ.length=X.N.length
section
variable {X:Cx} {pins:List (Addr × Obj)} {σ:List (Option V)} {H H':Hp} {s:Shared} {h':Heap}
theorem Cx.Ok.nofr (ok:X.Ok) {b:Addr} {o:Obj} (e:X.base.get? b=some o):b ∉ X.fs:=fun hb=>by
 have:=(ok.funs.mem hb).1
 rw [e] at this;cases this
theorem Inv.bs (I:Inv X pins σ H s):∀ b o,X.base.get? b=some o->s.heap.get? b=some o/\H b=none:=fun b o e=>
 ⟨I.base.keep b o (I.ok.bs b o e).1 (I.ok.bs b o e).2 (I.ok.nofr e) (I.ok.noex b o e),I.base.free b o (I.ok.bs b o e).1 (I.ok.bs b o e).2 (I.ok.noex b o e)⟩
theorem Inv.bk (I:Inv X pins σ H s):∀ b o,X.base.get? b=some o->s.heap.get? b=some o:=fun b o e=>(I.bs b o e).1
theorem Inv.mod (I:Inv X pins σ H s):Mod X.K X.mg X.base:=I.ok.mod
theorem Inv.kIn (I:Inv X pins σ H s):X.K.In s.heap:=I.ok.mod.kin.keeps I.bk
theorem Inv.lt (I:Inv X pins σ H s):X.env.locals < s.heap.objs.size:=let ⟨_,hn,_⟩:=I.loc;hn.lt
theorem Inv.sz (I:Inv X pins σ H s):X.s₀.heap.objs.size<=s.heap.objs.size:=Nat.le_trans I.ok.above (Nat.le_of_lt I.lt)
theorem Inv.nofs (I:Inv X pins σ H s) {a:Addr} (h:s.heap.objs.size<=a):a ∉ X.fs:=fun hb=>by
 obtain ⟨_,o,ho,_⟩:=I.ok.funs.mem hb
 exact absurd (Nat.lt_of_lt_of_le (Heap.lt_size ho) (Nat.le_trans I.sz h)) (Nat.lt_irrefl _)
theorem Inv.cne (I:Inv X pins σ H s):∀ x c,X.env.cells.lookup x=some c->c ≠ X.env.locals:=fun x c e z=>by
 obtain ⟨v,o,ho,hd⟩:=I.cell x c e
 obtain ⟨m,⟨o',es,ep,ho',hd',_⟩,_⟩:=I.loc
 rw [z,ho'] at ho;cases ho;rw [hd'] at hd;cases hd
theorem Inv.funs (I:Inv X pins σ H s):s.heap.FunFrames X.base X.outer:=by
 have all:∀ (l:List Env),(∀ b ∈ frs l,b ∈ X.fs)->X.s₀.heap.FunFrames X.base l->s.heap.FunFrames X.base l:=by
  intro l
  induction l with
  | nil=>intro _ _;trivial
  | cons env r ih=>
   intro hs hl
   obtain ⟨hk,⟨L,o,hf,hn,ho,hd⟩,hr⟩:=hl
   have hL:L ∈ X.fs:=hs L (by unfold frs;rw [List.filterMap_cons,hf];exact List.mem_cons_self)
   obtain ⟨sl,e⟩:=I.base.slot L o ho (I.ok.frf L hL) hL fun z=>I.ok.exfs L z hL
   exact ⟨hk,⟨L,_,hf,hn,e,hd⟩,ih (fun b hb=>hs b (by unfold frs;rw [List.filterMap_cons,hf];exact List.mem_cons_of_mem _ hb)) hr⟩
 exact all X.outer (fun _ hb=>hb) I.ok.funs
theorem Inv.stack (I:Inv X pins σ H s):s.heap.FunFrames X.base X.stack:=by
 rcases I.ok.stk with e | ⟨e,hf⟩
 ·rw [e];exact I.funs
 ·rw [e]
  obtain ⟨m,hn,_⟩:=I.loc
  refine .cons (by rw [I.ok.kind];decide) hf hn ?_ I.funs
  exact Heap.get?_none_of_le (Nat.le_trans I.ok.bsz I.ok.above)
theorem Inv.stkSub (I:Inv X pins σ H s):∀ b ∈ frs X.stack,b ∈ X.env.locals::X.fs:=fun b hb=>by
 rcases I.ok.stk with e | ⟨e,hf⟩
 ·rw [e] at hb;exact List.mem_cons_of_mem _ hb
 ·rw [e] at hb
  unfold frs at hb
  rw [List.filterMap_cons,hf] at hb
  exact hb
theorem Inv.stkFree (I:Inv X pins σ H s):∀ b ∈ frs X.stack,H b=none:=fun b hb=>by
 rcases List.mem_cons.mp (I.stkSub b hb) with e | hb
 ·rw [e];exact I.free
 ·obtain ⟨_,o,ho,_⟩:=I.ok.funs.mem hb
  exact I.base.free b o ho (I.ok.frf b hb) fun z=>I.ok.exfs b z hb
theorem Inv.step {g':Array GenState} {t':Nat} {d':Drawn} {ch:List Addr} (I:Inv X pins σ H s)
  (hch:∀ b ∈ ch,(b ∈ X.ex\/X.s₀.heap.objs.size<=b)/\b ≠ X.env.locals/\(∀ x c,X.env.cells.lookup x=some c->c ≠ b)/\∀ p ∈ X.pn++pins,p.1 ≠ b)
  (keep:∀ b o,b ≠ X.env.locals->b ∉ X.fs->b ∉ ch->s.heap.get? b=some o->H b=none->h'.get? b=some o)
  (slot:∀ b o,b ≠ X.env.locals->b ∈ X.fs->b ∉ ch->s.heap.get? b=some o->H b=none->∃ sl,h'.get? b=some { o with slots:=sl }) (free:∀ b o,b ∉ ch->s.heap.get? b=some o->H b=none->H' b=none)
  (there:∀ b o,b ∉ ch->s.heap.get? b=some o->∃ o',h'.get? b=some o')
  (tups:∀ b xs,H b=some (.tup xs)->H' b=some (.tup xs)) (frzs:∀ b o u,H b=some (.frz o u)->H' b=some (.frz o u)) (tbls:∀ b ps,H b=some (.tbl ps)->∃ more,H' b=some (.tbl (ps++more)))
  (ns:∀ m,s.heap.Ns X.env.locals m->h'.Ns X.env.locals m) (hok:HOk X.prog X.w H' h') (hg:AllBare g') :
  Inv X pins σ H' { s with heap:=h',gens:=g',drawn:=d',toks:=t' }:=by
 have neL:∀ b o,X.s₀.heap.get? b=some o->b ≠ X.env.locals:=fun b o e=>Nat.ne_of_lt (Nat.lt_of_lt_of_le (Heap.lt_size e) I.ok.above)
 have neC:∀ b o,X.s₀.heap.get? b=some o->b ∉ X.ex->b ∉ ch:=fun b o e hx hb=>by
  rcases (hch b hb).1 with z | z
  ·exact hx z
  ·exact absurd (Nat.lt_of_lt_of_le (Heap.lt_size e) z) (Nat.lt_irrefl _)
 have cellK:∀ x c,X.env.cells.lookup x=some c->∀ v,s.heap.IsCell c v->h'.IsCell c v:=fun x c e v ⟨o,ho,hd⟩=>by
  have nch:c ∉ ch:=fun z=>(hch c z).2.2.1 x c e rfl
  by_cases hc:c ∈ X.fs
  ·obtain ⟨sl,q⟩:=slot c o (I.cne x c e) hc nch ho (I.freeC x c e)
   exact ⟨_,q,hd⟩
  ·exact ⟨o,keep c o (I.cne x c e) hc nch ho (I.freeC x c e),hd⟩
 refine ⟨I.ok,I.os,hg,⟨fun b o e n hb hx=>?_,fun b o e n hb hx=>?_,fun b o e n hx=>?_,fun b o e hx=>?_,fun b xs e=>tups b xs (I.base.tups b xs e),fun b o xs e=>frzs b o xs (I.base.frzs b o xs e),fun b ps e=>?_⟩,?_,fun x c e=>?_,?_,fun x c e=>?_,fun p hp=>?_,hok,I.len⟩
 ·exact keep b o (neL b o e) hb (neC b o e hx) (I.base.keep b o e n hb hx) (I.base.free b o e n hx)
 ·obtain ⟨sl,e1⟩:=I.base.slot b o e n hb hx
  obtain ⟨sl',e2⟩:=slot b _ (neL b o e) hb (neC b o e hx) e1 (I.base.free b o e n hx)
  exact ⟨sl',e2⟩
 ·obtain ⟨o',e1⟩:=I.base.there b o e hx
  exact free b o' (neC b o e hx) e1 (I.base.free b o e n hx)
 ·obtain ⟨o',e1⟩:=I.base.there b o e hx
  exact there b o' (neC b o e hx) e1
 ·obtain ⟨m1,e1⟩:=I.base.tbls b ps e
  obtain ⟨m2,e2⟩:=tbls b _ e1
  exact ⟨m1++m2,by rw [e2,Array.append_assoc]⟩
 ·obtain ⟨m,hn,hl⟩:=I.loc
  refine ⟨m,ns m hn,fun i x v e1 e2 e3=>?_⟩
  obtain ⟨u,r,l⟩:=hl i x v e1 e2 e3
  refine ⟨u,r,?_⟩
  rcases l with l | ⟨k,c,e,z⟩
  ·exact .inl l
  ·exact .inr ⟨k,c,e,cellK x c e _ z⟩
 ·obtain ⟨v,z⟩:=I.cell x c e
  exact ⟨v,cellK x c e v z⟩
 ·obtain ⟨m,⟨o,_,_,ho,_⟩,_⟩:=I.loc
  exact free _ o (fun z=>(hch _ z).2.1 rfl) ho I.free
 ·obtain ⟨v,o,ho,hd⟩:=I.cell x c e
  exact free c o (fun z=>(hch c z).2.2.1 x c e rfl) ho (I.freeC x c e)
 ·obtain ⟨e,n,ne,nf,d⟩:=I.pin p hp
  have nch:p.1 ∉ ch:=fun z=>(hch p.1 z).2.2.2 p hp rfl
  exact ⟨keep p.1 p.2 ne nf nch e n,free p.1 p.2 nch e n,ne,nf,d⟩
theorem Inv.un {t':Nat} (I:Inv X pins σ H s) (u:Un X.fs [] H H' s.heap h') (hok:HOk X.prog X.w H' h'):Inv X pins σ H' { s with heap:=h',toks:=t' }:=by
 obtain ⟨m,⟨o,es,ep,ho,r⟩,_⟩:=id I.loc
 obtain ⟨sl,hL⟩:=u.any ho I.free (by simp)
 exact I.step (g':=s.gens) (d':=s.drawn) (ch:=[]) (fun _ z=>nomatch z) (fun b o _ hb _ e n=>u.keep b o e n hb (by simp)) (fun b o _ hb _ e n=>u.slot b o e n hb (by simp)) (fun b o _ e n=>u.free b o e n (by simp)) (fun b o _ e=>u.there b o e (by simp)) u.tups u.frzs u.tbls (fun m' hm=>by
  obtain ⟨o',es',ep',ho',r'⟩:=hm
  rw [ho] at ho';cases ho'
  exact ⟨_,es',ep',hL,r'⟩) hok I.bare
theorem Inv.call {g':Array GenState} {t':Nat} {d':Drawn} {ch:List Addr} (I:Inv X pins σ H s) (u:Un (frs X.stack) ch H H' s.heap h') (hok:HOk X.prog X.w H' h') (hg:AllBare g')
  (hch:∀ b ∈ ch,(b ∈ X.ex\/X.s₀.heap.objs.size<=b)/\b ≠ X.env.locals/\(∀ x c,X.env.cells.lookup x=some c->c ≠ b)/\∀ p ∈ X.pn++pins,p.1 ≠ b) :
  Inv X pins σ H' { s with heap:=h',gens:=g',drawn:=d',toks:=t' }:=by
 obtain ⟨m,⟨o,es,ep,ho,r⟩,_⟩:=id I.loc
 obtain ⟨sl,hL⟩:=u.any ho I.free fun z=>(hch _ z).2.1 rfl
 exact I.step (ch:=ch) hch (fun b o hL hb hc e n=>u.keep b o e n (fun z=>(List.mem_cons.mp (I.stkSub b z)).elim hL hb) hc) (fun b o _ _ hc e n=>u.any e n hc) (fun b o hc e n=>u.free b o e n hc) (fun b o hc e=>u.there b o e hc) u.tups u.frzs u.tbls (fun m' hm=>by
  obtain ⟨o',es',ep',ho',r'⟩:=hm
  rw [ho] at ho';cases ho'
  exact ⟨_,es',ep',hL,r'⟩) hok hg
theorem Inv.turned {t':Nat} {it:Addr} (I:Inv X pins σ H s) (k:∀ b o,b ≠ it->s.heap.get? b=some o->h'.get? b=some o) (hn:H it=none) (hL:it ≠ X.env.locals)
  (h1:it ∈ X.ex\/X.s₀.heap.objs.size<=it) (h2:∀ x c,X.env.cells.lookup x=some c->c ≠ it) (h3:∀ p ∈ X.pn++pins,p.1 ≠ it):Inv X pins σ H { s with heap:=h',toks:=t' }:=by
 have nit:∀ b u,H b=some u->b ≠ it:=fun b u e z=>by rw [z,hn] at e;cases e
 refine I.step (g':=s.gens) (d':=s.drawn) (ch:=[it]) (fun b hb=>?_) (fun b o _ _ hc e _=>k b o (fun z=>hc (by simp [z])) e) (fun b o _ _ hc e _=>⟨o.slots,k b o (fun z=>hc (by simp [z])) e⟩) (fun _ _ _ _ n=>n)
  (fun b o hc e=>⟨o,k b o (fun z=>hc (by simp [z])) e⟩) (fun _ _ e=>e) (fun _ _ _ e=>e) (fun b ps e=>⟨#[],by rw [e];simp⟩) (fun m hm=>?_) (fun b u e=>?_) I.bare
 ·have e:b=it:=by simpa using hb
  subst e
  exact ⟨h1,hL,h2,h3⟩
 ·obtain ⟨o,es,ep,ho,r⟩:=hm
  exact ⟨o,es,ep,k _ o (Ne.symm hL) ho,r⟩
 ·refine (I.hok b u e).stay (fun c v hc q=>k c v ?_ q) (fun _ q=>q) fun _ _ q=>q
  rcases hc with z | z
  ·rw [z];exact nit b u e
  ·exact nit c _ z
theorem Inv.tok (I:Inv X pins σ H s) (t:Nat):Inv X pins σ H { s with toks:=t }:=I.un (h':=s.heap) (t':=t) Un.refl I.hok
theorem Inv.kept {t':Nat} (I:Inv X pins σ H s) (k:∀ b u,s.heap.get? b=some u->h'.get? b=some u):Inv X pins σ H { s with heap:=h',toks:=t' }:=I.un (Un.kept k) (I.hok.kept k)
theorem Inv.laid {a:Addr} {o:HO} {t':Nat} (I:Inv X pins σ H s) (k:∀ b u,s.heap.get? b=some u->h'.get? b=some u) (hp:s.heap.objs.size<=a) (new:bO X.prog X.w (upd H a o) h' a o) :
  Inv X pins σ (upd H a o) { s with heap:=h',toks:=t' }:=I.un (Un.laid k hp (I.hok.fresh hp)) (I.hok.laid k hp new)
theorem Inv.write {x e:Addr} {o:HO} {t':Nat} (I:Inv X pins σ H s) (mu:Mut (H x)) (he:e=x\/H e=some (.own x)) (k:∀ b u,b ≠ e->s.heap.get? b=some u->h'.get? b=some u) (heo:∃ u,h'.get? e=some u)
  (new:bO X.prog X.w (upd H x o) h' x o):Inv X pins σ (upd H x o) { s with heap:=h',toks:=t' }:=I.un (Un.write mu he k heo) (I.hok.write mu he k heo new)
theorem Inv.pins_of {pins':List (Addr × Obj)} (I:Inv X pins σ H s) (h:∀ p ∈ pins',s.heap.get? p.1=some p.2/\H p.1=none/\p.1 ≠ X.env.locals/\p.1 ∉ X.fs/\∀ v,p.2.data ≠ .cell v):Inv X pins' σ H s:=
 ⟨I.ok,I.os,I.bare,I.base,I.loc,I.cell,I.free,I.freeC,fun p hp=>(List.mem_append.mp hp).elim (fun z=>I.pin p (List.mem_append_left _ z)) (h p),I.hok,I.len⟩
theorem oC {N:List Str} (hN:N.Nodup) {i j:Nat} {x:Str} (a:N[i]?=some x) (b:N[j]?=some x):i=j:=by
 obtain ⟨h1,e1⟩:=List.getElem?_eq_some_iff.mp a
 obtain ⟨h2,e2⟩:=List.getElem?_eq_some_iff.mp b
 exact (List.getElem_inj hN).mp (e1.trans e2.symm)
theorem lY {M:Model} {A:Around} {E:Value->Shared->Prop} {i:Nat} {x:Str} {v:V} {u:Value} {Q:Unit->Shared->Prop} (I:Inv X pins σ H s) (hN:X.N.Nodup) (hi:X.N[i]?=some x) (hx:Loc X.env.scope x) (r:aN v u)
  (h:∀ s',Inv X pins (σ.set i (some v)) H s'->(∃ a,Heap.SameBut a s.heap s'.heap/\(a=X.env.locals\/X.env.cells.lookup x=some a))->Q () s') (hf:X.fn x=true\/X.env.scope.names.lookup x=some .local:=by first | exact .inl rfl | exact .inr rfl | assumption):wpAny M A (storeName X.env x u) Q E s:=by
 obtain ⟨m,hn,hl⟩:=id I.loc
 have hcls:(X.env.scope.kind == .class || (X.env.scope.kind == .module && X.env.locals != X.env.globals))=false:=by rw [I.ok.kind];rfl
 have hiσ:i < σ.length:=by rw [I.len];exact (List.getElem?_eq_some_iff.mp hi).1
 have cne:=I.cne
 have tracked:∀ {a:Addr} {h':Heap},(∃ o,s.heap.get? a=some o/\H a=none)->Heap.SameBut a s.heap h'->HOk X.prog X.w H h':=fun {a h'} ha hs b ob e=>by
  obtain ⟨_,_,hfree⟩:=ha
  refine (I.hok b ob e).stay (fun c w' hc q=>(hs.2 c ?_).trans q) (fun _ q=>q) fun _ _ q=>q
  rintro rfl
  rcases hc with rfl | hc
  ·rw [hfree] at e;cases e
  ·rw [hfree] at hc;cases hc
 rcases hx with hk | hk
 ·refine wpAny_storeName_local hk hn (fun h' hn' hs=>?_) hcls
  obtain ⟨oL,_,_,hoL,_⟩:=id hn
  refine h _ ⟨I.ok,I.os,I.bare,⟨fun b o e n hb hx=>?_,fun b o e n hb hx=>?_,I.base.free,fun b o e hx=>?_,I.base.tups,I.base.frzs,I.base.tbls⟩,⟨_,hn',fun j y v' e1 e2 e3=>?_⟩,fun y c e=>?_,I.free,I.freeC,fun p hp=>?_,tracked ⟨oL,hoL,I.free⟩ hs,by simpa using I.len⟩ ⟨_,hs,.inl rfl⟩
  ·exact (hs.2 b (Nat.ne_of_lt (Nat.lt_of_lt_of_le (Heap.lt_size e) I.ok.above))).trans (I.base.keep b o e n hb hx)
  ·obtain ⟨sl,e1⟩:=I.base.slot b o e n hb hx
   exact ⟨sl,(hs.2 b (Nat.ne_of_lt (Nat.lt_of_lt_of_le (Heap.lt_size e) I.ok.above))).trans e1⟩
  ·obtain ⟨o',e1⟩:=I.base.there b o e hx
   exact ⟨o',(hs.2 b (Nat.ne_of_lt (Nat.lt_of_lt_of_le (Heap.lt_size e) I.ok.above))).trans e1⟩
  ·by_cases hj:j=i
   ·subst hj
    rw [hi] at e1;cases e1
    rw [List.getElem?_set_self hiσ] at e2
    cases e2
    exact ⟨u,r,.inl ⟨hk,by simp⟩⟩
   ·rw [List.getElem?_set_ne (Ne.symm hj)] at e2
    obtain ⟨u',r',q⟩:=hl j y v' e1 e2 e3
    refine ⟨u',r',?_⟩
    rcases q with ⟨k,e⟩ | ⟨k,c,e,z⟩
    ·refine .inl ⟨k,?_⟩
     have:y ≠ x:=fun e=>hj (oC hN e1 (e ▸ hi))
     simp [this,e]
    ·exact .inr ⟨k,c,e,z.sameBut hs (cne y c e)⟩
  ·obtain ⟨w',z⟩:=I.cell y c e
   exact ⟨w',z.sameBut hs (cne y c e)⟩
  ·obtain ⟨e,n,ne,nf,d⟩:=I.pin p hp
   exact ⟨(hs.2 p.1 ne).trans e,n,ne,nf,d⟩
 ·have hfn:X.fn x=true:=by
   rcases hf with z | z
   ·exact z
   ·rw [z] at hk;cases hk
  obtain ⟨c,hc⟩:=I.ok.has x (.inl hk)
  obtain ⟨w',z⟩:=I.cell x c hc
  refine wpAny_storeName_cell I.ok.kind hk hc z (fun h' hc' hs=>?_)
  obtain ⟨oc,hoc,hocd⟩:=id z
  refine h { s with heap:=h' } ⟨I.ok,I.os,I.bare,⟨fun b o e n hb hx=>?_,fun b o e n hb hx=>?_,I.base.free,fun b o e hx=>?_,I.base.tups,I.base.frzs,I.base.tbls⟩,⟨m,hn.sameBut hs (Ne.symm (cne x c hc)),fun j y v' e1 e2 e3=>?_⟩,fun y c' e=>?_,I.free,I.freeC,fun p hp=>?_,tracked ⟨oc,hoc,I.freeC x c hc⟩ hs,by simpa using I.len⟩ ⟨c,hs,.inr hc⟩
  ·exact (hs.2 b (Nat.ne_of_lt (Nat.lt_of_lt_of_le (Heap.lt_size e) (I.ok.cab x c hfn hc)))).trans (I.base.keep b o e n hb hx)
  ·obtain ⟨sl,e1⟩:=I.base.slot b o e n hb hx
   exact ⟨sl,(hs.2 b (Nat.ne_of_lt (Nat.lt_of_lt_of_le (Heap.lt_size e) (I.ok.cab x c hfn hc)))).trans e1⟩
  ·obtain ⟨o',e1⟩:=I.base.there b o e hx
   exact ⟨o',(hs.2 b (Nat.ne_of_lt (Nat.lt_of_lt_of_le (Heap.lt_size e) (I.ok.cab x c hfn hc)))).trans e1⟩
  ·by_cases hj:j=i
   ·subst hj
    rw [hi] at e1;cases e1
    rw [List.getElem?_set_self hiσ] at e2
    cases e2
    exact ⟨u,r,.inr ⟨.inl hk,c,hc,hc'⟩⟩
   ·rw [List.getElem?_set_ne (Ne.symm hj)] at e2
    obtain ⟨u',r',q⟩:=hl j y v' e1 e2 e3
    refine ⟨u',r',?_⟩
    rcases q with q | ⟨k,c',e,z'⟩
    ·exact .inl q
    ·refine .inr ⟨k,c',e,z'.sameBut hs ?_⟩
     rintro rfl
     exact hj (oC hN e1 (I.ok.inj _ _ _ e hc ▸ hi))
  ·by_cases hcc:c'=c
   ·subst hcc;exact ⟨_,hc'⟩
   ·obtain ⟨w2,z2⟩:=I.cell y c' e
    exact ⟨w2,z2.sameBut hs hcc⟩
  ·obtain ⟨e,n,ne,nf,d⟩:=I.pin p hp
   refine ⟨(hs.2 p.1 ?_).trans e,n,ne,nf,d⟩
   intro q
   rw [q,hoc] at e
   have q':oc=p.2:=Option.some.inj e
   exact d w' (by rw [<-q'];exact hocd)
theorem cI {M:Model} {A:Around} {E:Value->Shared->Prop} {i:Nat} {x:Str} {v:V} {u:Value} {Q:Unit->Shared->Prop} (I:Inv X pins σ H s) (hN:X.N.Nodup) (hi:X.N[i]?=some x) (hx:Loc X.env.scope x) (r:aN v u)
  (h:∀ s',Inv X pins (σ.set i (some v)) H s'->Q () s') (hf:X.fn x=true\/X.env.scope.names.lookup x=some .local:=by first | exact .inl rfl | exact .inr rfl | assumption):wpAny M A (storeName X.env x u) Q E s:=
 lY I hN hi hx r (fun s' I' _=>h s' I') hf
theorem Inv.call' {s':Shared} {ch:List Addr} (I:Inv X pins σ H s) (ho:s'.os=s.os) (u:Un (frs X.stack) ch H H' s.heap s'.heap) (hok:HOk X.prog X.w H' s'.heap) (hg:AllBare s'.gens)
  (hch:∀ b ∈ ch,(b ∈ X.ex\/X.s₀.heap.objs.size<=b)/\b ≠ X.env.locals/\(∀ x c,X.env.cells.lookup x=some c->c ≠ b)/\∀ p ∈ X.pn++pins,p.1 ≠ b):Inv X pins σ H' s':=by
 obtain ⟨h',g',d',t',o'⟩:=s'
 have e:o'=s.os:=ho
 subst e
 exact I.call (g':=g') (t':=t') (d':=d') u hok hg hch
end
noncomputable abbrev XK:=Value->Option Addr->Hp->Prop
noncomputable abbrev St:=List (Option V)
noncomputable abbrev VK:=V->Hp->Prop
noncomputable abbrev TE:=St->Hp->VK->Prop
noncomputable abbrev TT:=St->Hp->(Bool->Hp->Prop)->Prop
noncomputable abbrev TA:=St->Hp->(List V->Hp->Prop)->Prop
structure Ends where
 nx:St->Hp->Prop
 rt:VK
 bk:St->Hp->Prop:=fun _ _=>False
 ct:St->Hp->Prop:=fun _ _=>False
noncomputable abbrev TS:=Ends->St->Hp->Prop
noncomputable def EP (X:Cx) (pins:List (Addr × Obj)) (σ:St) (Q:VK) (u:Value) (s':Shared):Prop:=∃ v H',Inv X pins σ H' s'/\aN v u/\Q v H'
noncomputable def TP (X:Cx) (pins:List (Addr × Obj)) (σ:St) (Q:Bool->Hp->Prop) (b:Bool) (s':Shared):Prop:=∃ H',Inv X pins σ H' s'/\Q b H'
noncomputable def AP (X:Cx) (pins:List (Addr × Obj)) (σ:St) (Q:List V->Hp->Prop) (us:List Value) (s':Shared):Prop:=∃ vs H',Inv X pins σ H' s'/\aP vs us/\Q vs H'
noncomputable def SP (X:Cx) (pins:List (Addr × Obj)) (D:Ends) (f:Flow) (s':Shared):Prop:=
 match f with
 | .next=>∃ σ' H',Inv X pins σ' H' s'/\D.nx σ' H'
 | .brk=>∃ σ' H',Inv X pins σ' H' s'/\D.bk σ' H'
 | .cont=>∃ σ' H',Inv X pins σ' H' s'/\D.ct σ' H'
 | .ret u=>∃ v σ' H',Inv X pins σ' H' s'/\aN v u/\D.rt v H'
noncomputable def PE (X:Cx) (e:Expr) (t:TE):Prop:=
 ∀ (pins:List (Addr × Obj)) (s:Shared) (σ:St) (H:Hp) (Q:VK),Inv X pins σ H s->t σ H Q->wpAny (model X.prog X.w) X.A (eval e X.env) (EP X pins σ Q) X.xe s
noncomputable def PT (X:Cx) (e:Expr) (t:TT):Prop:=
 ∀ (pins:List (Addr × Obj)) (s:Shared) (σ:St) (H:Hp) (Q:Bool->Hp->Prop),Inv X pins σ H s->t σ H Q->wpAny (model X.prog X.w) X.A (isTrue e X.env (eval e X.env)) (TP X pins σ Q) X.xe s
noncomputable def PW (X:Cx) (e:Expr) (t:TT):Prop:=
 ∀ (whole:Sem Value) (pins:List (Addr × Obj)) (s:Shared) (σ:St) (H:Hp) (Q:Bool->Hp->Prop),Inv X pins σ H s->t σ H Q->wpAny (model X.prog X.w) X.A (isTrue e X.env whole) (TP X pins σ Q) X.xe s
theorem PW.pt {X:Cx} {e:Expr} {t:TT} (h:PW X e t):PT X e t:=h _
noncomputable def PA (X:Cx) (es:List Expr) (t:TA):Prop:=
 ∀ (pos:Pos) (pins:List (Addr × Obj)) (s:Shared) (σ:St) (H:Hp) (Q:List V->Hp->Prop),Inv X pins σ H s->t σ H Q->wpAny (model X.prog X.w) X.A (spliced (backTo pos (starEach es X.env))) (AP X pins σ Q) X.xe s
noncomputable def PS (X:Cx) (st:Stmt) (t:TS):Prop:=
 ∀ (pins:List (Addr × Obj)) (s:Shared) (σ:St) (H:Hp) (D:Ends),Inv X pins σ H s->t D σ H->wpAny (model X.prog X.w) X.A (exec st X.env) (SP X pins D) X.xe s
noncomputable def PSs (X:Cx) (st:List Stmt) (t:TS):Prop:=
 ∀ (pins:List (Addr × Obj)) (s:Shared) (σ:St) (H:Hp) (D:Ends),Inv X pins σ H s->t D σ H->wpAny (model X.prog X.w) X.A (execs st X.env) (SP X pins D) X.xe s
theorem thn {α:Type} {t:Sem α} {Q Q':α->Shared->Prop} {M:Model} {A:Around} {E:Value->Shared->Prop} {s:Shared} (h:wpAny M A t Q E s) (hQ:∀ a s,Q a s->Q' a s):wpAny M A t Q' E s:=wpAny_mono h hQ fun _ _ x=>x
end L2
namespace L2
open PySem PySem.Spec PyProof.Rows
section
variable {X:Cx}
theorem bin {a b:Expr} {ta tb:TE} (ha:PE X a ta) (hb:PE X b tb) {pins:List (Addr × Obj)} {s:Shared} {σ:St} {H:Hp} {R:V->V->Hp->Prop} (I:Inv X pins σ H s) (h:ta σ H fun x H1=>tb σ H1 fun y H2=>R x y H2)
  {α:Type} {Q:α->Shared->Prop} {f:Value->Value->Sem α}
  (hf:∀ v u s2 x y H2,Inv X pins σ H2 s2->aN x v->aN y u->R x y H2->wpAny (model X.prog X.w) X.A (f v u) Q X.xe s2) :
  wpAny (model X.prog X.w) X.A (eval a X.env) (fun v s₁=>wpAny (model X.prog X.w) X.A (eval b X.env) (fun u s₂=>wpAny (model X.prog X.w) X.A (f v u) Q X.xe s₂) X.xe s₁) X.xe s:=by
 refine thn (ha pins s σ H _ I h) fun v s1 ⟨x,H1,I1,r1,q1⟩=>?_
 refine thn (hb pins s1 σ H1 _ I1 q1) fun u s2 ⟨y,H2,I2,r2,q2⟩=>?_
 exact hf v u s2 x y H2 I2 r1 r2 q2
noncomputable def Im (i:Nat):TE:=fun σ H Q=>∃ v,σ[i]?=some (some v)/\Q v H
noncomputable def tC (v:V):TE:=fun _ H Q=>Q v H
theorem DN {i:Nat} {x:Str} {pos:Pos} (hN:X.N[i]?=some x) (hv:Vis X.env.scope x) (hd:(x == ("__debug__" : Str))=false:=by decide) (hcd:(x == ("__classdict__" : Str))=false:=by decide):PE X (.Name x pos) (Im i):=by
 intro pins s σ H Q I h
 obtain ⟨v,e,h⟩:=h
 obtain ⟨m,hn,hl⟩:=I.loc
 obtain ⟨u,r,l⟩:=hl i x v hN e hv
 have fin:EP X pins σ Q u s:=⟨v,H,I,r,h⟩
 rcases l with ⟨hk,hm⟩ | ⟨hk,c,hc,hcell⟩
 ·exact wpAny_Name (wpAny_loadName_local I.ok.kind hk hn hm fin) hd
 ·rcases hk with hk | hk
  ·exact wpAny_Name (wpAny_loadName_cell I.ok.kind hk hc hcell fin) hd
  ·exact wpAny_Name (wpAny_loadName_free I.ok.kind hk hc hcell fin hcd) hd
theorem vR {i j pos}:PE X (.Constant (.int i) j pos) (tC (.int i)):=fun _ _ _ H _ I h=>wpAny_Constant_int ⟨.int i,H,I.tok _,⟨_,rfl⟩,h⟩
theorem Io {b j pos}:PE X (.Constant (.bool b) j pos) (tC (.bl b)):=fun _ _ _ H _ I h=>Constant_bool ⟨.bl b,H,I,rfl,h⟩
theorem DP {j pos}:PE X (.Constant .none j pos) (tC .non):=fun _ _ _ H _ I h=>Constant_none ⟨.non,H,I,rfl,h⟩
theorem DQ {x j pos}:PE X (.Constant (.str x) j pos) (tC (.str x)):=fun _ _ _ H _ I h=>Calls.Constant_str ⟨.str x,H,I.tok _,⟨_,rfl⟩,h⟩
noncomputable def Gl (X:Cx) (x:Str):Prop:=X.env.kindOf x=some .globalImplicit
theorem sC {E:Value->Shared->Prop} {pins:List (Addr × Obj)} {s:Shared} {σ:St} {H:Hp} {x:Str} {u:Value} {pos:Pos} {Q:Value->Shared->Prop} (I:Inv X pins σ H s) (hg:Gl X x) (hm:X.mg x=some u) (h:Q u s)
  (hd:(x == ("__debug__" : Str))=false:=by decide):wpAny (model X.prog X.w) X.A (eval (.Name x pos) X.env) Q E s:=
 Calls.Name_function_global I.ok.kind hg (Calls.loadGlobal_global (by rw [I.ok.glob];exact I.mod.glob.keeps I.bk) hm h) hd
theorem e9 {E:Value->Shared->Prop} {pins:List (Addr × Obj)} {s:Shared} {σ:St} {H:Hp} {x:Str} {u:Value} {pos:Pos} {Q:Value->Shared->Prop} (I:Inv X pins σ H s) (hg:Gl X x) (hm:X.mg x=none) (hv:bootBuiltins x=some u) (h:Q u s)
  (hn:x ≠ "__name__" := by decide) (hd:(x == ("__debug__" : Str))=false:=by decide):wpAny (model X.prog X.w) X.A (eval (.Name x pos) X.env) Q E s:=by
 obtain ⟨mb,h1,h2⟩:=I.mod.blt
 exact Calls.Name_function_global I.ok.kind hg (Calls.loadGlobal_builtin (by rw [I.ok.glob];exact I.mod.glob.keeps I.bk) hm (by rw [I.ok.blt];exact h1.keeps I.bk) ((h2 x hn).trans hv) h) hd
theorem zB {x:Str} {v:V} {u:Value} {pos:Pos} (hg:Gl X x) (hm:X.mg x=some u) (r:aN v u) (hd:(x == ("__debug__" : Str))=false:=by decide):PE X (.Name x pos) (tC v):=
 fun _ _ _ H _ I h=>sC I hg hm ⟨v,H,I,r,h⟩ hd
theorem hR {x:Str} {v:V} {u:Value} {pos:Pos} (hg:Gl X x) (hm:X.mg x=none) (hv:bootBuiltins x=some u) (r:aN v u) (hn:x ≠ "__name__" := by decide) (hd:(x == ("__debug__" : Str))=false:=by decide):PE X (.Name x pos) (tC v):=
 fun _ _ _ H _ I h=>e9 I hg hm hv ⟨v,H,I,r,h⟩ hn hd
variable {a b:Expr} {ta tb:TE} {pos:Pos}
variable {tA tB':TT} {rest:List Expr}
noncomputable def Ip (t u:TT):TT:=fun σ H Q=>t σ H fun c H1=>if c=true then u σ H1 Q else Q false H1
noncomputable def tOr (t u:TT):TT:=fun σ H Q=>t σ H fun c H1=>if c=true then Q true H1 else u σ H1 Q
noncomputable def Iq (t:TT):TT:=fun σ H Q=>t σ H fun c H1=>Q (!c) H1
theorem zC (ha:PT X a tA):PW X (.BoolOp .And [a] pos) tA:=by
 intro wh pins s σ H Q I h
 refine isTrue_and (thn (ha pins s σ H Q I h) fun c s1 e=>?_)
 cases c with
 | true=>exact isTrue_and_nil e
 | false=>exact e
theorem DR (ha:PT X a tA):PW X (.BoolOp .Or [a] pos) tA:=by
 intro wh pins s σ H Q I h
 refine isTrue_or (thn (ha pins s σ H Q I h) fun c s1 e=>?_)
 cases c with
 | false=>exact isTrue_or_nil e
 | true=>exact e
theorem vS (ha:PT X a tA) (hb:PW X (.BoolOp .And (b::rest) pos) tB'):PW X (.BoolOp .And (a::b::rest) pos) (Ip tA tB'):=by
 intro wh pins s σ H Q I h
 refine isTrue_and (thn (ha pins s σ H _ I h) fun c s1 ⟨H1,I1,q1⟩=>?_)
 cases c with
 | true=>exact hb wh pins s1 σ H1 Q I1 q1
 | false=>exact ⟨H1,I1,q1⟩
theorem CZ (ha:PT X a tA) (hb:PW X (.BoolOp .Or (b::rest) pos) tB'):PW X (.BoolOp .Or (a::b::rest) pos) (tOr tA tB'):=by
 intro wh pins s σ H Q I h
 refine isTrue_or (thn (ha pins s σ H _ I h) fun c s1 ⟨H1,I1,q1⟩=>?_)
 cases c with
 | true=>exact ⟨H1,I1,q1⟩
 | false=>exact hb wh pins s1 σ H1 Q I1 q1
theorem DS (ha:PT X a tA):PT X (.UnaryOp .Not a pos) (Iq tA):=by
 intro pins s σ H Q I h
 exact isTrue_not (ha pins s σ H (fun c H1=>Q (!c) H1) I h)
noncomputable def C0 (ta tb:TE):TE:=fun σ H Q=>ta σ H fun x H1=>∃ c,x = .bl c/\if c=true then tb σ H1 Q else Q (.bl false) H1
noncomputable def Ir (ta tb:TE):TE:=fun σ H Q=>ta σ H fun x H1=>∃ c,x = .bl c/\if c=true then Q (.bl true) H1 else tb σ H1 Q
noncomputable def C1 (ta:TE):TE:=fun σ H Q=>ta σ H fun x H1=>∃ c,x = .bl c/\Q (.bl (!c)) H1
theorem vT {op} {t:TE} (h:PE X a t):PE X (.BoolOp op [a] pos) t:=fun pins s σ H Q I hw=>BoolOp_one (h pins s σ H Q I hw)
theorem vU (ha:PE X a ta) (hb:PE X (.BoolOp .And (b::rest) pos) tb):PE X (.BoolOp .And (a::b::rest) pos) (C0 ta tb):=by
 intro pins s σ H Q I h
 refine BoolOp_and (thn (ha pins s σ H _ I h) fun v s1 ⟨x,H1,I1,r1,q1⟩=>?_)
 obtain ⟨c,rfl,q1⟩:=q1
 cases r1
 refine wpAny_truthy_bool ?_
 cases c with
 | true=>exact hb pins s1 σ H1 Q I1 q1
 | false=>exact ⟨.bl false,H1,I1,rfl,q1⟩
theorem C2 (ha:PE X a ta) (hb:PE X (.BoolOp .Or (b::rest) pos) tb):PE X (.BoolOp .Or (a::b::rest) pos) (Ir ta tb):=by
 intro pins s σ H Q I h
 refine BoolOp_or (thn (ha pins s σ H _ I h) fun v s1 ⟨x,H1,I1,r1,q1⟩=>?_)
 obtain ⟨c,rfl,q1⟩:=q1
 cases r1
 refine wpAny_truthy_bool ?_
 cases c with
 | false=>exact hb pins s1 σ H1 Q I1 q1
 | true=>exact ⟨.bl true,H1,I1,rfl,q1⟩
theorem DT (ha:PE X a ta):PE X (.UnaryOp .Not a pos) (C1 ta):=by
 intro pins s σ H Q I h
 refine UnaryOp_ (thn (ha pins s σ H _ I h) fun v s1 ⟨x,H1,I1,r1,q1⟩=>?_)
 obtain ⟨c,rfl,q1⟩:=q1
 cases r1
 exact not_of (wpAny_truthy_bool ⟨.bl (!c),H1,I1,rfl,q1⟩)
end
end L2
namespace L2
open PySem PySem.Spec PyProof.Rows
noncomputable def SqL (K:PySem.W.Frag) (H:Hp) (a:Addr) (xs:List V):Prop:=
 Rd H a (.lst xs) ∨
  ∃ (o:Obj) (its:Array Value) (n:Nat),K.lookup a=some o/\o.cls = .type "list"/\o.dict=none/\o.data = .seq its n/\its.size<=sizeLine/\aP xs its.toList
noncomputable def SqT (K:PySem.W.Frag) (H:Hp) (a:Addr) (xs:List V):Prop:=
 Rd H a (.tup xs) ∨
  ∃ (o:Obj) (its:Array Value) (n:Nat),K.lookup a=some o/\o.cls = .type "tuple"/\o.data = .seq its n/\its.size<=sizeLine/\aP xs its.toList
noncomputable def KU:Value->Option V
 | .none=>some .non
 | .bool b=>some (.bl b)
 | .int i _=>some (.int i)
 | .str x _=>some (.str x)
 | .bytes b _=>some (.byt b)
 | .float b _=>some (.flt b)
 | .ref a=>some (.ref a)
 | .type n=>some (.ty n)
 | _=>none
theorem aN.abs {x:V} {u:Value} (r:aN x u):KU u=some x:=by
 cases x with
 | non=>cases r;rfl
 | bl _=>cases r;rfl
 | int _=>obtain ⟨t,rfl⟩:=r;rfl
 | str _=>obtain ⟨t,rfl⟩:=r;rfl
 | byt _=>obtain ⟨t,rfl⟩:=r;rfl
 | flt _=>obtain ⟨t,rfl⟩:=r;rfl
 | ref _=>cases r;rfl
 | ty _=>cases r;rfl
theorem aN.inj {x y:V} {u:Value} (r:aN x u) (q:aN y u):x=y:=Option.some.inj (r.abs.symm.trans q.abs)
theorem aP.inj:∀ {xs ys:List V} {us:List Value},aP xs us->aP ys us->xs=ys
 | _,_,_,.nil,.nil=>rfl
 | _,_,_,.cons r t,.cons r' t'=>by rw [r.inj r',aP.inj t t']
section
variable {X:Cx} {pins:List (Addr × Obj)} {σ:St} {H:Hp} {s:Shared} {a:Addr} {xs ys:List V}
theorem SqL.of {K:PySem.W.Frag} (h:H a=some (.lst xs)):SqL K H a xs:=.inl (.inl h)
theorem SqT.of {K:PySem.W.Frag} (h:H a=some (.tup xs)):SqT K H a xs:=.inl (.inl h)
theorem Inv.list (I:Inv X pins σ H s) (h:SqL X.K H a xs):∃ its:List Value,aP xs its/\PlainL s.heap a its.toArray/\xs.length<=sizeLine:=by
 rcases h with h | ⟨o,its,n,hk,hc,hd,hs,hz,r⟩
 ·obtain ⟨z,its,n,r,e⟩:=h.ok I.hok
  exact ⟨its,r,⟨_,n,e,rfl,rfl,rfl⟩,z⟩
 ·refine ⟨its.toList,r,⟨o,n,I.kIn a o hk,hc,hd,by simpa using hs⟩,?_⟩
  have e:=r.length
  simp only [Array.length_toList] at e
  omega
theorem Inv.tuple (I:Inv X pins σ H s) (h:SqT X.K H a xs):∃ its:List Value,aP xs its/\IsTup s.heap a its.toArray/\xs.length<=sizeLine:=by
 rcases h with h | ⟨o,its,n,hk,hc,hs,hz,r⟩
 ·obtain ⟨z,its,r,p⟩:=h.ok I.hok
  exact ⟨its,r,p.isTup,z⟩
 ·refine ⟨its.toList,r,⟨o,I.kIn a o hk,hc,n,by simpa using hs⟩,?_⟩
  have e:=r.length
  simp only [Array.length_toList] at e
  omega
theorem Inv.list_inj (I:Inv X pins σ H s) (h:SqL X.K H a xs) (h':SqL X.K H a ys):xs=ys:=by
 obtain ⟨its,r,⟨o,n,e,_,_,d⟩,_⟩:=I.list h
 obtain ⟨its',r',⟨o',n',e',_,_,d'⟩,_⟩:=I.list h'
 rw [e] at e';cases e'
 rw [d] at d'
 injection d' with d1 _
 have:its=its':=by simpa using congrArg Array.toList d1
 subst this
 exact r.inj r'
theorem Inv.tuple_inj (I:Inv X pins σ H s) (h:SqT X.K H a xs) (h':SqT X.K H a ys):xs=ys:=by
 obtain ⟨its,r,⟨o,e,_,n,d⟩,_⟩:=I.tuple h
 obtain ⟨its',r',⟨o',e',_,n',d'⟩,_⟩:=I.tuple h'
 rw [e] at e';cases e'
 rw [d] at d'
 injection d' with d1 _
 have:its=its':=by simpa using congrArg Array.toList d1
 subst this
 exact r.inj r'
end
noncomputable abbrev Cx.wish (X:Cx) (E:Value->Shared->Prop):Cx:={ X with xe:=E }
noncomputable abbrev Cx.nox (X:Cx):Cx:=X.wish fun _ _=>False
theorem Cx.Ok.wish {X:Cx} (ok:X.Ok) (E:Value->Shared->Prop):(X.wish E).Ok:=
 ⟨ok.mod,ok.kind,ok.glob,ok.blt,ok.above,ok.inj,ok.has,ok.cab,ok.hd,ok.frames,ok.stk,ok.exf,ok.bs,ok.bsz,ok.noex,ok.exfs,ok.funs,ok.frf⟩
theorem Cx.Ok.unwish {X:Cx} {E:Value->Shared->Prop} (ok:(X.wish E).Ok):X.Ok:=
 ⟨ok.mod,ok.kind,ok.glob,ok.blt,ok.above,ok.inj,ok.has,ok.cab,ok.hd,ok.frames,ok.stk,ok.exf,ok.bs,ok.bsz,ok.noex,ok.exfs,ok.funs,ok.frf⟩
section
variable {X:Cx} {pins:List (Addr × Obj)} {σ:St} {H:Hp} {s:Shared} {E:Value->Shared->Prop}
theorem Inv.wish (I:Inv X pins σ H s) (E:Value->Shared->Prop):Inv (X.wish E) pins σ H s:=⟨I.ok.wish E,I.os,I.bare,I.base,I.loc,I.cell,I.free,I.freeC,I.pin,I.hok,I.len⟩
theorem Inv.unwish (I:Inv (X.wish E) pins σ H s):Inv X pins σ H s:=⟨I.ok.unwish,I.os,I.bare,I.base,I.loc,I.cell,I.free,I.freeC,I.pin,I.hok,I.len⟩
theorem SP.unwish {D:Ends} {f:Flow} {s':Shared} (h:SP (X.wish E) pins D f s'):SP X pins D f s':=by
 cases f with
 | next=>obtain ⟨σ',H',I,q⟩:=h;exact ⟨σ',H',I.unwish,q⟩
 | brk=>obtain ⟨σ',H',I,q⟩:=h;exact ⟨σ',H',I.unwish,q⟩
 | cont=>obtain ⟨σ',H',I,q⟩:=h;exact ⟨σ',H',I.unwish,q⟩
 | ret u=>obtain ⟨v,σ',H',I,r,q⟩:=h;exact ⟨v,σ',H',I.unwish,r,q⟩
theorem PSs.nox {st:List Stmt} {t:TS} (h:PSs X.nox st t):PSs X st t:=fun pins s σ H D I hw=>
 wpAny_mono (h pins s σ H D (I.wish _) hw) (fun _ _ q=>q.unwish) fun _ _ z=>False.elim z
end
section
variable {X:Cx} {st:Stmt} {rest:List Stmt} {t u:TS} {e:Expr} {te:TE} {pos:Pos}
noncomputable def C3:TS:=fun D σ H=>D.nx σ H
noncomputable def Iu (t u:TS):TS:=fun D σ H=>t { D with nx:=u D } σ H
theorem zD:PSs X [] C3:=fun _ _ σ H _ I h=>wpAny_execs_nil ⟨σ,H,I,h⟩
theorem vV (h1:PS X st t) (h2:PSs X rest u):PSs X (st::rest) (Iu t u):=by
 intro pins s σ H D I h
 refine wpAny_execs_cons (thn (h1 pins s σ H { D with nx:=u D } I h) fun f s1 q=>?_)
 cases f with
 | next=>
  obtain ⟨σ',H',I',q⟩:=q
  exact h2 pins s1 σ' H' D I' q
 | ret v=>exact q
 | brk=>exact q
 | cont=>exact q
noncomputable def C4:TS:=fun D σ H=>D.ct σ H
theorem oD:PS X (.Continue pos) C4:=fun _ _ σ H _ I h=>wpAny_Continue ⟨σ,H,I,h⟩
theorem Inv.quiet {pins:List (Addr × Obj)} {σ:St} {H:Hp} {s:Shared} (I:Inv X pins σ H s):interactive X.env=false:=by simp [interactive,I.ok.kind]
noncomputable def C5 (te:TE):TS:=fun D σ H=>te σ H fun _ H1=>D.nx σ H1
theorem zE (he:PE X e te) (hs:swapsWith e none pos.line X.env=pure false:=by rfl):PS X (.Expr e pos) (C5 te):=by
 intro pins s σ H D I h
 exact wpAny_Expr_any (thn (he pins s σ H _ I h) fun v s1 ⟨x,H1,I1,r1,q1⟩=>⟨σ,H1,I1,q1⟩) I.quiet hs
noncomputable def Iv (te:TE):TS:=fun D σ H=>te σ H D.rt
theorem DU (he:PE X e te):PS X (.Return (some e) pos) (Iv te):=by
 intro pins s σ H D I h
 exact wpAny_Return_some (thn (he pins s σ H _ I h) fun v s1 ⟨x,H1,I1,r1,q1⟩=>⟨x,σ,H1,I1,r1,q1⟩)
noncomputable def Iw (c:TT) (t u:TS):TS:=fun D σ H=>c σ H fun b H1=>if b=true then t D σ H1 else u D σ H1
theorem Ix {c:Expr} {a b:List Stmt} {tc:TT} (hc:PT X c tc) (ha:PSs X a t) (hb:PSs X b u):PS X (.If c a b pos) (Iw tc t u):=by
 intro pins s σ H D I h
 refine wpAny_If (thn (hc pins s σ H _ I h) fun d s1 ⟨H1,I1,q1⟩=>?_)
 cases d with
 | true=>exact ha pins s1 σ H1 D I1 q1
 | false=>exact hb pins s1 σ H1 D I1 q1
noncomputable def DV:TS:=fun _ _ _=>False
theorem vW:PS X st DV:=fun _ _ _ _ _ _ h=>h.elim
end
noncomputable abbrev TG:=V->St->Hp->(St->Hp->Prop)->Prop
noncomputable abbrev TGs:=List V->St->Hp->(St->Hp->Prop)->Prop
noncomputable def PG (X:Cx) (target:Expr) (t:TG):Prop:=
 ∀ (pins:List (Addr × Obj)) (s:Shared) (σ:St) (H:Hp) (v:V) (u:Value) (Q:St->Hp->Prop),Inv X pins σ H s->aN v u->t v σ H Q ->
  wpAny (model X.prog X.w) X.A (assign target X.env u) (fun _ s'=>∃ σ' H',Inv X pins σ' H' s'/\Q σ' H') X.xe s
noncomputable def PGs (X:Cx) (ts:List Expr) (t:TGs):Prop:=
 ∀ (pins:List (Addr × Obj)) (s:Shared) (σ:St) (H:Hp) (vs:List V) (us:List Value) (Q:St->Hp->Prop),Inv X pins σ H s->aP vs us->t vs σ H Q ->
  wpAny (model X.prog X.w) X.A (assignInOrder ((assignEach ts X.env).map (·.2)) us) (fun _ s'=>∃ σ' H',Inv X pins σ' H' s'/\Q σ' H') X.xe s
noncomputable abbrev zF:=V->V->V->Hp->(Hp->Prop)->Prop
noncomputable def DW (X:Cx) (t:zF):Prop:=
 ∀ (pins:List (Addr × Obj)) (s:Shared) (σ:St) (H:Hp) (o i v:V) (ov iv u:Value) (Q:Hp->Prop),Inv X pins σ H s->aN o ov->aN i iv->aN v u->t o i v H Q ->
  wpAny (model X.prog X.w) X.A (setItem ov iv u) (fun _ s'=>∃ H',Inv X pins σ H' s'/\Q H') X.xe s
section
variable {X:Cx} {pos:Pos}
noncomputable def oE (i:Nat):TG:=fun v σ H Q=>Q (σ.set i (some v)) H
theorem zG {i:Nat} {x:Str} (hN:X.N.Nodup) (hi:X.N[i]?=some x) (hx:Loc X.env.scope x) (hf:X.fn x=true\/X.env.scope.names.lookup x=some .local:=by first | exact .inl rfl | exact .inr rfl | assumption):PG X (.Name x pos) (oE i):=by
 intro pins s σ H v u Q I r h
 exact wpAny_assign_Name (cI I hN hi hx r (fun s' I'=>⟨_,H,I',h⟩) hf)
noncomputable def Iy:TGs:=fun vs σ H Q=>vs=[]/\Q σ H
noncomputable def C6 (t:TG) (u:TGs):TGs:=fun vs σ H Q=>∃ v r,vs=v::r/\t v σ H fun σ' H'=>u r σ' H' Q
theorem zH:PGs X [] Iy:=by
 intro pins s σ H vs us Q I r h
 obtain ⟨e,h⟩:=h
 subst e
 cases r
 exact assignInOrder_nil ⟨σ,H,I,h⟩
theorem vX {e:Expr} {es:List Expr} {t:TG} {u:TGs} (h1:PG X e t) (h2:PGs X es u)
  (hs:(assignEach (e::es) X.env).map (·.2)=assign e X.env::(assignEach es X.env).map (·.2):=by rfl):PGs X (e::es) (C6 t u):=by
 intro pins s σ H vs us Q I r h
 obtain ⟨v,vr,e1,h⟩:=h
 subst e1
 cases r with
 | cons r rr=>
  rw [hs]
  refine assignInOrder_cons (thn (h1 pins s σ H _ _ _ I r h) fun _ s1 ⟨σ1,H1,I1,q1⟩=>?_)
  exact h2 pins s1 σ1 H1 _ _ Q I1 rr q1
noncomputable def Iz (K:PySem.W.Frag) (n:Nat) (t:TGs):TG:=fun v σ H Q=>∃ a xs,v = .ref a/\SqT K H a xs/\xs.length=n/\t xs σ H Q
theorem DX {es:List Expr} {k:Nat} {t:TGs} {n:Nat} (hc:X.calm=true) (h:PGs X es t)
  (hn:(assignEach es X.env).length=n:=by rfl) (hst:(assignEach es X.env).findIdx? (·.1)=none:=by rfl):PG X (.Tuple es k pos) (Iz X.K n t):=by
 intro pins s σ H v u Q I r hw
 obtain ⟨a,xs,e1,hq,hl,hw⟩:=hw
 subst e1
 cases r
 obtain ⟨its,rv,ht,hz⟩:=I.tuple hq
 refine assign_Tuple_tuple (I.ok.hd hc) ht (by simp [hn,<-hl,rv.length]) hst fun h' hx=>?_
 have I1:Inv X pins σ H { s with heap:=h' }:=I.kept (t':=s.toks) fun b o e=>hx b o (Nat.ne_of_lt (Heap.lt_size e)) e
 exact h pins _ σ H xs _ Q I1 (by simpa using rv) hw
noncomputable def IA (to ti:TE) (t:zF):TG:=fun v σ H Q=>to σ H fun o H1=>ti σ H1 fun i H2=>t o i v H2 fun H3=>Q σ H3
theorem DY {o i:Expr} {to ti:TE} {t:zF} (ho:PE X o to) (hi:PE X i ti) (hs:DW X t)
  (ha:∀ v,assign (.Subscript o i pos) X.env v=(do
   let ov <-holding [v] (eval o X.env)
   let iv <-holding [v,ov] (eval i X.env)
   standAt pos
   holding [v,ov,iv] (setItem ov iv v)
   release [v,ov,iv] []):=by intro _;rfl):PG X (.Subscript o i pos) (IA to ti t):=by
 intro pins s σ H v u Q I r h
 rw [ha]
 refine wpAny_bind (wpAny_holding (thn (ho pins s σ H _ I h) fun ov s1 ⟨x,H1,I1,r1,q1⟩=>?_))
 refine wpAny_bind (wpAny_holding (thn (hi pins s1 σ H1 _ I1 q1) fun iv s2 ⟨y,H2,I2,r2,q2⟩=>?_))
 refine wpAny_bind (wpAny_standAt (wpAny_bind (wpAny_holding (thn (hs pins s2 σ H2 x y v ov iv u _ I2 r1 r2 r q2) fun _ s3 ⟨H3,I3,q3⟩=>?_))))
 exact wpAny_release ⟨σ,H3,I3,q3⟩
noncomputable def vY (te:TE) (g:TG):TS:=fun D σ H=>te σ H fun x H1=>g x σ H1 D.nx
theorem vZ {tg e:Expr} {te:TE} {g:TG} (he:PE X e te) (hg:PG X tg g) (hs:swapsWithSole [tg] e pos.line X.env=pure false:=by rfl) (hw:swappedStores [tg] e X.env=pure none:=by rfl)
  (h1:(assignEach [tg] X.env).map (·.2)=[assign tg X.env]:=by rfl):PS X (.Assign [tg] e pos) (vY te g):=by
 intro pins s σ H D I h
 refine wpAny_Assign_stores (thn (he pins s σ H _ I h) fun v s1 ⟨x,H1,I1,r1,q1⟩=>?_) hs hw
 rw [h1]
 exact thn (hg pins s1 σ H1 x v _ I1 r1 q1) fun _ s2 q=>q
theorem DZ {i:Nat} {x:Str} {e:Expr} {te:TE} {pos':Pos} (hN:X.N.Nodup) (hi:X.N[i]?=some x) (hx:Loc X.env.scope x) (he:PE X e te) (hs:swapsWith e (some (.Name x pos')) pos.line X.env=pure false:=by rfl) (hf:X.fn x=true\/X.env.scope.names.lookup x=some .local:=by first | exact .inl rfl | exact .inr rfl | assumption) :
  PS X (.Assign [.Name x pos'] e pos) (vY te (oE i)):=by
 intro pins s σ H D I h
 refine wpAny_Assign_Name (thn (he pins s σ H _ I h) fun v s1 ⟨y,H1,I1,r1,q1⟩=>?_) hs
 exact cI I1 hN hi hx r1 (fun s2 I2=>⟨_,H1,I2,q1⟩) hf
noncomputable def IB (i j:Nat) (ta:TA):TS:=fun D σ H=>ta σ H fun vs H1=>∃ v w,vs=[v,w]/\D.nx ((σ.set i (some v)).set j (some w)) H1
theorem D0 {i j:Nat} {x y:Str} {a b:Expr} {ta:TA} {px py pt:Pos} {kt k2 pt2} (hc:X.calm=true) (hN:X.N.Nodup) (hi:X.N[i]?=some x) (hj:X.N[j]?=some y) (hij:i ≠ j)
  (hx:X.env.scope.names.lookup x=some .local) (hy:X.env.scope.names.lookup y=some .local) (ha:PA X [a,b] ta)
  (hw:swappedStores [.Tuple [.Name x px,.Name y py] kt pt] (.Tuple [a,b] k2 pt2) X.env=pure (some [x,y]))
  (hs:swapsWithSole [.Tuple [.Name x px,.Name y py] kt pt] (.Tuple [a,b] k2 pt2) pos.line X.env=pure false:=by rfl) :
  PS X (.Assign [.Tuple [.Name x px,.Name y py] kt pt] (.Tuple [a,b] k2 pt2) pos) (IB i j ta):=by
 intro pins s σ H D I h
 rw [exec_Assign_arm]
 refine wpAny_bind (wpAny_standAt ?_)
 rw [hs]
 refine wpAny_bind (wpAny_pure ?_)
 rw [if_neg (by decide)]
 refine wpAny_bind (Tuple_ (thn (ha _ pins s σ H _ I h) fun us s1 ⟨vs,H1,I1,r1,q1⟩=>?_))
 obtain ⟨v,w,e1,q1⟩:=q1
 subst e1
 obtain ⟨u1,u2,rfl,rv,rw'⟩:∃ u1 u2,us=[u1,u2]/\aN v u1/\aN w u2:=by
  cases r1 with
  | cons p q=>
   cases q with
   | cons p' q'=>
    cases q'
    exact ⟨_,_,rfl,p,p'⟩
 refine wpAny_newObj_type ?_ (by show 2<=sizeLine;decide)
 have I2:Inv X pins σ H1 { s1 with heap:=s1.heap.push { cls:=.type "tuple", data:=.seq [u1,u2].toArray } }:=I1.kept (t':=s1.toks) fun b o e=>Heap.get?_push_of_some _ e
 rw [hw]
 refine wpAny_bind (wpAny_pure ?_)
 show wpAny (model X.prog X.w) X.A (do rule "assign.swapped-stores"; let items <-unpackItems (.ref s1.heap.objs.size) 2 none;assignInOrder [fun v=>bindName X.env y v,fun v=>bindName X.env x v] items.reverse;pure Flow.next) _ _ _
 refine wpAny_bind (wpAny_rule (wpAny_bind (unpackItems_tuple (items:=#[u1,u2]) (I.ok.hd hc) (IsTup.new s1.heap _) fun h' hx'=>?_)))
 have I3:=I2.kept (h':=h') (t':=s1.toks) fun b o e=>hx' b o (Nat.ne_of_lt (Heap.lt_size e)) e
 show wpAny _ _ (assignInOrder [fun v=>bindName X.env y v,fun v=>bindName X.env x v] [u2,u1] >>= fun _=>pure Flow.next) _ _ _
 refine wpAny_bind (assignInOrder_cons (wpAny_bindName (cI I3 hN hj (.inl hy) rw' (fun s2 I4=>?_) (.inr hy))))
 refine assignInOrder_cons (wpAny_bindName (cI I4 hN hi (.inl hx) rv (fun s3 I5=>assignInOrder_nil (wpAny_pure ?_)) (.inr hx)))
 rw [List.set_comm _ _ (Ne.symm hij)] at I5
 exact ⟨_,H1,I5,q1⟩
end
structure It where
 go:Nat->Hp->Prop
 yld:Nat->Hp->V->Hp->Prop
 stop:Nat->Hp->Prop
noncomputable def fZ (X:Cx) (pins:List (Addr × Obj)) (H:Hp) (b:Addr):Prop:=
 H b=none/\b ≠ X.env.locals/\b ∉ X.fs/\(b ∈ X.ex\/X.s₀.heap.objs.size<=b)/\(∀ x c,X.env.cells.lookup x=some c->c ≠ b)/\∀ p ∈ X.pn++pins,p.1 ≠ b
theorem Inv.fpOk {X:Cx} {pins:List (Addr × Obj)} {σ:St} {H H':Hp} {s:Shared} {b:Addr} (I:Inv X pins σ H s) (hb:s.heap.objs.size<=b) (hn:H' b=none):fZ X pins H' b:=by
 refine ⟨hn,Nat.ne_of_gt (Nat.lt_of_lt_of_le I.lt hb),I.nofs hb,.inr (Nat.le_trans I.sz hb),fun x c e z=>?_,fun p hp z=>?_⟩
 ·obtain ⟨v,q⟩:=I.cell x c e
  exact absurd (Nat.lt_of_lt_of_le q.lt (by rw [z];exact hb)) (Nat.lt_irrefl _)
 ·exact absurd (Nat.lt_of_lt_of_le (Heap.lt_size (I.pin p hp).1) (by rw [z];exact hb)) (Nat.lt_irrefl _)
structure jM (P:Program) (w:World) (K:PySem.W.Frag) (tg:Expr) (J:It) (fp:List Addr) (it:Addr) (tn:Nat->Heap->Prop):Prop where
 mem:it ∈ fp
 obj:∀ i h,tn i h->∀ b ∈ fp,∃ o,h.get? b=some o/\∀ v,o.data ≠ .cell v
 keep:∀ i h h',tn i h->(∀ b ∈ fp,∀ o,h.get? b=some o->h'.get? b=some o)->tn i h'
 item:∀ (X:Cx),X.prog=P->X.w=w->X.K=K->X.calm=true->∀ (i:Nat) (pins:List (Addr × Obj)) (s:Shared) (σ:St) (H:Hp) (E:Value->Shared->Prop),Inv X pins σ H s->(∀ b ∈ fp,fZ X pins H b)->tn i s.heap->J.go i H ->
  wpAny (model P w) X.A (pyNext (.ref it)) (fun r s1=>∃ u,r=some u ∧
   wpAny (model P w) X.A (letOwnedTupleGo tg (.ref it) u) (fun _ s2=>∃ x H',Inv X pins σ H' s2/\aN x u/\J.yld i H x H'/\tn (i+1) s2.heap/\∀ b ∈ fp,H' b=none) E s1) E s
 done:∀ (X:Cx),X.prog=P->X.w=w->X.K=K->X.calm=true->∀ (i:Nat) (pins:List (Addr × Obj)) (s:Shared) (σ:St) (H:Hp) (E:Value->Shared->Prop),Inv X pins σ H s->(∀ b ∈ fp,fZ X pins H b)->tn i s.heap->J.stop i H ->
  wpAny (model P w) X.A (pyNext (.ref it)) (fun r s1=>r=none/\Inv X pins σ H s1) E s
 self:∀ (A:Around) (i:Nat) (s:Shared) (Q:Value->Shared->Prop) (E:Value->Shared->Prop),tn i s.heap->Q (.ref it) s->wpAny (model P w) A (pyIter (.ref it)) Q E s
noncomputable abbrev TI:=St->Hp->(It->Hp->Prop)->Prop
noncomputable def PIE (X:Cx) (pins:List (Addr × Obj)) (σ:St) (tg:Expr) (R:It->Hp->Prop) (itv:Value) (s2:Shared):Prop:=
 ∃ (it:Addr) (fp:List Addr) (tn:Nat->Heap->Prop) (J:It) (H':Hp),itv = .ref it/\Inv X pins σ H' s2/\jM X.prog X.w X.K tg J fp it tn/\tn 0 s2.heap/\(∀ b ∈ fp,fZ X pins H' b)/\R J H'
noncomputable def PI (X:Cx) (tg iter:Expr) (wi:TI):Prop:=
 ∀ (pins:List (Addr × Obj)) (s:Shared) (σ:St) (H:Hp) (R:It->Hp->Prop),Inv X pins σ H s->wi σ H R ->
  wpAny (model X.prog X.w) X.A (eval iter X.env) (fun v s1=>wpAny (model X.prog X.w) X.A (pyIter v) (PIE X pins σ tg R) X.xe s1) X.xe s
theorem v5 {M:Model} {A:Around} {E:Value->Shared->Prop} {s:Shared} {tg:Expr} {it:Addr} {u:Value} {o:Obj} {n:String} {vs:Array Value} {Q:Unit->Shared->Prop} (ho:s.heap.get? it=some o) (hc:o.cls = .type n) (hd:o.data = .fields vs)
  (hn:["enumerate", "zip", "dict_itemiterator", "dict_reverseitemiterator", "odict_iterator", "itertools.zip_longest", "itertools.pairwise"].contains n=false) (hQ:Q () s):wpAny M A (letOwnedTupleGo tg (.ref it) u) Q E s:=by
 unfold letOwnedTupleGo
 cases tg <;> first
  | exact wpAny_pure hQ
  | (cases u <;> first
    | exact wpAny_pure hQ
    | (refine wpAny_bind (wpAny_load ho ?_)
       rw [hc,hd]
       show wpAny M A (if (["enumerate", "zip", "dict_itemiterator", "dict_reverseitemiterator", "odict_iterator", "itertools.zip_longest", "itertools.pairwise"].contains n && vs[0]? == some (rawInt _))=true then _ else _) Q E s
       rw [if_neg (by intro h;rw [hn,Bool.false_and] at h;cases h)]
       exact wpAny_pure hQ))
noncomputable def Itl (K:PySem.W.Frag) (a:Addr):It:=
 ⟨fun i H=>∃ xs x,SqL K H a xs/\xs[i]?=some x,fun i H x H'=>H'=H/\∀ xs,SqL K H a xs->xs[i]?=some x,fun i H=>∃ xs,SqL K H a xs/\xs.length<=i⟩
noncomputable def Itt (K:PySem.W.Frag) (a:Addr):It:=
 ⟨fun i H=>∃ xs x,SqT K H a xs/\xs[i]?=some x,fun i H x H'=>H'=H/\∀ xs,SqT K H a xs->xs[i]?=some x,fun i H=>∃ xs,SqT K H a xs/\xs.length<=i⟩
noncomputable def Itr (lo:Int) (n:Nat):It:=⟨fun i _=>i < n,fun i H x H'=>H'=H/\x = .int (lo+i),fun i _=>n<=i⟩
theorem uh {P:Program} {w:World} {K:PySem.W.Frag} {tg:Expr} (a it:Addr):jM P w K tg (Itl K a) [it] it (fun i h=>h.IsListIter it a i) where
 mem:=by simp
 obj:=fun i h st b hb=>by
  have e:b=it:=by simpa using hb
  subst e
  obtain ⟨o,e,c,d⟩:=st
  exact ⟨o,e,fun v z=>by rw [d] at z;cases z⟩
 keep:=fun i h h' st k=>st.at fun o e=>k it (by simp) o e
 item:=by
  intro X hP hw hK hc i pins s σ H E I hf st hg
  subst hP hw hK
  obtain ⟨xs,x,hq,hx⟩:=hg
  obtain ⟨its,rv,p,hz⟩:=I.list hq
  obtain ⟨u,hu,ru⟩:=rv.get hx
  obtain ⟨f0,f1,f2,f3,f4,f5⟩:=hf it (by simp)
  refine wpAny_pyNext_list_item st p.isList (x:=u) (by simpa using hu) fun h' st' sb=>?_
  have I1:Inv X pins σ H { s with heap:=h' }:=I.turned (t':=s.toks) (fun b o hb e=>(sb.2 b hb).trans e) f0 f1 f3 f4 f5
  obtain ⟨o,e,c,d⟩:=id st'
  exact ⟨u,rfl,v5 (s:={ s with heap:=h' }) e c d (by decide) ⟨x,H,I1,ru,⟨rfl,fun ys hy=>by rw [I.list_inj hy hq];exact hx⟩,st',fun b hb=>(hf b hb).1⟩⟩
 done:=by
  intro X hP hw hK hc i pins s σ H E I hf st hg
  subst hP hw hK
  obtain ⟨xs,hq,hx⟩:=hg
  obtain ⟨its,rv,p,hz⟩:=I.list hq
  obtain ⟨f0,f1,f2,f3,f4,f5⟩:=hf it (by simp)
  have hl:=rv.length
  exact wpAny_pyNext_list_end (I.ok.hd hc) st p.isList (by simp;omega) fun h' eb=>⟨rfl,I.turned (t':=s.toks) (fun b o hb e=>eb b o hb e) f0 f1 f3 f4 f5⟩
 self:=fun _ _ _ _ _ st h=>wpAny_pyIter_listiter st h
theorem qt {P:Program} {w:World} {K:PySem.W.Frag} {tg:Expr} (a it:Addr):jM P w K tg (Itt K a) [it] it (fun i h=>h.IsTupleIter it a i) where
 mem:=by simp
 obj:=fun i h st b hb=>by
  have e:b=it:=by simpa using hb
  subst e
  obtain ⟨o,e,c,d⟩:=st
  exact ⟨o,e,fun v z=>by rw [d] at z;cases z⟩
 keep:=fun i h h' st k=>st.at fun o e=>k it (by simp) o e
 item:=by
  intro X hP hw hK hc i pins s σ H E I hf st hg
  subst hP hw hK
  obtain ⟨xs,x,hq,hx⟩:=hg
  obtain ⟨its,rv,p,hz⟩:=I.tuple hq
  obtain ⟨u,hu,ru⟩:=rv.get hx
  obtain ⟨f0,f1,f2,f3,f4,f5⟩:=hf it (by simp)
  refine wpAny_pyNext_tuple_item st (show s.heap.IsTuple a its.toArray from p) (x:=u) (by simpa using hu) fun h' st' sb=>?_
  have I1:Inv X pins σ H { s with heap:=h' }:=I.turned (t':=s.toks) (fun b o hb e=>(sb.2 b hb).trans e) f0 f1 f3 f4 f5
  obtain ⟨o,e,c,d⟩:=id st'
  exact ⟨u,rfl,v5 (s:={ s with heap:=h' }) e c d (by decide) ⟨x,H,I1,ru,⟨rfl,fun ys hy=>by rw [I.tuple_inj hy hq];exact hx⟩,st',fun b hb=>(hf b hb).1⟩⟩
 done:=by
  intro X hP hw hK hc i pins s σ H E I hf st hg
  subst hP hw hK
  obtain ⟨xs,hq,hx⟩:=hg
  obtain ⟨its,rv,p,hz⟩:=I.tuple hq
  obtain ⟨f0,f1,f2,f3,f4,f5⟩:=hf it (by simp)
  have hl:=rv.length
  exact wpAny_pyNext_tuple_end (I.ok.hd hc) st (show s.heap.IsTuple a its.toArray from p) (by simp;omega) fun h' eb=>⟨rfl,I.turned (t':=s.toks) (fun b o hb e=>eb b o hb e) f0 f1 f3 f4 f5⟩
 self:=fun _ _ _ _ _ st h=>wpAny_pyIter_tupleiter st h
theorem qu {P:Program} {w:World} {K:PySem.W.Frag} {tg:Expr} (it:Addr) (lo:Int) (n:Nat):jM P w K tg (Itr lo n) [it] it (fun i h=>IsRangeIter h it (lo+(i:Nat) * 1) ((n:Int) - (i:Nat)) 1) where
 mem:=by simp
 obj:=fun i h st b hb=>by
  have e:b=it:=by simpa using hb
  subst e
  exact ⟨_,st,fun v z=>by
   have z':Data.fields _=Data.cell v:=z
   cases z'⟩
 keep:=fun i h h' st k=>k it (by simp) _ st
 item:=by
  intro X hP hw hK hc i pins s σ H E I hf st hg
  subst hP hw hK
  obtain ⟨f0,f1,f2,f3,f4,f5⟩:=hf it (by simp)
  have W:=Walks.range (prog:=X.prog) (w:=X.w) (I.ok.hd hc) it lo 1 n
  refine W.item i s _ _ hg st fun v h' tk hv st' kk=>?_
  obtain ⟨t,rfl⟩:=hv
  have I1:Inv X pins σ H { s with heap:=h',toks:=tk }:=I.turned (fun b o hb e=>kk b o (by simpa using hb) e) f0 f1 f3 f4 f5
  refine ⟨_,rfl,v5 (s:={ s with heap:=h',toks:=tk }) (n := "range_iterator") st' rfl rfl (by decide) ⟨.int (lo+i),H,I1,⟨t,?_⟩,⟨rfl,rfl⟩,st',fun b hb=>(hf b hb).1⟩⟩
  rw [Int.mul_one]
 done:=by
  intro X hP hw hK hc i pins s σ H E I hf st hg
  subst hP hw hK
  obtain ⟨f0,f1,f2,f3,f4,f5⟩:=hf it (by simp)
  exact wpAny_pyNext_range_end (I.ok.hd hc) st (by have:n<=i:=hg;omega) fun h' eb=>⟨rfl,I.turned (t':=s.toks) (fun b o hb e=>eb b o hb e) f0 f1 f3 f4 f5⟩
 self:=fun _ _ _ _ _ st h=>wpAny_pyIter_rangeiter st h
end L2
namespace L2
open PySem PySem.Spec PyProof.Rows
section
variable {X:Cx} {tg:Expr}
noncomputable def v7 (K:PySem.W.Frag) (tl:TE):TI:=fun σ H R=>tl σ H fun x H1=>∃ a,x = .ref a/\(∃ xs,SqL K H1 a xs)/\R (Itl K a) H1
noncomputable def IC (K:PySem.W.Frag) (tl:TE):TI:=fun σ H R=>tl σ H fun x H1=>∃ a,x = .ref a/\(∃ xs,SqT K H1 a xs)/\R (Itt K a) H1
theorem sD {l:Expr} {tl:TE} (hl:PE X l tl):PI X tg l (v7 X.K tl):=by
 intro pins s σ H R I h
 refine thn (hl pins s σ H _ I h) fun v s1 ⟨x,H1,I1,r1,q1⟩=>?_
 obtain ⟨a,e,⟨xs,hq⟩,q⟩:=q1
 subst e
 cases r1
 obtain ⟨its,rv,p,hz⟩:=I1.list hq
 refine wpAny_pyIter_list p.isList ?_
 refine ⟨s1.heap.objs.size,[s1.heap.objs.size],_,_,H1,rfl,I1.kept (t':=s1.toks) fun b o e=>Heap.get?_push_of_some _ e,uh a _,⟨_,Heap.get?_push_size _ rfl,rfl,rfl⟩,fun b hb=>?_,q⟩
 have e:b=s1.heap.objs.size:=by simpa using hb
 subst e
 exact I1.fpOk (Nat.le_refl _) (I1.hok.fresh (Nat.le_refl _))
theorem D1 {l:Expr} {tl:TE} (hl:PE X l tl):PI X tg l (IC X.K tl):=by
 intro pins s σ H R I h
 refine thn (hl pins s σ H _ I h) fun v s1 ⟨x,H1,I1,r1,q1⟩=>?_
 obtain ⟨a,e,⟨xs,hq⟩,q⟩:=q1
 subst e
 cases r1
 obtain ⟨its,rv,p,hz⟩:=I1.tuple hq
 refine wpAny_pyIter_tuple (show s1.heap.IsTuple a its.toArray from p) ?_
 refine ⟨s1.heap.objs.size,[s1.heap.objs.size],_,_,H1,rfl,I1.kept (t':=s1.toks) fun b o e=>Heap.get?_push_of_some _ e,qt a _,⟨_,Heap.get?_push_size _ rfl,rfl,rfl⟩,fun b hb=>?_,q⟩
 have e:b=s1.heap.objs.size:=by simpa using hb
 subst e
 exact I1.fpOk (Nat.le_refl _) (I1.hok.fresh (Nat.le_refl _))
theorem oG {pins:List (Addr × Obj)} {σ:St} {H:Hp} {s:Shared} {R:It->Hp->Prop} {E:Value->Shared->Prop} {lo hi:Int} {t u v:Tok} {tk:Nat} (I:Inv X pins σ H s) (h1:-(2 ^ 62)<=lo) (h2:lo < 2 ^ 62) (h3:-(2 ^ 62)<=hi) (h4:hi < 2 ^ 62)
  (q:R (Itr lo (hi - lo).toNat) H):wpAny (model X.prog X.w) X.A (pyIter (.ref s.heap.objs.size)) (PIE X pins σ tg R) E { s with heap:=s.heap.push { cls:=.type "range", data:=.fields #[.int lo t,.int hi u,.int 1 v] },toks:=tk }:=by
 refine wpAny_pyIter_range (IsRange.new ..) (small_one h1 h2 h3 h4) ?_
 have I1:Inv X pins σ H { s with heap:=s.heap.push { cls:=.type "range", data:=.fields #[.int lo t,.int hi u,.int 1 v] },toks:=tk }:=I.kept fun b o e=>Heap.get?_push_of_some _ e
 refine ⟨(s.heap.push { cls:=.type "range", data:=.fields #[.int lo t,.int hi u,.int 1 v] }).objs.size,[(s.heap.push { cls:=.type "range", data:=.fields #[.int lo t,.int hi u,.int 1 v] }).objs.size],_,_,H,rfl,
  I1.kept (t':=tk) fun b o e=>Heap.get?_push_of_some _ e,qu _ lo (hi - lo).toNat,?_,fun b hb=>?_,q⟩
 ·have e1:lo+((0:Nat):Int) * 1=lo:=by simp
  have e2:(((hi - lo).toNat:Nat):Int) - ((0:Nat):Int)=Builtin.Range.rangeSize lo hi 1:=by rw [rangeSize_one];split <;> omega
  show IsRangeIter _ _ (lo+((0:Nat):Int) * 1) ((((hi - lo).toNat:Nat):Int) - ((0:Nat):Int)) 1
  rw [e1,e2]
  exact Heap.get?_push_size _ rfl
 ·have e:b=(s.heap.push { cls:=.type "range", data:=.fields #[.int lo t,.int hi u,.int 1 v] }).objs.size:=by simpa using hb
  subst e
  exact I1.fpOk (Nat.le_refl _) (I1.hok.fresh (Nat.le_refl _))
noncomputable def C7 (ta:TA):TI:=fun σ H R=>ta σ H fun vs H1=>∃ j:Int,vs=[.int j]/\-(2 ^ 62)<=j/\j < 2 ^ 62/\R (Itr 0 j.toNat) H1
noncomputable def C8 (ta:TA):TI:=fun σ H R=>ta σ H fun vs H1=>∃ i j:Int,vs=[.int i,.int j]/\(-(2 ^ 62)<=i/\i < 2 ^ 62/\-(2 ^ 62)<=j/\j < 2 ^ 62)/\R (Itr i (j - i).toNat) H1
theorem ui {a:Expr} {ta:TA} {p pos:Pos} (hg:Gl X "range") (hm:X.mg "range" = none) (ha:PA X [a] ta) (hs:starEach [a] X.env=[(false,eval a X.env)]:=by rfl):PI X tg (.Call (.Name "range" p) [a] [] pos) (C7 ta):=by
 intro pins s σ H R I h
 refine Call_ (e9 I hg hm boot_range (PyProof.Rows.callWith_type1 (thn (ha pos pins s σ H _ I h) fun us s1 ⟨vs,H1,I1,r1,q1⟩=>?_) hs rfl))
 obtain ⟨j,e,q1,q2,q⟩:=q1
 subst e
 cases r1 with
 | cons r rr=>
  cases rr
  obtain ⟨t,rfl⟩:=r
  exact call_range_1 (oG I1 (by omega) (by omega) q1 q2 (by simpa using q))
theorem uj {a b:Expr} {ta:TA} {p pos:Pos} (hg:Gl X "range") (hm:X.mg "range" = none) (ha:PA X [a,b] ta) (hs:starEach [a,b] X.env=[(false,eval a X.env),(false,eval b X.env)]:=by rfl) (hs2:starEach [b] X.env=[(false,eval b X.env)]:=by rfl) :
  PI X tg (.Call (.Name "range" p) [a,b] [] pos) (C8 ta):=by
 intro pins s σ H R I h
 refine Call_ (e9 I hg hm boot_range (PyProof.Rows.callWith_type1 (thn (ha pos pins s σ H _ I h) fun us s1 ⟨vs,H1,I1,r1,q1⟩=>?_) (by rw [hs,hs2]) (by rw [hs2];rfl)))
 obtain ⟨i,j,e,⟨q1,q2,q3,q4⟩,q⟩:=q1
 subst e
 cases r1 with
 | cons r rr=>
  cases rr with
  | cons r' rr=>
   cases rr
   obtain ⟨t,rfl⟩:=r
   obtain ⟨t',rfl⟩:=r'
   exact call_range_2 (oG I1 q1 q2 q3 q4 q)
noncomputable def IE (wi:TI) (g:TG) (tb:TS):TS:=fun D σ H=>wi σ H fun J H1=>∃ W:Nat->Nat->St->Hp->Prop,(∃ m,W 0 m σ H1)/\∀ i m σ H,W i m σ H ->
 (J.stop i H/\D.nx σ H)\/(J.go i H/\∃ N:St->Hp->Prop,(∀ σ' H',N σ' H'->∃ m',m' < m/\W (i+1) m' σ' H')/\∀ x H',J.yld i H x H'->g x σ H' fun σ2 H2=>tb { D with nx:=N,ct:=N,bk:=D.nx } σ2 H2)
noncomputable def jZ (fp:List Addr) (h:Heap):List (Addr × Obj):=fp.filterMap fun b=>(h.get? b).map fun o=>(b,o)
theorem dR {fp:List Addr} {h:Heap} {b:Addr} {o:Obj} (hb:b ∈ fp) (e:h.get? b=some o):(b,o) ∈ jZ fp h:=List.mem_filterMap.mpr ⟨b,hb,by rw [e];rfl⟩
theorem uk {fp:List Addr} {h:Heap} {p:Addr × Obj} (hp:p ∈ jZ fp h):p.1 ∈ fp/\h.get? p.1=some p.2:=by
 obtain ⟨b,hb,e⟩:=List.mem_filterMap.mp hp
 cases q:h.get? b with
 | none=>rw [q] at e;cases e
 | some o=>
  rw [q] at e
  have e':(b,o)=p:=Option.some.inj e
  subst e'
  exact ⟨hb,q⟩
theorem Inv.pinned {pins:List (Addr × Obj)} {σ:St} {H:Hp} {s:Shared} {fp:List Addr} (I:Inv X pins σ H s) (hf:∀ b ∈ fp,fZ X pins H b) (ho:∀ b ∈ fp,∃ o,s.heap.get? b=some o/\∀ v,o.data ≠ .cell v):Inv X (pins++jZ fp s.heap) σ H s:=
 I.pins_of fun p hp=>(List.mem_append.mp hp).elim (fun z=>I.pin p (List.mem_append_right _ z)) fun z=>by
  obtain ⟨hb,e⟩:=uk z
  obtain ⟨f0,f1,f2,_⟩:=hf p.1 hb
  obtain ⟨o,e',d⟩:=ho p.1 hb
  rw [e] at e';cases e'
  exact ⟨e,f0,f1,f2,d⟩
theorem Inv.unpinned {pins pl:List (Addr × Obj)} {σ:St} {H:Hp} {s:Shared} (I:Inv X (pins++pl) σ H s):Inv X pins σ H s:=I.pins_of fun p hp=>I.pin p (List.mem_append_right _ (List.mem_append_left _ hp))
theorem D2 {iter:Expr} {body:List Stmt} {wi:TI} {g:TG} {tb:TS} {pos:Pos} (hp:PassesOwn (model X.prog X.w) X.A X.env X.xe) (hc:X.calm=true) (hi:PI X tg iter wi) (hg:PG X tg g) (hb:PSs X body tb)
  (hs:∀ x,foldedSetIterable iter X.env x=pure x:=by intro _;rfl):PS X (.For tg iter body [] pos) (IE wi g tb):=by
 intro pins s σ H D I h
 refine wpAny_For (thn (hi pins s σ H _ I h) fun v s1 h1=>thn h1 fun itv s2 h2=>?_) hs
 obtain ⟨it,fp,tn,J,H2,e,I2,T,st2,f2,W,⟨m0,w0⟩,turn⟩:=h2
 subst e
 have stat:∀ {H':Hp},(∀ b ∈ fp,H' b=none)->∀ b ∈ fp,fZ X pins H' b:=fun hn b hb=>⟨hn b hb,(f2 b hb).2⟩
 refine codeAny_forLoop_any (fun n s'=>∃ i σ' H',Inv X pins σ' H' s'/\tn i s'.heap/\(∀ b ∈ fp,H' b=none)/\W i n σ' H') ?_ m0 ⟨0,σ,H2,I2,st2,fun b hb=>(f2 b hb).1,w0⟩
 rintro n s3 ⟨i,σ3,H3,I3,st3,fr3,w3⟩
 rcases turn i n σ3 H3 w3 with ⟨stop,qn⟩ | ⟨go,N,hN,step⟩
 ·refine wpAny_passesOwn hp (thn (T.done X rfl rfl rfl hc i pins s3 σ3 H3 X.xe I3 (stat fr3) st3 stop) fun r s4 ⟨hr,I4⟩=>?_)
  subst hr
  exact wpAny_execs_nil ⟨σ3,H3,I4,qn⟩
 ·refine wpAny_passesOwn hp (thn (T.item X rfl rfl rfl hc i pins s3 σ3 H3 X.xe I3 (stat fr3) st3 go) fun r s4 ⟨u,hr,h4⟩=>?_)
  subst hr
  refine wpAny_passesOwn hp (thn h4 fun _ s5 ⟨x,H5,I5,r5,y5,st5,fr5⟩=>?_)
  have I5':=I5.pinned (stat fr5) (T.obj _ _ st5)
  refine wpAny_passesOwn hp (thn (hg _ s5 σ3 H5 x u _ I5' r5 (step x H5 y5)) fun _ s6 ⟨σ6,H6,I6,q6⟩=>?_)
  refine wpAny_passesOwn hp (thn (hb _ s6 σ6 H6 _ I6 q6) fun f s7 q7=>?_)
  have again:∀ {σ7:St} {H7:Hp},Inv X (pins++jZ fp s5.heap) σ7 H7 s7->N σ7 H7->∃ m,m < n/\∃ i σ' H',Inv X pins σ' H' s7/\tn i s7.heap/\(∀ b ∈ fp,H' b=none)/\W i m σ' H':=fun {σ7 H7} I7 n7=>by
   obtain ⟨m',hm,w7⟩:=hN σ7 H7 n7
   refine ⟨m',hm,i+1,σ7,H7,I7.unpinned,T.keep _ _ _ st5 fun b hb o e=>(I7.pin (b,o) (List.mem_append_right _ (List.mem_append_right _ (dR hb e)))).1,fun b hb=>?_,w7⟩
   obtain ⟨o,e,d⟩:=T.obj _ _ st5 b hb
   exact (I7.pin (b,o) (List.mem_append_right _ (List.mem_append_right _ (dR hb e)))).2.1
  cases f with
  | next=>obtain ⟨σ7,H7,I7,n7⟩:=q7;exact again I7 n7
  | cont=>obtain ⟨σ7,H7,I7,n7⟩:=q7;exact again I7 n7
  | brk=>obtain ⟨σ7,H7,I7,q7⟩:=q7;exact ⟨σ7,H7,I7.unpinned,q7⟩
  | ret v=>obtain ⟨x7,σ7,H7,I7,r7,q7⟩:=q7;exact ⟨x7,σ7,H7,I7.unpinned,r7,q7⟩
end
end L2
namespace L2
open PySem PySem.Spec PyProof.Rows
noncomputable abbrev R2:=V->V->Hp->VK->Prop
noncomputable def OpR (X:Cx) (f:Value->Value->Sem Value) (r:R2):Prop:=
 ∀ (pins:List (Addr × Obj)) (s:Shared) (σ:St) (H:Hp) (x y:V) (v u:Value) (Q:VK),Inv X pins σ H s->aN x v->aN y u->r x y H Q ->
  wpAny (model X.prog X.w) X.A (f v u) (EP X pins σ Q) X.xe s
noncomputable def UnR (X:Cx) (f:Value->Sem Value) (r:V->Hp->VK->Prop):Prop:=
 ∀ (pins:List (Addr × Obj)) (s:Shared) (σ:St) (H:Hp) (x:V) (v:Value) (Q:VK),Inv X pins σ H s->aN x v->r x H Q ->
  wpAny (model X.prog X.w) X.A (f v) (EP X pins σ Q) X.xe s
noncomputable def a8 (X:Cx) (f:Value) (r:List V->Hp->VK->Prop):Prop:=
 ∀ (pins:List (Addr × Obj)) (s:Shared) (σ:St) (H:Hp) (xs:List V) (us:List Value) (Q:VK),Inv X pins σ H s->aP xs us->r xs H Q ->
  wpAny (model X.prog X.w) X.A (call f us) (EP X pins σ Q) X.xe s
noncomputable def KW (X:Cx) (r:V->Hp->(Bool->Hp->Prop)->Prop):Prop:=
 ∀ (pins:List (Addr × Obj)) (s:Shared) (σ:St) (H:Hp) (x:V) (v:Value) (Q:Bool->Hp->Prop),Inv X pins σ H s->aN x v->r x H Q ->
  wpAny (model X.prog X.w) X.A (truthy v) (TP X pins σ Q) X.xe s
noncomputable def tOp (r:R2) (ta tb:TE):TE:=fun σ H Q=>ta σ H fun x H1=>tb σ H1 fun y H2=>r x y H2 Q
noncomputable def tUn (r:V->Hp->VK->Prop) (ta:TE):TE:=fun σ H Q=>ta σ H fun x H1=>r x H1 Q
noncomputable def rI (C:Int->Int->Prop) (g:Int->Int->V):R2:=fun x y H Q=>∃ i j,x = .int i/\y = .int j/\C i j/\Q (g i j) H
noncomputable def rI0 (g:Int->Int->V):R2:=fun x y H Q=>∃ i j,x = .int i/\y = .int j/\Q (g i j) H
noncomputable def rU (g:Int->V):V->Hp->VK->Prop:=fun x H Q=>∃ i,x = .int i/\Q (g i) H
section
variable {X:Cx} {a b c:Expr} {ta tb tc:TE} {pos:Pos}
theorem D3 (ha:PE X a ta) (hb:PE X b tb) {pins:List (Addr × Obj)} {s:Shared} {σ:St} {H:Hp} {R:V->V->Hp->Prop} (I:Inv X pins σ H s)
  (h:ta σ H fun x H1=>tb σ H1 fun y H2=>R x y H2) {Q:Value->Shared->Prop} {f:Value->Value->Sem Value}
  (hf:∀ v u s2 x y H2,Inv X pins σ H2 s2->aN x v->aN y u->R x y H2->wpAny (model X.prog X.w) X.A (f v u) Q X.xe s2) :
  wpAny (model X.prog X.w) X.A (eval a X.env) (fun v s₁=>wpAny (model X.prog X.w) X.A (eval b X.env) (fun u s₂=>wpAny (model X.prog X.w) X.A (f v u) Q X.xe s₂) X.xe s₁) X.xe s:=by
 refine thn (ha pins s σ H _ I h) fun v s1 ⟨x,H1,I1,r1,q1⟩=>?_
 refine thn (hb pins s1 σ H1 _ I1 q1) fun u s2 ⟨y,H2,I2,r2,q2⟩=>?_
 exact hf v u s2 x y H2 I2 r1 r2 q2
theorem IG {op:Operator} {r:R2} (ho:OpR X (binaryOp op) r) (ha:PE X a ta) (hb:PE X b tb):PE X (.BinOp a op b pos) (tOp r ta tb):=by
 intro pins s σ H Q I h
 exact wpAny_BinOp (D3 ha hb I h fun v u s2 x y H2 I2 rx ry q=>ho pins s2 σ H2 x y v u Q I2 rx ry q)
theorem IH {op:UnaryOp} {r:V->Hp->VK->Prop} (ho:UnR X (unaryOp op) r) (ha:PE X a ta):PE X (.UnaryOp op a pos) (tUn r ta):=by
 intro pins s σ H Q I h
 exact UnaryOp_ (thn (ha pins s σ H _ I h) fun v s1 ⟨x,H1,I1,r1,q1⟩=>ho pins s1 σ H1 x v Q I1 r1 q1)
theorem opI {f:Value->Value->Sem Value} {C:Int->Int->Prop} {g:Int->Int->Int}
  (rule:∀ (i j:Int) (t u:Tok) (s:Shared) (Q:Value->Shared->Prop) (E:Value->Shared->Prop),C i j->Q (.int (g i j) s.toks) { s with toks:=s.toks+1 }->wpAny (model X.prog X.w) X.A (f (.int i t) (.int j u)) Q E s) :
  OpR X f (rI C fun i j=>.int (g i j)):=by
 intro pins s σ H x y v u Q I rx ry h
 obtain ⟨i,j,rfl,rfl,hc,q⟩:=h
 obtain ⟨t,rfl⟩:=rx
 obtain ⟨t',rfl⟩:=ry
 exact rule i j t t' s _ _ hc ⟨.int (g i j),H,I.tok _,⟨_,rfl⟩,q⟩
theorem II {f:Value->Value->Sem Value} {g:Int->Int->Int}
  (rule:∀ (i j:Int) (t u:Tok) (s:Shared) (Q:Value->Shared->Prop) (E:Value->Shared->Prop),Q (.int (g i j) s.toks) { s with toks:=s.toks+1 }->wpAny (model X.prog X.w) X.A (f (.int i t) (.int j u)) Q E s) :
  OpR X f (rI0 fun i j=>.int (g i j)):=by
 intro pins s σ H x y v u Q I rx ry h
 obtain ⟨i,j,rfl,rfl,q⟩:=h
 obtain ⟨t,rfl⟩:=rx
 obtain ⟨t',rfl⟩:=ry
 exact rule i j t t' s _ _ ⟨.int (g i j),H,I.tok _,⟨_,rfl⟩,q⟩
theorem zI {f:Value->Value->Sem Value} {g:Int->Int->Bool}
  (rule:∀ (i j:Int) (t u:Tok) (s:Shared) (Q:Value->Shared->Prop) (E:Value->Shared->Prop),Q (.bool (g i j)) s->wpAny (model X.prog X.w) X.A (f (.int i t) (.int j u)) Q E s) :
  OpR X f (rI0 fun i j=>.bl (g i j)):=by
 intro pins s σ H x y v u Q I rx ry h
 obtain ⟨i,j,rfl,rfl,q⟩:=h
 obtain ⟨t,rfl⟩:=rx
 obtain ⟨t',rfl⟩:=ry
 exact rule i j t t' s _ _ ⟨.bl (g i j),H,I,rfl,q⟩
noncomputable def KY (i j:Int):Prop:=0 < j/\j < 1073741824
noncomputable def KZ (i j:Int):Prop:=0<=j/\j<=1000000/\i.natAbs < 2 ^ 64
noncomputable def IJ (i j:Int):Prop:=(-(2 ^ 64) < i/\i < 2 ^ 64)\/(-(2 ^ 64) < j/\j < 2 ^ 64)
theorem IJ.ok {i j:Int} (h:IJ i j):IntMulOk i j:=by
 rcases h with ⟨h1,h2⟩ | ⟨h1,h2⟩
 ·exact .of_left (intBits_le_64 h1 h2)
 ·exact .of_right (intBits_le_64 h1 h2)
theorem D4:OpR X (binaryOp .Add) (rI0 fun i j=>.int (i+j)):=II fun _ _ _ _ _ _ _ q=>add_int q
theorem D5:OpR X (binaryOp .Sub) (rI0 fun i j=>.int (i - j)):=II fun _ _ _ _ _ _ _ q=>sub_int q
theorem D6:OpR X (binaryOp .Mult) (rI IJ fun i j=>.int (i * j)):=opI fun _ _ _ _ _ _ _ hc q=>mul_int q hc.ok
theorem zJ:OpR X (binaryOp .FloorDiv) (rI KY fun i j=>.int (i / j)):=opI fun i j _ _ _ _ _ hc q=>by
 have h1:(0:Int) < j:=hc.1
 have h2:j < 1073741824:=hc.2
 exact floordiv_int (by omega) (by rw [Int.fdiv_eq_ediv_of_nonneg i (by omega)];exact q) (.inl (PyProof.noPylong_small (by omega)))
theorem D7:OpR X (binaryOp .Mod) (rI (fun _ j=>0 < j) fun i j=>.int (i % j)):=opI fun i j _ _ _ _ _ hc q=>by
 have h1:(0:Int) < j:=hc
 exact mod_int' (by omega) (by rw [Int.fmod_eq_emod_of_nonneg i (by omega)];exact q)
theorem D8:OpR X (binaryOp .Pow) (rI KZ fun i j=>.int (i ^ j.toNat)):=opI fun _ _ _ _ _ _ _ hc q=>pow_int_small hc.1 hc.2.1 hc.2.2 q
theorem unI {f:Value->Sem Value} {g:Int->Int}
  (rule:∀ (i:Int) (t:Tok) (s:Shared) (Q:Value->Shared->Prop) (E:Value->Shared->Prop),Q (.int (g i) s.toks) { s with toks:=s.toks+1 }->wpAny (model X.prog X.w) X.A (f (.int i t)) Q E s) :
  UnR X f (rU fun i=>.int (g i)):=by
 intro pins s σ H x v Q I rx h
 obtain ⟨i,rfl,q⟩:=h
 obtain ⟨t,rfl⟩:=rx
 exact rule i t s _ _ ⟨.int (g i),H,I.tok _,⟨_,rfl⟩,q⟩
theorem D9:UnR X (unaryOp .USub) (rU fun i=>.int (-i)):=unI fun _ _ _ _ _ q=>neg_int q
end
section
variable {X:Cx} {a b c:Expr} {ta tb tc:TE} {pos:Pos}
theorem v8 {pins:List (Addr × Obj)} {σ:St} {H:Hp} {s:Shared} {Q:VK} {k k':Bool} (I:Inv X pins σ H s) (q:Q (.bl k) H) (e:k=k'):EP X pins σ Q (.bool k') s:=by
 subst e
 exact ⟨.bl k,H,I,rfl,q⟩
theorem IK:OpR X (compareOp .Lt) (rI0 fun i j=>.bl (decide (i < j))):=zI fun _ _ _ _ _ _ _ q=>lt_int q
theorem IL:OpR X (compareOp .LtE) (rI0 fun i j=>.bl (decide (i<=j))):=zI fun _ _ _ _ _ _ _ q=>le_int q
theorem IM:OpR X (compareOp .Gt) (rI0 fun i j=>.bl (decide (j < i))):=zI fun _ _ _ _ _ _ _ q=>gt_int q
theorem IO:OpR X (compareOp .GtE) (rI0 fun i j=>.bl (decide (j<=i))):=zI fun _ _ _ _ _ _ _ q=>ge_int q
theorem Ea:OpR X (compareOp .Is) (fun x y H Q=>y = .non/\Q (.bl (decide (x = .non))) H):=by
 intro pins s σ H x y v u Q I rx ry h
 obtain ⟨rfl,q⟩:=h
 cases ry
 refine is_none_gen (v8 I q ?_)
 cases x <;> first
  | (cases rx;rfl)
  | (obtain ⟨t,rfl⟩:=rx;rfl)
theorem zK:OpR X (compareOp .IsNot) (fun x y H Q=>y = .non/\Q (.bl (!decide (x = .non))) H):=by
 intro pins s σ H x y v u Q I rx ry h
 obtain ⟨rfl,q⟩:=h
 cases ry
 refine isnot_none_gen (v8 I q ?_)
 cases x <;> first
  | (cases rx;rfl)
  | (obtain ⟨t,rfl⟩:=rx;rfl)
theorem zL {op:CmpOp} {r:R2} (ho:OpR X (compareOp op) r) (ha:PE X a ta) (hb:PE X b tb) (hm:behindInMarks op b=false):PE X (.Compare a [op] [b] pos) (tOp r ta tb):=by
 intro pins s σ H Q I h
 exact wpAny_Compare1 (D3 ha hb I h fun v u s2 x y H2 I2 rx ry q=>ho pins s2 σ H2 x y v u Q I2 rx ry q) hm
noncomputable def C9 (t:TE):TT:=fun σ H Q=>t σ H fun x H'=>∃ k,x = .bl k/\Q k H'
theorem zM {op:CmpOp} {r:R2} (ho:OpR X (compareOp op) r) (ha:PE X a ta) (hb:PE X b tb) (hm:behindInMarks op b=false):PT X (.Compare a [op] [b] pos) (C9 (tOp r ta tb)):=by
 intro pins s σ H Q I h
 refine wpAny_isTrue_Compare1 (thn (ha pins s σ H _ I h) fun v s1 ⟨x,H1,I1,r1,q1⟩=>thn (hb pins s1 σ H1 _ I1 q1) fun u s2 ⟨y,H2,I2,r2,q2⟩=>
  thn (ho pins s2 σ H2 x y v u _ I2 r1 r2 q2) fun c s3 ⟨z,H3,I3,r3,k,e,q3⟩=>?_) hm
 subst e
 cases r3
 exact wpAny_truthy_bool ⟨H3,I3,q3⟩
noncomputable def qv (r r':R2) (ta tb tc:TE):TE:=fun σ H Q=>ta σ H fun x H1=>tb σ H1 fun y H2=>r x y H2 fun z H3=>∃ k,z = .bl k ∧
 (if k=true then tc σ H3 fun w' H4=>r' y w' H4 Q else Q (.bl false) H3)
theorem v9 {op op':CmpOp} {r r':R2} (ho:OpR X (compareOp op) r) (ho':OpR X (compareOp op') r') (ha:PE X a ta) (hb:PE X b tb) (hc:PE X c tc)
  (hm:lastMarks [op,op'] [b,c]=false:=by with_unfolding_all rfl):PE X (.Compare a [op,op'] [b,c] pos) (qv r r' ta tb tc):=by
 intro pins s σ H Q I h
 refine Compare_chain (thn (ha pins s σ H _ I h) fun v s1 ⟨x,H1,I1,r1,q1⟩=>chain_link (thn (hb pins s1 σ H1 _ I1 q1) fun u s2 ⟨y,H2,I2,r2,q2⟩=>
  thn (ho pins s2 σ H2 x y v u _ I2 r1 r2 q2) fun d s3 ⟨z,H3,I3,r3,k,e,q3⟩=>?_)) hm
 subst e
 cases r3
 refine wpAny_truthy_bool ?_
 cases k with
 | false=>exact ite_ff ⟨.bl false,H3,I3,rfl,q3⟩
 | true=>exact ite_tt (chain_last (thn (hc pins s3 σ H3 _ I3 q3) fun w' s4 ⟨z',H4,I4,r4,q4⟩=>ho' pins s4 σ H4 y z' u w' Q I4 r2 r4 q4))
theorem wa {op op':CmpOp} {r r':R2} (ho:OpR X (compareOp op) r) (ho':OpR X (compareOp op') r') (ha:PE X a ta) (hb:PE X b tb) (hc:PE X c tc)
  (hm:lastMarks [op,op'] [b,c]=false:=by with_unfolding_all rfl):PT X (.Compare a [op,op'] [b,c] pos) (C9 (qv r r' ta tb tc)):=by
 intro pins s σ H Q I h
 refine isTrue_chain (thn (ha pins s σ H _ I h) fun v s1 ⟨x,H1,I1,r1,q1⟩=>test_link (thn (hb pins s1 σ H1 _ I1 q1) fun u s2 ⟨y,H2,I2,r2,q2⟩=>
  thn (ho pins s2 σ H2 x y v u _ I2 r1 r2 q2) fun d s3 ⟨z,H3,I3,r3,k,e,q3⟩=>?_)) hm
 subst e
 cases r3
 refine wpAny_truthy_bool ?_
 cases k with
 | false=>
  obtain ⟨k',e',q'⟩:=q3
  cases e'
  exact ite_ff ⟨H3,I3,q'⟩
 | true=>
  refine ite_tt (test_last (thn (hc pins s3 σ H3 _ I3 q3) fun w' s4 ⟨z',H4,I4,r4,q4⟩=>thn (ho' pins s4 σ H4 y z' u w' _ I4 r2 r4 q4) fun d' s5 ⟨z2,H5,I5,r5,k2,e2,q5⟩=>?_))
  subst e2
  cases r5
  exact wpAny_truthy_bool ⟨H5,I5,q5⟩
noncomputable def zN (K:PySem.W.Frag) (x:V) (H:Hp) (k:Bool):Prop:=
 match x with
 | .non=>k=false
 | .bl b=>k=b
 | .int i=>k=(i != 0)
 | .str y=>y.length<=sizeLine/\k=((y.length:Int) != 0)
 | .byt y=>y.size<=sizeLine/\k=((y.size:Int) != 0)
 | .ref p=>(∃ xs,SqL K H p xs/\k = !xs.isEmpty)\/(∃ xs,SqT K H p xs/\k = !xs.isEmpty)\/∃ kvs,H p=some (.dK kvs)/\k = !kvs.isEmpty
 | _=>False
theorem qw {κ:Type} {kvs:List (κ × V)} {vs:List (κ × Value)} (r:KV kvs vs):(!vs.isEmpty) = !kvs.isEmpty:=by
 cases r <;> rfl
theorem j6 {xs:List V} {its:List Value} (r:aP xs its):(!its.toArray.isEmpty) = !xs.isEmpty:=by
 cases r <;> simp
theorem iO:(sizeLine:Nat) < 2 ^ 63:=by rw [sizeLine_eq];decide
theorem Eb:KW X (fun x H Q=>∃ k,zN X.K x H k/\Q k H):=by
 intro pins s σ H x v Q I rx h
 obtain ⟨k,e,q⟩:=h
 have hl:=iO
 have hs:sizeLine=16777216:=sizeLine_eq
 cases x with
 | non=>
  cases rx
  have e':k=false:=e
  subst e'
  exact truthy_none ⟨H,I,q⟩
 | bl b=>
  cases rx
  have e':k=b:=e
  subst e'
  exact wpAny_truthy_bool ⟨H,I,q⟩
 | int i=>
  obtain ⟨t,rfl⟩:=rx
  have e':k=(i != 0):=e
  subst e'
  exact PySem.P.truthy_int ⟨H,I,q⟩
 | str y=>
  obtain ⟨t,rfl⟩:=rx
  obtain ⟨hy,e'⟩:y.length<=sizeLine/\k=((y.length:Int) != 0):=e
  subst e'
  exact PySem.P.truthy_str (by omega) ⟨H,I.tok _,q⟩
 | byt y=>
  obtain ⟨t,rfl⟩:=rx
  obtain ⟨hy,e'⟩:y.size<=sizeLine/\k=((y.size:Int) != 0):=e
  subst e'
  exact PySem.W.truthy_bytes (by omega) ⟨H,I.tok _,q⟩
 | ref p=>
  cases rx
  have e':(∃ xs,SqL X.K H p xs/\k = !xs.isEmpty)\/(∃ xs,SqT X.K H p xs/\k = !xs.isEmpty)\/∃ kvs,H p=some (.dK kvs)/\k = !kvs.isEmpty:=e
  rcases e' with ⟨xs,hx,e'⟩ | ⟨xs,hx,e'⟩ | ⟨kvs,hx,e'⟩
  ·subst e'
   obtain ⟨its,r,pl,hz⟩:=I.list hx
   have hlen:=r.length
   exact wpAny_truthy_list pl.isList (by simp only [List.size_toArray];omega) ⟨H,I.tok _,by rw [j6 r];exact q⟩
  ·subst e'
   obtain ⟨its,r,pl,hz⟩:=I.tuple hx
   have hlen:=r.length
   exact truthy_tuple pl (by simp only [List.size_toArray];omega) ⟨H,I.tok _,by rw [j6 r];exact q⟩
  ·subst e'
   obtain ⟨hz,hS,vs,r,m⟩:kvs.length<=sizeLine/\(p == sysModules)=false/\∃ vs,KV kvs vs/\s.heap.DictOf (fI X.prog X.w) p vs:=I.hok p _ hx
   have hlen:kvs.length=vs.length:=Paired.length r
   exact wpAny_truthy_dict hS m (by omega) ⟨H,I.tok _,by rw [qw r];exact q⟩
 | _=>exact (show False from e).elim
theorem wb (ha:PE X a ta) (he:∀ whole,isTrue a X.env whole=(do let v <-whole;standAt a.pos;holding [v] (truthy v))) :
  PT X a (fun σ H Q=>ta σ H fun x H'=>∃ k,zN X.K x H' k/\Q k H'):=by
 intro pins s σ H Q I h
 exact isTrue_plain (thn (ha pins s σ H _ I h) fun v s1 ⟨x,H1,I1,r1,q1⟩=>Eb pins s1 σ H1 x v Q I1 r1 q1) (he _)
theorem qx:OpR X (binaryOp .Add) (fun x y H Q=>∃ i j,x = .str i/\y = .str j/\i.length+j.length<=sizeLine/\Q (.str (i++j)) H):=by
 intro pins s σ H x y v u Q I rx ry h
 obtain ⟨i,j,rfl,rfl,hz,q⟩:=h
 obtain ⟨t,rfl⟩:=rx
 obtain ⟨t',rfl⟩:=ry
 exact add_str (fun t' tk=>⟨.str (i++j),H,I.tok _,⟨_,rfl⟩,q⟩) hz
theorem cJ {x:V} {us:List Value} (r:aP [x] us):∃ u,us=[u]/\aN x u:=by
 cases r with
 | cons r1 r2=>cases r2;exact ⟨_,rfl,r1⟩
theorem sE {x y:V} {us:List Value} (r:aP [x,y] us):∃ u w',us=[u,w']/\aN x u/\aN y w':=by
 cases r with
 | cons r1 r2=>
  cases r2 with
  | cons r3 r4=>cases r4;exact ⟨_,_,rfl,r1,r3⟩
theorem ul (hc:X.calm=true):a8 X (.builtin "max") (fun xs H Q=>∃ i j,xs=[.int i,.int j]/\Q (.int (if j > i then j else i)) H):=by
 intro pins s σ H xs us Q I r h
 obtain ⟨i,j,rfl,q⟩:=h
 obtain ⟨u,w',rfl,⟨t,rfl⟩,⟨t',rfl⟩⟩:=sE r
 refine max_two_ints (I.ok.hd hc) fun h' tk k=>⟨_,H,I.kept k,?_,q⟩
 by_cases hj:j > i
 ·rw [if_pos hj,if_pos hj];exact ⟨_,rfl⟩
 ·rw [if_neg hj,if_neg hj];exact ⟨_,rfl⟩
theorem um (hc:X.calm=true):a8 X (.builtin "min") (fun xs H Q=>∃ i j,xs=[.int i,.int j]/\Q (.int (if j < i then j else i)) H):=by
 intro pins s σ H xs us Q I r h
 obtain ⟨i,j,rfl,q⟩:=h
 obtain ⟨u,w',rfl,⟨t,rfl⟩,⟨t',rfl⟩⟩:=sE r
 refine min_two_ints (I.ok.hd hc) fun h' tk k=>⟨_,H,I.kept k,?_,q⟩
 by_cases hj:j < i
 ·rw [if_pos hj,if_pos hj];exact ⟨_,rfl⟩
 ·rw [if_neg hj,if_neg hj];exact ⟨_,rfl⟩
theorem uo:a8 X (.type "int") (fun xs H Q=>(∃ i,xs=[.int i]/\Q (.int i) H)\/∃ k,xs=[.bl k]/\Q (.int (if k then 1 else 0)) H):=by
 intro pins s σ H xs us Q I r h
 rcases h with ⟨i,rfl,q⟩ | ⟨k,rfl,q⟩
 ·obtain ⟨u,rfl,t,rfl⟩:=cJ r
  exact call_int_int ⟨.int i,H,I,⟨_,rfl⟩,q⟩
 ·obtain ⟨u,rfl,r1⟩:=cJ r
  cases r1
  exact call_int_bool ⟨.int (if k then 1 else 0),H,I.tok _,⟨_,rfl⟩,q⟩
end
end L2
namespace L2
open PySem PySem.Spec PyProof.Rows
structure ObjM (h:Heap) (x dx C:Addr) (mA:Str->Option Value):Prop where
 obj:h.get? x=some (PySem.W.instObj C dx)
 ns:h.Ns1 dx mA
 ne:dx ≠ x
theorem uq {h:Heap} {dx:Addr} {mA:Str->Option Value} (n:h.Ns1 dx mA):∃ od,h.get? dx=some od/\∀ name,PySem.W.lookIn name od=some (mA name):=by
 obtain ⟨o,es,ep,ho,hd,hk,_,hm⟩:=n
 refine ⟨o,ho,fun name=>?_⟩
 have e:=hm name
 unfold nsFind findBy at e
 rw [<-Array.find?_toList] at e
 unfold PySem.W.lookIn
 rw [hd]
 dsimp only
 split
 ·rename_i y q
  rw [q] at e
  exact congrArg some e
 ·rename_i q
  rw [q] at e
  have a:es.toList.any (·.refKey)=false:=by
   rw [List.any_eq_false]
   intro y hy
   obtain ⟨z,t,hkey⟩:=hk y (Array.mem_toList_iff.mp hy)
   simp [DictEntry.refKey,hkey]
  have a':¬ es.toList.any (·.refKey)=true:=by rw [a];exact Bool.false_ne_true
  rw [if_neg a']
  exact congrArg some e
theorem ObjM.look {h:Heap} {x dx C:Addr} {mA:Str->Option Value} (I:ObjM h x dx C mA):∃ od,PySem.W.InstAt h x (PySem.W.instObj C dx) C (some od)/\∀ name,PySem.W.lookIn name od=some (mA name):=
 let ⟨od,ho,hl⟩:=uq I.ns
 ⟨od,⟨I.obj,rfl,rfl,ho⟩,hl⟩
section
variable {P:Program} {w:World} {H H':Hp} {h h':Heap} {a C dx:Addr} {fs fs':List (Str × V)}
theorem zO (hok:HOk P w H h) (e:H a=some (.ins C dx fs)):∃ mA,ObjM h a dx C mA/\(∀ f,DM (fs.lookup f) (mA f))/\PySem.Within mA (fs.map (·.1))/\fs.length<=1000/\H dx=some (.own a):=by
 obtain ⟨d,z,ne,ob,mA,n,r,q⟩:=(show bO P w H h a (.ins C dx fs) from hok a _ e)
 exact ⟨mA,⟨ob,n,ne⟩,r,q,z,d⟩
end
structure Cls (K:PySem.W.Frag) (C:Addr):Prop where
 pg:PySem.W.plainGet K C Str.empty=true
 hd:PySem.W.hasDictIn K C=true
 po:PySem.W.plainOver K C=true
 sa:PySem.W.findIn K (.ref C) "__setattr__" = some (some (.builtin "object.__setattr__"))
theorem Cls.get {K:PySem.W.Frag} {C:Addr} (c:Cls K C) (f:Str):PySem.W.plainGet K C f=true:=c.pg
section
variable {X:Cx} {pins:List (Addr × Obj)} {σ:St} {H:Hp} {s:Shared} {A:Around} {E:Value->Shared->Prop} {Q:Value->Shared->Prop} {c:Value} {b:Bool}
inductive TyOf (K:PySem.W.Frag) (H:Hp):V->Value->Prop where
 | non:TyOf K H .non (.type "NoneType")
 | bl (x:Bool):TyOf K H (.bl x) (.type "bool")
 | int (i:Int):TyOf K H (.int i) (.type "int")
 | str (x:Str):TyOf K H (.str x) (.type "str")
 | flt (x:UInt64):TyOf K H (.flt x) (.type "float")
 | lst {a:Addr} {xs:List V} (e:H a=some (.lst xs)):TyOf K H (.ref a) (.type "list")
 | frz {a:Addr} {o:Obj} {xs:List V} (e:H a=some (.frz o (.lst xs))):TyOf K H (.ref a) (.type "list")
 | tup {a:Addr} {xs:List V} (e:H a=some (.tup xs)):TyOf K H (.ref a) (.type "tuple")
 | dK {a:Addr} {kvs:List (Key × V)} (e:H a=some (.dK kvs)):TyOf K H (.ref a) (.type "dict")
 | dT {a:Addr} {kvs:List (List Key × V)} (e:H a=some (.dT kvs)):TyOf K H (.ref a) (.type "dict")
 | ins {a C dx:Addr} {fs:List (Str × V)} (e:H a=some (.ins C dx fs)) (cl:Cls K C) (ha:PySem.W.findIn K (.ref C) "__class__" = some (some (.builtin "object.__class__")))
   (hn:PySem.W.specialIn K (.builtin "object.__class__") "__get__" = some (some (.builtin "getset_descriptor.__get__"))) (htk:PySem.W.takesIn K (.builtin "object.__class__")=some true)
   (hm:PySem.W.mroIn K C (.type "object")=some true):TyOf K H (.ref a) (.ref C)
theorem ur {x:V} {u t:Value} (I:Inv X pins σ H s) (rx:aN x u) (ty:TyOf X.K H x t) (e:PySem.W.kitOne X.K t c=some b) (h:∀ tk,Q (.bool b) { s with toks:=tk }) :
  wpAny (model X.prog X.w) A (call (.builtin "isinstance") [u,c]) Q E s:=by
 cases ty with
 | non=>cases (show u=Value.none from rx);exact PySem.W.kia_one PySem.W.kitx_none I.kIn True.intro e (fun z=>nomatch z) h
 | bl y=>cases (show u=Value.bool y from rx);exact PySem.W.kia_one PySem.W.kitx_bool I.kIn True.intro e (fun z=>nomatch z) h
 | int i=>obtain ⟨t,q⟩:=(show ∃ t,u=Value.int i t from rx);cases q;exact PySem.W.kia_one PySem.W.kitx_int I.kIn True.intro e (fun z=>nomatch z) h
 | str y=>obtain ⟨t,q⟩:=(show ∃ t,u=Value.str y t from rx);cases q;exact PySem.W.kia_one PySem.W.kitx_str I.kIn True.intro e (fun z=>nomatch z) h
 | flt y=>obtain ⟨t,q⟩:=(show ∃ t,u=Value.float y t from rx);cases q;exact PySem.W.kia_one PySem.W.kitx_float I.kIn True.intro e (fun z=>nomatch z) h
 | @lst a xs ea=>
  cases (show u=Value.ref a from rx)
  obtain ⟨_,_,n,_,h1⟩:=(show bO X.prog X.w H s.heap a (.lst xs) from I.hok a _ ea)
  exact PySem.W.kia_one PySem.W.kitx_list I.kIn ⟨_,h1,rfl⟩ e (fun z=>nomatch z) h
 | @frz a ob xs ea=>
  cases (show u=Value.ref a from rx)
  obtain ⟨_,_,_,n,_,h1⟩:=(show bO X.prog X.w H s.heap a (.frz ob (.lst xs)) from I.hok a _ ea)
  exact PySem.W.kia_one PySem.W.kitx_list I.kIn ⟨_,h1,rfl⟩ e (fun z=>nomatch z) h
 | @tup a xs ea=>
  cases (show u=Value.ref a from rx)
  obtain ⟨_,_,_,p⟩:=(show bO X.prog X.w H s.heap a (.tup xs) from I.hok a _ ea)
  obtain ⟨o,h1,h2,_⟩:=p
  exact PySem.W.kia_one PySem.W.kitx_tuple I.kIn ⟨o,h1,h2⟩ e (fun z=>nomatch z) h
 | @dK a kvs ea=>
  cases (show u=Value.ref a from rx)
  obtain ⟨_,_,vs,_,p⟩:=(show bO X.prog X.w H s.heap a (.dK kvs) from I.hok a _ ea)
  obtain ⟨o,es,ep,h1,h2,_⟩:=p
  exact PySem.W.kia_one PySem.W.kitx_dict I.kIn ⟨o,h1,h2.1⟩ e (fun z=>nomatch z) h
 | @dT a kvs ea=>
  cases (show u=Value.ref a from rx)
  obtain ⟨_,_,xs,_,o,es,ep,h1,h2,_⟩:=(show bO X.prog X.w H s.heap a (.dT kvs) from I.hok a _ ea)
  exact PySem.W.kia_one PySem.W.kitx_dict I.kIn ⟨o,h1,h2.1⟩ e (fun z=>nomatch z) h
 | @ins a C dx fs ea cl ha hn htk hm=>
  cases (show u=Value.ref a from rx)
  obtain ⟨mA,O,_⟩:=zO I.hok ea
  obtain ⟨od,J,_⟩:=O.look
  exact PySem.W.kia_one (PySem.W.kitx_own (cl.get _) cl.hd ha hn htk hm) I.kIn J e (fun z=>nomatch z) h
end
end L2
namespace L2
open PySem PySem.Spec PyProof.Rows
structure Room (k:Nat) (A:Around):Prop where
 hd:A.handled=none
 dp:A.depth+3 * k+5 < recursionLimit
 un:A.units+16 * k+200 < cLine
 gd:A.guards=some []
theorem Room.deeper {k:Nat} {A:Around} (r:Room (k+1) A) (env:Env):Room k (A.deeper env):=
 ⟨r.hd,by have:=r.dp;show A.depth+1+3 * k+5 < _;omega,by have:=r.un;show A.units+3+16 * k+200 < _;omega,r.gd⟩
theorem Room.depth {k:Nat} {A:Around} (r:Room k A):A.depth < recursionLimit:=by have:=r.dp;omega
theorem Room.units {k:Nat} {A:Around} (r:Room k A):A.units+64 < cLine:=by have:=r.un;omega
noncomputable def j7:TA:=fun _ H Q=>Q [] H
noncomputable def cW (ta:TE) (tr:TA):TA:=fun σ H Q=>ta σ H fun x H1=>tr σ H1 fun xs H2=>Q (x::xs) H2
section
variable {X:Cx} {e:Expr} {es:List Expr} {te:TE} {t:TA} {pos:Pos}
theorem wc:PA X [] j7:=fun _ _ _ _ H Q I h=>Calls.spliced_nil ⟨[],H,I,.nil,h⟩
theorem zP (ha:PE X e te) (hr:PA X es t) (hs:starEach (e::es) X.env=(false,eval e X.env)::starEach es X.env:=by rfl):PA X (e::es) (cW te t):=by
 intro pos pins s σ H Q I h
 rw [hs]
 show wpAny _ _ (spliced ((false,eval e X.env)::backTo pos (starEach es X.env))) _ _ s
 refine Calls.spliced_cons (thn (ha pins s σ H _ I h) fun u s1 ⟨x,H1,I1,r1,q1⟩=>?_)
 exact thn (hr pos pins s1 σ H1 _ I1 q1) fun us s2 ⟨xs,H2,I2,r2,q2⟩=>⟨x::xs,H2,I2,.cons r1 r2,q2⟩
noncomputable def IP (t:TA):TE:=fun σ H Q=>t σ H fun xs H1=>xs.length<=sizeLine/\∀ p,H1 p=none->Q (.ref p) (upd H1 p (.tup xs))
noncomputable def IQ (t:TA):TE:=fun σ H Q=>t σ H fun xs H1=>xs.length<=sizeLine/\∀ p,H1 p=none->Q (.ref p) (upd H1 p (.lst xs))
theorem Ec {x1} (h:PA X es t):PE X (.Tuple es x1 pos) (IP t):=by
 intro pins s σ H Q I hq
 refine wpAny_Tuple_spliced (thn (h pos pins s σ H _ I hq) fun us s1 ⟨xs,H1,I1,r,z,q⟩=>⟨by rw [<-r.length];exact z,?_⟩)
 have hf:H1 s1.heap.objs.size=none:=I1.hok.fresh (Nat.le_refl _)
 refine ⟨.ref s1.heap.objs.size,upd H1 s1.heap.objs.size (.tup xs),I1.laid (t':=s1.toks) (fun b u e=>Heap.get?_push_of_some _ e) (Nat.le_refl _) ?_,rfl,q _ hf⟩
 exact ⟨z,us,r,mW.new _ _⟩
theorem Ed (h:PA X es t):PE X (.List es pos) (IQ t):=by
 intro pins s σ H Q I hq
 refine wpAny_List_spliced (thn (h pos pins s σ H _ I hq) fun us s1 ⟨xs,H1,I1,r,z,q⟩=>⟨by rw [<-r.length];exact z,?_⟩)
 have hf:H1 s1.heap.objs.size=none:=I1.hok.fresh (Nat.le_refl _)
 refine ⟨.ref s1.heap.objs.size,upd H1 s1.heap.objs.size (.lst xs),I1.laid (t':=s1.toks) (fun b u e=>Heap.get?_push_of_some _ e) (Nat.le_refl _) ?_,rfl,q _ hf⟩
 exact ⟨z,us,0,r,Heap.get?_push_size _ rfl⟩
end
noncomputable abbrev Sp:=List V->Hp->VK->XK->Prop
noncomputable abbrev CXT:=List Env->Hp->Shared->XK->Value->Shared->Prop
structure Env0 (P:Program) (w:World) (K:PySem.W.Frag) (mg:Str->Option Value) (base:Heap) (A:Around) (outer:List Env) (s:Shared) (H:Hp):Prop where
 frames:A.frames=some outer
 mod:Mod K mg base
 bs:∀ b o,base.get? b=some o->s.heap.get? b=some o/\H b=none
 bsz:base.objs.size<=s.heap.objs.size
 funs:s.heap.FunFrames base outer
 frf:∀ b ∈ frs outer,H b=none
 hok:HOk P w H s.heap
 bare:AllBare s.gens
noncomputable def CE (outer:List Env) (P:Program) (w:World) (H:Hp) (s:Shared) (Q:VK) (u:Value) (s':Shared):Prop:=
 ∃ v H',s'.os=s.os/\AllBare s'.gens/\Un (frs outer) [] H H' s.heap s'.heap/\HOk P w H' s'.heap/\aN v u/\Q v H'
noncomputable def CR (CX:CXT) (outer:List Env) (P:Program) (w:World) (H:Hp) (s:Shared) (Q:VK) (E:XK) (r:Result) (s':Shared):Prop:=
 match r with
 | .ok (.ret u)=>CE outer P w H s Q u s'
 | .ok _=>False
 | .error e=>CX outer H s E e s'
structure FnOk (P:Program) (w:World) (K:PySem.W.Frag) (mg:Str->Option Value) (base:Heap) (CX:CXT) (k:Nat) (f:Addr) (fd:FuncData) (ps:List Str) (sp:Sp):Prop where
 len:∀ vs H Q E,sp vs H Q E->vs.length=ps.length
 run:∀ (A:Around) (outer:List Env) (s:Shared) (H:Hp) (args:Args) (us:List Value) (vs:List V) (Q:VK) (E:XK),Room k A->Env0 P w K mg base A outer s H->BindsTo s fd args (ps.zip us)->aP vs us->sp vs H Q E ->
  codeAny (model P w) A (.call (.ref f) args) (CR CX outer P w H s Q E) s
section
variable {X:Cx} {pins:List (Addr × Obj)} {σ:St} {H:Hp} {s s':Shared}
theorem Inv.env0 (I:Inv X pins σ H s):Env0 X.prog X.w X.K X.mg X.base X.A X.stack s H:=
 ⟨I.ok.frames,I.ok.mod,I.bs,Nat.le_trans I.ok.bsz I.sz,I.stack,I.stkFree,I.hok,I.bare⟩
theorem Inv.after {Q:VK} {u:Value} (I:Inv X pins σ H s) (h:CE X.stack X.prog X.w H s Q u s'):EP X pins σ Q u s':=by
 obtain ⟨v,H',os,bare,un,hok,r,q⟩:=h
 obtain ⟨hh,g,d,t,os'⟩:=s'
 obtain rfl:os'=s.os:=os
 exact ⟨v,H',I.call (h':=hh) (g':=g) (d':=d) (t':=t) (ch:=[]) un hok bare (fun b z=>absurd z (by simp)),r,q⟩
end
noncomputable def Da (sp:Sp) (dvs:List V) (E:XK) (t:TA):TE:=fun σ H Q=>t σ H fun vs H1=>sp (vs++dvs) H1 Q E
noncomputable def lZ (K:PySem.W.Frag) (fd:FuncData) (ps:List Str) (ds:List Value):Prop:=
 ∀ (s:Shared) (us:List Value),K.In s.heap->(us++ds).length=ps.length->BindsTo s fd ⟨us,[]⟩ (ps.zip (us++ds))
theorem lZ.all {K:PySem.W.Frag} {fd:FuncData} {ps:List Str} (h:∀ us:List Value,us.length=ps.length->bindArgs fd ⟨us,[]⟩=pure (ps.zip us)):lZ K fd ps []:=fun s us _ hl=>by
 rw [List.append_nil] at hl ⊢
 exact .of_eq (h us hl)
noncomputable def qy (CX:CXT) (X:Cx) (E:XK):Prop:=∀ (pins:List (Addr × Obj)) (σ:St) (H:Hp) (s:Shared) (e:Value) (s':Shared),Inv X pins σ H s->CX X.stack H s E e s'->X.xe e s'
section
variable {X:Cx} {CX:CXT} {k:Nat} {f C:Addr} {fd:FuncData} {ps:List Str} {sp:Sp} {dvs:List V} {ds:List Value} {E:XK} {x m:Str} {p pos apos:Pos} {e o:Expr} {es:List Expr} {ta:TE} {t:TA}
theorem Ee {pins:List (Addr × Obj)} {σ:St} {H:Hp} {s:Shared} {Q:VK} {us:List Value} {vs:List V} (F:FnOk X.prog X.w X.K X.mg X.base CX k f fd ps sp) (hr:Room k X.A) (hb:lZ X.K fd ps ds) (hd:aP dvs ds) (hx:qy CX X E)
  (I:Inv X pins σ H s) (r:aP vs us) (h:sp (vs++dvs) H Q E):wpAny (model X.prog X.w) X.A (call (.ref f) us) (EP X pins σ Q) X.xe s:=by
 have r2:aP (vs++dvs) (us++ds):=r.append hd
 have hl:(us++ds).length=ps.length:=by rw [<-r2.length];exact F.len _ _ _ _ h
 refine wpAny_call (codeAny_mono (F.run X.A X.stack s H ⟨us,[]⟩ (us++ds) (vs++dvs) Q E hr I.env0 (hb s us I.kIn hl) r2 h) fun r s' hq=>?_)
 cases r with
 | error e=>exact hx pins σ H s e s' I hq
 | ok fl=>
  cases fl with
  | ret u=>exact I.after hq
  | next=>exact False.elim hq
  | brk=>exact False.elim hq
  | cont=>exact False.elim hq
theorem zQ (F:FnOk X.prog X.w X.K X.mg X.base CX k f fd ps sp) (hr:Room k X.A) (hg:Gl X x) (hm:X.mg x=some (.ref f)) (hk:PySem.W.keepIn X.K (.ref f)=true) (hb:lZ X.K fd ps ds) (hd:aP dvs ds) (hx:qy CX X E)
  (ha:PA X (e::es) t) (hdb:(x == ("__debug__" : Str))=false:=by decide) (he:starEach (e::es) X.env=(false,eval e X.env)::starEach es X.env:=by rfl) (hpl:(backTo pos (starEach es X.env)).any (·.1)=false:=by rfl) :
  PE X (.Call (.Name x p) (e::es) [] pos) (Da sp dvs E t):=by
 intro pins s σ H Q I h
 refine wpAny_Call_Name_kw (sC I hg hm ?_ hdb)
 refine PySem.W.callWith_K (h₀:=X.base) I.ok.mod.kin hk (thn (ha pos pins s σ H _ I h) fun us s1 ⟨vs,H1,I1,r,q⟩=>⟨I1.kIn,?_⟩) he hpl
 exact Ee F hr hb hd hx I1 r q
end
noncomputable def PK (X:Cx) (kws:List Keyword) (t:TA):Prop:=
 ∀ (pos:Pos) (pins:List (Addr × Obj)) (s:Shared) (σ:St) (H:Hp) (Q:List V->Hp->Prop),Inv X pins σ H s->t σ H Q->wpAny (model X.prog X.w) X.A (evalAll ((backToKw pos (keywordEach kws X.env)).map (·.2))) (AP X pins σ Q) X.xe s
section
variable {X:Cx} {CX:CXT} {k:Nat} {f C:Addr} {fd:FuncData} {ps ks:List Str} {sp:Sp} {E:XK} {x m:Str} {p pos apos kpos:Pos} {e o:Expr} {es:List Expr} {kws:List Keyword} {te ta:TE} {t tk:TA} {nm:Option Str}
theorem Ef:PK X [] j7:=fun _ _ _ _ H Q I h=>wpAny_evalAll_nil ⟨[],H,I,.nil,h⟩
theorem zR (ha:PE X e te) (hr:PK X kws t):PK X (⟨nm,e,kpos⟩::kws) (cW te t):=by
 intro pos pins s σ H Q I h
 show wpAny _ _ (evalAll ((do let v <-eval e X.env;standAt pos;pure v)::(backToKw pos (keywordEach kws X.env)).map (·.2))) _ _ s
 refine wpAny_evalAll_cons (wpAny_bind (thn (ha pins s σ H _ I h) fun u s1 ⟨x,H1,I1,r1,q1⟩=>wpAny_bind (wpAny_standAt (wpAny_pure ?_))))
 exact thn (hr pos pins s1 σ H1 _ I1 q1) fun us s2 ⟨xs,H2,I2,r2,q2⟩=>⟨x::xs,H2,I2,.cons r1 r2,q2⟩
variable {g:List Value->List Value->List Value} {gV:List V->List V->List V}
end
structure FnScope (N P:List Str) (sc:Scope):Prop where
 kind:sc.kind = .function
 co:sc.isCoroutine=false
 gen:sc.isGenerator=false
 nd:N.Nodup
 pre:N.take P.length=P
 par:∀ x ∈ P,sc.names.lookup x=some .local\/sc.names.lookup x=some .cell
 nofree:∀ y ∈ sc.names,y.2 ≠ .free
theorem l5 {kindOf:Str->Option NameKind} {x:Str}:∀ {binds:List (Str × Value)} {m:Str->Option Value},(∀ v,(x,v) ∉ binds)->bindL kindOf binds m x=m x
 | [],_,_=>rfl
 | (n,v)::r,m,h=>by
  unfold bindL
  rw [l5 fun w hw=>h w (List.mem_cons_of_mem _ hw)]
  split
  ·have:x ≠ n:=by rintro rfl;exact h v List.mem_cons_self
   simp [this]
  ·rfl
theorem l6 {kindOf:Str->Option NameKind} {x:Str}:∀ {binds:List (Str × Value)} {m:Str->Option Value},(∀ v,(x,v) ∉ binds)->bindC kindOf binds m x=m x
 | [],_,_=>rfl
 | (n,v)::r,m,h=>by
  unfold bindC
  rw [l6 fun w hw=>h w (List.mem_cons_of_mem _ hw)]
  split
  ·rfl
  ·have:x ≠ n:=by rintro rfl;exact h v List.mem_cons_self
   simp [this]
theorem l9 {kindOf:Str->Option NameKind} {x:Str} {v:Value}:∀ {P:List Str} {vs:List Value} {i:Nat} {m:Str->Option Value},P.Nodup->P[i]?=some x->vs[i]?=some v->kindOf x=some .local ->
  bindL kindOf (P.zip vs) m x=some v
 | [],_,_,_,_,h,_,_=>by simp at h
 | _::_,[],_,_,_,_,h,_=>by simp at h
 | p::P,w::vs,0,m,nd,h1,h2,hk=>by
  simp at h1 h2;subst h1;subst h2
  show bindL kindOf ((p,w)::P.zip vs) m p=_
  unfold bindL
  rw [l5 fun v hv=>(List.nodup_cons.mp nd).1 (List.of_mem_zip hv).1,if_pos hk]
  simp
 | p::P,w::vs,i+1,m,nd,h1,h2,hk=>by
  show bindL kindOf ((p,w)::P.zip vs) m x=_
  unfold bindL
  exact l9 (i:=i) (List.nodup_cons.mp nd).2 (by simpa using h1) (by simpa using h2) hk
theorem ma {kindOf:Str->Option NameKind} {x:Str} {v:Value}:∀ {P:List Str} {vs:List Value} {i:Nat} {m:Str->Option Value},P.Nodup->P[i]?=some x->vs[i]?=some v->kindOf x ≠ some .local ->
  bindC kindOf (P.zip vs) m x=some v
 | [],_,_,_,_,h,_,_=>by simp at h
 | _::_,[],_,_,_,_,h,_=>by simp at h
 | p::P,w::vs,0,m,nd,h1,h2,hk=>by
  simp at h1 h2;subst h1;subst h2
  show bindC kindOf ((p,w)::P.zip vs) m p=_
  unfold bindC
  rw [l6 fun v hv=>(List.nodup_cons.mp nd).1 (List.of_mem_zip hv).1,if_neg hk]
  simp
 | p::P,w::vs,i+1,m,nd,h1,h2,hk=>by
  show bindC kindOf ((p,w)::P.zip vs) m x=_
  unfold bindC
  exact ma (i:=i) (List.nodup_cons.mp nd).2 (by simpa using h1) (by simpa using h2) hk
noncomputable def f9 (N:List Str) (vs:List V):St:=vs.map some++List.replicate (N.length - vs.length) none
noncomputable def qz (CX:CXT) (P:Program) (w:World) (K:PySem.W.Frag) (mg:Str->Option Value) (base:Heap) (N:List Str) (qual:Str) (scope:Scope) (f:Addr) (cd:Value) (A:Around) (outer:List Env) (s:Shared) (H:Hp) (E:XK):Cx where
 prog:=P
 w:=w
 K:=K
 mg:=mg
 base:=base
 A:=A.deeper (envOfC qual scope s.heap.objs.size f cd)
 N:=N
 s₀:=s
 H₀:=H
 env:=envOfC qual scope s.heap.objs.size f cd
 outer:=outer
 stack:=envOfC qual scope s.heap.objs.size f cd::outer
 ex:=[]
 calm:=true
 fn:=fun _=>true
 pn:=[]
 xe:=fun e s'=>wpAny (model P w) (A.deeper (envOfC qual scope s.heap.objs.size f cd)) (leaving (envOfC qual scope s.heap.objs.size f cd) e) (fun _ s''=>CX outer H s E e s'') (fun e' s''=>CX outer H s E e' s'') s'
theorem oH {sc:Scope} {n:Nat} {x:Str} (h:sc.names.lookup x=some .cell):∃ c,(cellsFrom n sc.names []).lookup x=some c:=by
 have q:=PySem.W.cellsFrom_some sc.names n [] (.inl h)
 exact Option.isSome_iff_exists.mp q
theorem ut {CX:CXT} {P:Program} {w:World} {K:PySem.W.Frag} {mg:Str->Option Value} {base:Heap} {N ps:List Str} {qual:Str} {scope:Scope} {f:Addr} {cd:Value} {A:Around} {outer:List Env} {s s1:Shared} {H:Hp} {E:XK} {us:List Value} {vs:List V}
  (S:FnScope N ps scope) (hd:A.handled=none) (e0:Env0 P w K mg base A outer s H) (hl:vs.length=ps.length) (r:aP vs us)
  (x:InCallC s s.heap.objs.size (bindL (envOfC qual scope s.heap.objs.size f cd).kindOf (ps.zip us) fun _=>none) (cellsFrom (s.heap.objs.size+1) scope.names []) (bindC (envOfC qual scope s.heap.objs.size f cd).kindOf (ps.zip us) fun _=>none) s1) :
  Inv (qz CX P w K mg base N qual scope f cd A outer s H E) [] (f9 N vs) H s1:=by
 have hpl:ps.length<=N.length:=by have:=congrArg List.length S.pre;rw [List.length_take] at this;omega
 obtain ⟨h1,tk,rfl,hk⟩:=x.done
 have noA:∀ b:Addr,b ∉ (qz CX P w K mg base N qual scope f cd A outer s H E).ex:=fun b z=>absurd (show b ∈ ([]:List Addr) from z) (by simp)
 refine ⟨⟨e0.mod,S.kind,rfl,rfl,Nat.le_refl _,fun y z c h1 h2=>?_,fun y hy=>?_,fun y c _ h=>?_,fun _=>hd,Around.frames_deeper e0.frames,.inr ⟨rfl,rfl⟩,fun b z=>absurd z (noA b),e0.bs,e0.bsz,fun b _ _=>noA b,fun b z=>absurd z (noA b),e0.funs,e0.frf⟩,
  rfl,e0.bare,Un.kept hk,⟨_,x.toInCall.ns,fun i y v h1 h2 h3=>?_⟩,fun y c h=>⟨_,x.cell y c h⟩,e0.hok.fresh (Nat.le_refl _),fun y c h=>?_,fun p hp=>absurd (show p ∈ ([]:List (Addr × Obj)) from hp) (by simp),e0.hok.kept hk,?_⟩
 ·exact name_of_addr x.apart (PySem.mem_of_lookup h1) (PySem.mem_of_lookup h2)
 ·have hy:scope.names.lookup y=some .cell\/scope.names.lookup y=some .free:=hy
  rcases hy with hy | hy
  ·exact oH hy
  ·exact absurd rfl (S.nofree _ (PySem.mem_of_lookup hy))
 ·exact Nat.le_of_lt (x.above y c (PySem.mem_of_lookup h))
 ·have hi:i < vs.length:=by
   unfold f9 at h2
   by_cases hi:i < vs.length
   ·exact hi
   ·rw [List.getElem?_append_right (by simpa using hi)] at h2
    rw [List.getElem?_replicate] at h2
    split at h2 <;> cases h2
  have ha:vs[i]?=some v:=by
   unfold f9 at h2
   rw [List.getElem?_append_left (by simpa using hi),List.getElem?_map] at h2
   cases e:vs[i]? with
   | none=>rw [e] at h2;cases h2
   | some a=>rw [e] at h2;cases h2;rfl
  obtain ⟨u,hu,rv⟩:=r.get ha
  have hp:ps[i]?=some y:=by
   rw [<-S.pre,List.getElem?_take_of_lt (by omega)];exact h1
  have ndP:ps.Nodup:=by rw [<-S.pre];exact S.nd.sublist (List.take_sublist _ _)
  refine ⟨u,rv,?_⟩
  rcases S.par y (List.mem_of_getElem? hp) with k | k
  ·exact .inl ⟨k,l9 ndP hp hu k⟩
  ·obtain ⟨c,e⟩:=oH (n:=s.heap.objs.size+1) k
   refine .inr ⟨.inl k,c,e,?_⟩
   have q:=x.cell y c e
   rw [ma ndP hp hu (by show scope.names.lookup y ≠ _;rw [k];decide)] at q
   exact q
 ·exact e0.hok.fresh (Nat.le_of_lt (x.above y c (PySem.mem_of_lookup h)))
 ·unfold f9
  show _=N.length
  rw [List.length_append,List.length_map,List.length_replicate]
  omega
theorem IR {CX:CXT} {P:Program} {w:World} {K:PySem.W.Frag} {mg:Str->Option Value} {base:Heap} {k:Nat} {f:Addr} {name qual:Str} {params:Arguments} {body:List Stmt} {scope:Scope} {dV kV doc pm cdv ct oc:Value} {an od:Option Addr}
  {osl:Array (Option Value)} {N ps:List Str} {sp:Sp} (lk:K.lookup f=some ⟨oc,od,.func (PySem.W.fnOf name qual params body scope dV kV doc pm an cdv ct),osl⟩) (hcd:PySem.W.codeIn K cdv qual=true) (S:FnScope N ps scope)
  (len:∀ vs H Q E,sp vs H Q E->vs.length=ps.length)
  (hbody:∀ (A:Around) (outer:List Env) (s:Shared) (H:Hp) (vs:List V) (Q:VK) (E:XK),Room k (A.deeper (envOfC qual scope s.heap.objs.size f cdv))->sp vs H Q E ->
   ∃ t,PSs (qz CX P w K mg base N qual scope f cdv A outer s H E) body t/\t { nx:=fun _ H'=>Q .non H',rt:=Q } (f9 N vs) H) :
  FnOk P w K mg base CX (k+1) f (PySem.W.fnOf name qual params body scope dV kV doc pm an cdv ct) ps sp:=by
 refine ⟨len,fun A outer s H args us vs Q E hr e0 hb r hsp=>?_⟩
 have hl:=len _ _ _ _ hsp
 have KX:K.In s.heap:=e0.mod.kin.keeps fun b o e=>(e0.bs b o e).1
 have lim:s.heap.NoLimit:=e0.mod.nolimit.keeps fun b o e=>(e0.bs b o e).1
 have hkind:∀ y ∈ ps.zip us,scope.names.lookup y.1=some .local\/(scope.names.lookup y.1=some .cell/\((cellsFrom (s.heap.objs.size+1) scope.names []).lookup y.1).isSome=true):=fun ⟨n,v⟩ hy=>by
  rcases S.par n (List.of_mem_zip hy).1 with q | q
  ·exact .inl q
  ·exact .inr ⟨q,PySem.W.cellsFrom_some _ _ _ (.inl q)⟩
 refine codeAny_call_function hr.depth (KX _ _ lk) rfl S.co S.gen rfl (PySem.W.codeRec_of KX hcd) (hb _ _ _ _ ?_)
 refine wpAny_newFunctionEnv_cells S.kind hkind fun env he s1 x=>?_
 subst he
 refine ⟨lim.keeps x.toInCall.keep,codeAny_func ?_⟩
 obtain ⟨t,ht,hq⟩:=hbody A outer s H vs Q E (hr.deeper _) hsp
 have I:Inv (qz CX P w K mg base N qual scope f cdv A outer s H E) [] (f9 N vs) H s1:=ut S hr.hd e0 hl r x
 refine wpAny_mono (ht [] s1 (f9 N vs) H _ I hq) (fun fl s' hs=>?_) fun e s' hs=>hs
 have fin:∀ {σ':St} {H':Hp} {v:V} {u:Value},Inv (qz CX P w K mg base N qual scope f cdv A outer s H E) [] σ' H' s'->aN v u->Q v H'->CE outer P w H s Q u s':=
  fun {σ' H' v u} J rv q=>⟨v,H',J.os,J.bare,J.base,J.hok,rv,q⟩
 cases fl with
 | ret u=>
  obtain ⟨v,σ',H',J,rv,q⟩:=hs
  exact fin J rv q
 | next=>
  obtain ⟨σ',H',J,q⟩:=hs
  exact fin (v:=V.non) (u:=Value.none) J rfl q
 | brk=>
  obtain ⟨_,_,_,q⟩:=hs
  exact False.elim q
 | cont=>
  obtain ⟨_,_,_,q⟩:=hs
  exact False.elim q
end L2
namespace L2
open PySem PySem.Spec PyProof.Rows
section
variable {X:Cx} {x:Str} {p pos:Pos} {e:Expr} {es:List Expr} {t:TA} {id T:String} {r:List V->Hp->VK->Prop}
noncomputable def tCB (r:List V->Hp->VK->Prop) (t:TA):TE:=fun σ H Q=>t σ H fun vs H1=>r vs H1 Q
theorem hU (hc:a8 X (.builtin id) r) (hg:Gl X x) (hm:X.mg x=none) (hv:bootBuiltins x=some (.builtin id)) (ha:PA X (e::es) t) (hn:x ≠ "__name__" := by decide) (hdb:(x == ("__debug__" : Str))=false:=by decide)
  (he:starEach (e::es) X.env=(false,eval e X.env)::starEach es X.env:=by rfl) (hpl:(backTo pos (starEach es X.env)).any (·.1)=false:=by rfl):PE X (.Call (.Name x p) (e::es) [] pos) (tCB r t):=by
 intro pins s σ H Q I h
 refine wpAny_Call_Name_kw (e9 I hg hm hv ?_ hn hdb)
 exact PyProof.Rows.callWith_builtin1 (thn (ha pos pins s σ H _ I h) fun us s1 ⟨vs,H1,I1,r1,q1⟩=>hc pins s1 σ H1 vs us Q I1 r1 q1) he hpl
theorem iP (hc:a8 X (.type T) r) (hg:Gl X x) (hm:X.mg x=none) (hv:bootBuiltins x=some (.type T)) (ha:PA X (e::es) t) (hn:x ≠ "__name__" := by decide) (hdb:(x == ("__debug__" : Str))=false:=by decide)
  (he:starEach (e::es) X.env=(false,eval e X.env)::starEach es X.env:=by rfl) (hpl:(backTo pos (starEach es X.env)).any (·.1)=false:=by rfl):PE X (.Call (.Name x p) (e::es) [] pos) (tCB r t):=by
 intro pins s σ H Q I h
 refine wpAny_Call_Name_kw (e9 I hg hm hv ?_ hn hdb)
 exact PyProof.Rows.callWith_type1 (thn (ha pos pins s σ H _ I h) fun us s1 ⟨vs,H1,I1,r1,q1⟩=>hc pins s1 σ H1 vs us Q I1 r1 q1) he hpl
end
end L2
namespace HT
open PySem PyProof.Rows
section
open PySem.SeqAt
open PySem.AutoSeq1 (wpAny_loadPart')
open PySem.MeetsSeq PySem.MeetsSeq2 PySem.MeetsSeq3
end
section
variable {prog:Program} {w:World} {A:Around} {E:Value->Shared->Prop} {s:Shared}
theorem zS {t b:Addr} {vs ws:List Value} {Q:Value->Shared->Prop} (ht:IsTup s.heap t vs.toArray) (hb:IsTup s.heap b ws.toArray) (hv:vs ≠ [])
  (h1:ws=[]->Q (.ref t) s) (h2:ws ≠ []->Q (.ref s.heap.objs.size) { s with heap:=s.heap.push { cls:=.type "tuple", data:=.seq (vs++ws).toArray } })
  (hsz:vs.length+ws.length<=sizeLine):wpAny (model prog w) A (binaryOp .Add (.ref t) (.ref b)) Q E s:=by
 obtain ⟨⟨cls,dd,data,sl⟩,ho,hc,n,hd⟩:=id ht
 obtain ⟨⟨cls2,dd2,data2,sl2⟩,ho2,hc2,n2,hd2⟩:=id hb
 simp only at hc hd hc2 hd2
 subst hc hd hc2 hd2
 have e:vs.toArray++ws.toArray=(vs++ws).toArray:=by simp
 by_cases hw:ws=[]
 ·exact concat_meets ⟨_,ho,rfl⟩ ⟨_,ho2,rfl⟩ noFill_tuple_add seq_tuple_add PySem.F.slot_tuple_add PySem.F.entry_tuple_add (PySem.F.args_tuple_add_2 _ _)
   (tuple_addW1 t b vs.toArray ws.toArray n n2 dd dd2 sl sl2 (by simpa using hv) (by simp [hw])) ⟨ho,ho2,h1 hw⟩
 ·refine concat_meets ⟨_,ho,rfl⟩ ⟨_,ho2,rfl⟩ noFill_tuple_add seq_tuple_add PySem.F.slot_tuple_add PySem.F.entry_tuple_add (PySem.F.args_tuple_add_2 _ _)
   (tuple_addW2 t b vs.toArray ws.toArray n n2 dd dd2 sl sl2 (by simpa using hv) (by simpa using hw) (by rw [List.size_toArray,List.size_toArray];exact hsz)) ⟨ho,ho2,?_⟩
  rw [e]
  exact h2 hw
noncomputable def sIx (n d:Nat):Option Int->Nat
 | none=>d
 | some v=>if v < 0 then (v+(n:Int)).toNat else min v.toNat n
theorem wg (n d:Nat):sIx n d none=d:=rfl
theorem Eg (n d:Nat) (hd:d<=n) (o:Option Int):sIx n d o<=n:=by
 cases o with
 | none=>exact hd
 | some v=>
  show (if v < 0 then (v+(n:Int)).toNat else min v.toNat n)<=n
  by_cases hv:v < 0
  ·rw [if_pos hv];omega
  ·rw [if_neg hv];exact Nat.min_le_right _ _
theorem sF (v:Int) (n d:Nat):(if v < 0 then max (v+(n:Int)) 0 else min v (n:Int))=((sIx n d (some v):Nat):Int):=by
 show (if v < 0 then max (v+(n:Int)) 0 else min v (n:Int))=(((if v < 0 then (v+(n:Int)).toNat else min v.toNat n):Nat):Int)
 by_cases hv:v < 0
 ·simp only [if_pos hv];omega
 ·simp only [if_neg hv];omega
theorem qA (lo hi:Option Int) (n:Nat):Builtin.Slice.sliceAdjust lo hi 1 (n:Int)=(((sIx n 0 lo:Nat):Int),((sIx n n hi:Nat):Int)):=by
 have h1:¬ ((1:Int) < 0):=by omega
 unfold Builtin.Slice.sliceAdjust
 simp only [h1,if_false]
 refine Prod.ext ?_ ?_
 ·cases lo with
  | none=>rfl
  | some v=>exact sF v n 0
 ·cases hi with
  | none=>rfl
  | some v=>exact sF v n n
theorem qB (i j:Nat):Builtin.Slice.slicePlaces (i:Int) (j:Int) 1=j - i:=by
 unfold Builtin.Slice.slicePlaces
 have h1:(1:Int) > 0:=by omega
 simp only [h1,if_true,Int.ediv_one]
 split <;> omega
theorem j8 {v:Value} {o:Option Int} {Q:Option Int->Shared->Prop} (p:IsPart v o) (h:Q o s):wpAny (model prog w) A (Builtin.Slice.slicePartIndex v) Q E s:=by
 cases p with
 | none=>exact slicePart_none h
 | int i t=>exact slicePart_int h
theorem dE {sl:Addr} {vl vu:Value} {lo hi:Option Int} {n:Nat} {Q:Int × Int × Nat->Shared->Prop} (hs:s.heap.IsSliceOf sl vl vu .none) (pl:IsPart vl lo) (pu:IsPart vu hi)
  (h:Q (((sIx n 0 lo:Nat):Int),1,sIx n n hi - sIx n 0 lo) s):wpAny (model prog w) A (Builtin.Slice.sliceApplied (.ref sl) (pure (n:Int))) Q E s:=by
 obtain ⟨os,hos,hcs,hds⟩:=id hs
 unfold Builtin.Slice.sliceApplied Builtin.Slice.sliceFields
 refine wpAny_bind (wpAny_bind (wpAny_field hos hds (x:=vl) rfl (wpAny_bind (wpAny_field hos hds (x:=vu) rfl (wpAny_bind (wpAny_field hos hds (x:=.none) rfl (wpAny_pure ?_)))))))
 refine wpAny_bind (slicePart_none ?_)
 show wpAny _ _ (if ((1:Int) == 0)=true then _ else _) _ _ s
 rw [if_neg (by decide)]
 refine wpAny_bind (j8 pl (wpAny_bind (j8 pu (wpAny_bind (wpAny_pure ?_)))))
 show wpAny _ _ (match Builtin.Slice.sliceAdjust lo hi 1 (n:Int) with | (lo,hi)=>pure (lo,(1:Int),Builtin.Slice.slicePlaces lo hi 1)) _ _ s
 rw [qA lo hi n]
 show wpAny _ _ (pure (((sIx n 0 lo:Nat):Int),(1:Int),Builtin.Slice.slicePlaces ((sIx n 0 lo:Nat):Int) ((sIx n n hi:Nat):Int) 1)) _ _ s
 rw [qB]
 exact wpAny_pure h
theorem wj (xs:Array Value) (i k:Nat):((List.range k).filterMap fun (m:Nat)=>xs[((i:Int)+(m:Int) * 1).toNat]?).toArray=((xs.toList.drop i).take k).toArray:=by
 have e:(fun (m:Nat)=>xs[((i:Int)+(m:Int) * 1).toNat]?)=fun m=>xs[i+m]?:=by
  funext m
  have:((i:Int)+(m:Int) * 1).toNat=i+m:=by omega
  rw [this]
 rw [e]
 have:=pick_run xs i k
 rw [List.filterMap_map] at this
 have e2:((fun x=>xs[x]?) ∘ fun x=>i+x)=fun m=>xs[i+m]?:=rfl
 rw [e2] at this
 rw [this]
theorem hV {t sl:Addr} {items:Array Value} {vl vu:Value} {lo hi:Option Int} {Q:Value->Shared->Prop} (ht:IsTup s.heap t items) (hs:s.heap.IsSliceOf sl vl vu .none) (pl:IsPart vl lo) (pu:IsPart vu hi)
  (hw:¬ (sIx items.size 0 lo=0/\sIx items.size items.size hi=items.size))
  (h:Q (.ref s.heap.objs.size) { s with heap:=s.heap.push { cls:=.type "tuple", data:=.seq ((items.toList.drop (sIx items.size 0 lo)).take (sIx items.size items.size hi - sIx items.size 0 lo)).toArray } })
  (hsz:items.size<=sizeLine):wpAny (model prog w) A (getItem (.ref t) (.ref sl)) Q E s:=by
 have htake:sizeOk (.seq ((items.toList.drop (sIx items.size 0 lo)).take (sIx items.size items.size hi - sIx items.size 0 lo)).toArray):=by
  show ((items.toList.drop (sIx items.size 0 lo)).take (sIx items.size items.size hi - sIx items.size 0 lo)).toArray.size<=sizeLine
  rw [List.size_toArray,List.length_take,List.length_drop,Array.length_toList]
  omega
 have hj:sIx items.size items.size hi<=items.size:=Eg _ _ (Nat.le_refl _) hi
 obtain ⟨os,hos,hcs,hds⟩:=id hs
 have hTs:s.TypeIs (.ref sl) "slice" := ⟨os,hos,hcs⟩
 unfold getItem
 try with_reducible refine wpAny_holding ?_
 first | refine wpAny_bind (wpAny_pure ?_) | skip
 refine wpAny_bind (wpAny_sequenceKey ht.typeIs (by decide) ?_)
 refine wpAny_bind (wpAny_callSpecial?_slot (name:=Str.ofString "__getitem__") ht.typeIs PyProof.Rows.slot_tuple_getitem
  (wpAny_call_entry PyProof.Rows.slot_tuple_getitem ht.typeIs entry_tuple_getitem ?_ (args_tuple_getitem _ _)))
 show wpAny _ _ (Builtin.Tuple.tupleItemsOf (.ref t) >>= _) _ _ s
 refine wpAny_bind (tupleItemsOf_ ht ?_)
 refine wpAny_bind (wpAny_typeOf hTs ?_)
 rw [if_pos (by decide)]
 refine wpAny_bind (dE hs pl pu ?_)
 have hno:¬ ((((sIx items.size 0 lo:Nat):Int) == 0 && (1:Int) == 1 && (sIx items.size items.size hi - sIx items.size 0 lo) == items.size)=true):=by
  intro q
  rw [bAE,bAE] at q
  have q1:((sIx items.size 0 lo:Nat):Int)=0:=eq_of_beq q.1.1
  have q2:sIx items.size items.size hi - sIx items.size 0 lo=items.size:=eq_of_beq q.2
  exact hw ⟨by omega,by omega⟩
 show wpAny _ _ (if (((sIx items.size 0 lo:Nat):Int) == 0 && (1:Int) == 1 && (sIx items.size items.size hi - sIx items.size 0 lo) == items.size)=true then _ else _) _ _ s
 rw [if_neg hno,wj]
 first
  | exact wpAny_bind (m:=Builtin.Tuple.tupleExact _) (wpAny_newObj_type (wpAny_pure ⟨_,rfl,wpAny_pure h⟩) htake)
  | exact wpAny_bind (m:=Builtin.Tuple.tupleExact _) (wpAny_newObj_type (wpAny_bind (wpAny_pure (wpAny_pure ⟨_,rfl,wpAny_pure h⟩))) htake)
  | exact wpAny_bind (wpAny_bind (m:=Builtin.Tuple.tupleExact _) (wpAny_newObj_type (wpAny_pure (wpAny_pure ⟨_,rfl,wpAny_pure h⟩)) htake))
  | exact wpAny_bind (wpAny_bind (m:=Builtin.Tuple.tupleExact _) (wpAny_newObj_type (wpAny_pure ⟨_,rfl,wpAny_pure h⟩) htake))
end
end HT
namespace L2
open PySem PySem.Spec PyProof.Rows
noncomputable abbrev TO:=St->Hp->(Option Int->Hp->Prop)->Prop
noncomputable def PO (X:Cx) (e:Option Expr) (t:TO):Prop:=
 ∀ (pins:List (Addr × Obj)) (s:Shared) (σ:St) (H:Hp) (Q:Option Int->Hp->Prop),Inv X pins σ H s->t σ H Q ->
  wpAny (model X.prog X.w) X.A (evalPart e X.env) (fun u s'=>∃ o H',Inv X pins σ H' s'/\IsPart u o/\Q o H') X.xe s
noncomputable def sG:TO:=fun _ H Q=>Q none H
noncomputable def Db (t:TE):TO:=fun σ H Q=>t σ H fun x H1=>∃ i,x = .int i/\Q (some i) H1
section
variable {X:Cx} {e:Expr} {te:TE} {lo hi:Option Expr} {tl th:TO} {pos p2:Pos}
theorem zT:PO X none sG:=by
 intro pins s σ H Q I h
 rw [evalPart_none]
 exact wpAny_pure ⟨none,H,I,.none,h⟩
theorem zU (h:PE X e te):PO X (some e) (Db te):=by
 intro pins s σ H Q I hw
 rw [evalPart_some]
 refine thn (h pins s σ H _ I hw) fun u s1 ⟨x,H1,I1,r1,q1⟩=>?_
 obtain ⟨i,rfl,q⟩:=q1
 obtain ⟨t,rfl⟩:=r1
 exact ⟨some i,H1,I1,.int i t,q⟩
noncomputable def SlR (X:Cx) (r:V->Option Int->Option Int->Hp->VK->Prop):Prop:=
 ∀ (pins:List (Addr × Obj)) (s:Shared) (σ:St) (H:Hp) (x:V) (v vl vu:Value) (lo hi:Option Int) (sl:Addr) (Q:VK),Inv X pins σ H s->aN x v->s.heap.IsSliceOf sl vl vu .none->IsPart vl lo->IsPart vu hi->r x lo hi H Q ->
  ∃ T id,typeLookup (.type T) "__getitem__" = pure (some (.builtin id))/\s.TypeIs v T/\wpAny (model X.prog X.w) X.A (getItem v (.ref sl)) (EP X pins σ Q) X.xe s
theorem SlR.or {r r':V->Option Int->Option Int->Hp->VK->Prop} (h:SlR X r) (h':SlR X r'):SlR X (fun x lo hi H Q=>r x lo hi H Q\/r' x lo hi H Q):=by
 intro pins s σ H x v vl vu lo hi sl Q I rx hs pl pu q
 rcases q with q | q
 ·exact h pins s σ H x v vl vu lo hi sl Q I rx hs pl pu q
 ·exact h' pins s σ H x v vl vu lo hi sl Q I rx hs pl pu q
noncomputable def tSl (r:V->Option Int->Option Int->Hp->VK->Prop) (te:TE) (tl th:TO):TE:=fun σ H Q=>te σ H fun x H1=>tl σ H1 fun l H2=>th σ H2 fun u H3=>r x l u H3 Q
theorem wk {r:V->Option Int->Option Int->Hp->VK->Prop} (hr:SlR X r) (he:PE X e te) (hl:PO X lo tl) (hu:PO X hi th):PE X (.Subscript e (.Slice lo hi none p2) pos) (tSl r te tl th):=by
 intro pins s σ H Q I h
 refine Subscript_ (thn (he pins s σ H _ I h) fun v s1 ⟨x,H1,I1,r1,q1⟩=>?_)
 refine wpAny_Slice (thn (hl pins s1 σ H1 _ I1 q1) fun vl s2 ⟨l,H2,I2,pl,q2⟩=>thn (hu pins s2 σ H2 _ I2 q2) fun vu s3 ⟨u,H3,I3,pu,q3⟩=>?_)
 rw [evalPart_none]
 refine wpAny_pure ?_
 have I4:Inv X pins σ H3 { s3 with heap:=s3.heap.push { cls:=.type "slice", data:=.fields #[vl,vu,.none] } }:=I3.kept (t':=s3.toks) fun b ob q=>Heap.get?_push_of_some _ q
 obtain ⟨T,id,hT,ht,hg⟩:=hr pins { s3 with heap:=s3.heap.push { cls:=.type "slice", data:=.fields #[vl,vu,.none] } } σ H3 x v vl vu l u s3.heap.objs.size Q I4 r1 (Heap.IsSliceOf.new ..) pl pu q3
 show wpAny (model X.prog X.w) X.A (subscriptTail e (.Slice lo hi none p2) v (.ref s3.heap.objs.size)) (EP X pins σ Q) X.xe { s3 with heap:=s3.heap.push { cls:=.type "slice", data:=.fields #[vl,vu,.none] } }
 exact tail_any (ops:=[.ref s3.heap.objs.size,v]) ht hT hg (by with_unfolding_all rfl)
noncomputable def j9 (xs:List V) (lo hi:Option Int):List V:=(xs.drop (HT.sIx xs.length 0 lo)).take (HT.sIx xs.length xs.length hi - HT.sIx xs.length 0 lo)
theorem je (xs:List V) (lo hi:Option Int):(j9 xs lo hi).length<=xs.length:=by
 unfold j9
 rw [List.length_take,List.length_drop]
 omega
noncomputable def K0 (K:PySem.W.Frag):V->Option Int->Option Int->Hp->VK->Prop:=fun x lo hi H Q=>∃ a xs,x = .ref a/\SqT K H a xs ∧
 ¬ (HT.sIx xs.length 0 lo=0/\HT.sIx xs.length xs.length hi=xs.length)/\∀ p,H p=none->Q (.ref p) (upd H p (.tup (j9 xs lo hi)))
theorem Eh:SlR X (K0 X.K):=by
 intro pins s σ H x v vl vu lo hi sl Q I rx hs pl pu h
 obtain ⟨a,xs,rfl,hx,hw,q⟩:=h
 cases rx
 obtain ⟨its,r,ht,hz⟩:=I.tuple hx
 have hlen:its.toArray.size=xs.length:=by rw [List.size_toArray];exact r.length.symm
 refine ⟨"tuple", _,PyProof.Rows.slot_tuple_getitem.lookup,ht.typeIs,?_⟩
 refine HT.hV ht hs pl pu (by rw [hlen];exact hw) ?_ (by rw [hlen];exact hz)
 rw [hlen]
 refine ⟨.ref s.heap.objs.size,_,I.laid (t':=s.toks) (o:=.tup (j9 xs lo hi)) (fun b ob q=>Heap.get?_push_of_some _ q) (Nat.le_refl _) ?_,rfl,q _ (I.hok.fresh (Nat.le_refl _))⟩
 exact ⟨Nat.le_trans (je xs lo hi) hz,_,(r.drop (HT.sIx xs.length 0 lo)).take (HT.sIx xs.length xs.length hi - HT.sIx xs.length 0 lo),mW.new _ _⟩
noncomputable def IS (K:PySem.W.Frag):R2:=fun x y H Q=>∃ a b xs ys,x = .ref a/\y = .ref b/\SqT K H a xs/\SqT K H b ys/\xs ≠ []/\xs.length+ys.length<=sizeLine ∧
 (ys=[]->Q (.ref a) H)/\(ys ≠ []->∀ p,H p=none->Q (.ref p) (upd H p (.tup (xs++ys))))
theorem aP.nil_iff {xs:List V} {us:List Value} (r:aP xs us):us=[] ↔ xs=[]:=by
 cases r with
 | nil=>simp
 | cons _ _=>simp
theorem zV:OpR X (binaryOp .Add) (IS X.K):=by
 intro pins s σ H x y v u Q I rx ry h
 obtain ⟨a,b,xs,ys,rfl,rfl,ha,hb,hx,hz,q1,q2⟩:=h
 cases rx
 cases ry
 obtain ⟨its,r1,p1,_⟩:=I.tuple ha
 obtain ⟨its2,r2,p2,_⟩:=I.tuple hb
 refine HT.zS p1 p2 (fun z=>hx (r1.nil_iff.mp z)) (fun z=>⟨.ref a,H,I,rfl,q1 (r2.nil_iff.mp z)⟩) (fun z=>?_) (by rw [<-r1.length,<-r2.length];exact hz)
 refine ⟨.ref s.heap.objs.size,_,I.laid (t':=s.toks) (o:=.tup (xs++ys)) (fun b ob q=>Heap.get?_push_of_some _ q) (Nat.le_refl _) ?_,rfl,q2 (fun w=>z (r2.nil_iff.mpr w)) _ (I.hok.fresh (Nat.le_refl _))⟩
 exact ⟨by rw [List.length_append];exact hz,_,r1.append r2,mW.new _ _⟩
end
end L2
namespace L2
open PySem PySem.Spec PyProof.Rows
noncomputable def ixN (n:Nat) (i:Int):Option Nat:=if 0<=i then (if i < n then some i.toNat else none) else if -(n:Int)<=i then some (i+n).toNat else none
noncomputable def atI {α:Type} (xs:List α) (i:Int):Option α:=(ixN xs.length i).bind fun j=>xs[j]?
theorem mY {n:Nat} {i:Int} {j:Nat} (h:ixN n i=some j):seqIndex? i n=some j/\j < n/\-(n:Int)<=i/\i < n:=by
 unfold ixN at h
 by_cases h0:0<=i
 ·rw [if_pos h0] at h
  by_cases h1:i < n
  ·rw [if_pos h1] at h
   have e:i.toNat=j:=Option.some.inj h
   exact ⟨by rw [seqIndex_of h0 h1,e],by omega,by omega,h1⟩
  ·rw [if_neg h1] at h;cases h
 ·rw [if_neg h0] at h
  by_cases h1:-(n:Int)<=i
  ·rw [if_pos h1] at h
   have e:(i+n).toNat=j:=Option.some.inj h
   exact ⟨by rw [seqIndex_neg (by omega) h1,e],by omega,h1,by omega⟩
  ·rw [if_neg h1] at h;cases h
theorem mZ {α:Type} {xs:List α} {i:Int} {v:α} (h:atI xs i=some v):∃ j,seqIndex? i xs.length=some j/\xs[j]?=some v/\j < xs.length/\-(xs.length:Int)<=i/\i < xs.length:=by
 unfold atI at h
 cases e:ixN xs.length i with
 | none=>rw [e] at h;cases h
 | some j=>
  rw [e] at h
  obtain ⟨h1,h2,h3,h4⟩:=mY e
  exact ⟨j,h1,h,h2,h3,h4⟩
theorem sH {α:Type} {xs:List α} {j:Nat} {v:α} (h:xs[j]?=some v):atI xs (j:Int)=some v:=by
 have hj:j < xs.length:=(List.getElem?_eq_some_iff.mp h).1
 have e:ixN xs.length (j:Int)=some j:=by
  unfold ixN
  rw [if_pos (by omega),if_pos (by omega)];simp
 unfold atI;rw [e];exact h
noncomputable def sI (b:Expr):Prop:=∀ o i,subscripted b false o i=operate [o,i] (getItem o i)
noncomputable def IxR (X:Cx) (r:R2):Prop:=
 ∀ (value slice:Expr) (pins:List (Addr × Obj)) (s:Shared) (σ:St) (H:Hp) (x y:V) (v u:Value) (Q:VK),Inv X pins σ H s->aN x v->aN y u->r x y H Q ->
  subscripted slice false v u=operate [v,u] (getItem v u)->wpAny (model X.prog X.w) X.A (subscriptTail value slice v u) (EP X pins σ Q) X.xe s
noncomputable def MtR (X:Cx) (id:String) (r:V->List V->Hp->VK->Prop):Prop:=
 ∀ (pins:List (Addr × Obj)) (s:Shared) (σ:St) (H:Hp) (x:V) (xs:List V) (v:Value) (us:List Value) (Q:VK),Inv X pins σ H s->aN x v->aP xs us->r x xs H Q ->
  wpAny (model X.prog X.w) X.A (call (.builtin id) (v::us)) (EP X pins σ Q) X.xe s
section
variable {X:Cx} {a b:Expr} {ta tb:TE} {pos:Pos}
theorem IxR.or {r r':R2} (h:IxR X r) (h':IxR X r'):IxR X (fun x y H Q=>r x y H Q\/r' x y H Q):=by
 intro value slice pins s σ H x y v u Q I rx ry q hs
 rcases q with q | q
 ·exact h value slice pins s σ H x y v u Q I rx ry q hs
 ·exact h' value slice pins s σ H x y v u Q I rx ry q hs
theorem Dc {r:R2} (hr:IxR X r) (ha:PE X a ta) (hb:PE X b tb) (hs:sI b):PE X (.Subscript a b pos) (tOp r ta tb):=by
 intro pins s σ H Q I h
 exact Subscript_ (D3 ha hb I h fun v u s2 x y H2 I2 rx ry q=>hr a b pins s2 σ H2 x y v u Q I2 rx ry q (hs _ _))
noncomputable def IT (K:PySem.W.Frag):R2:=fun x y H Q=>∃ p xs i v,x = .ref p/\y = .int i/\SqL K H p xs/\atI xs i=some v/\Q v H
noncomputable def IU (K:PySem.W.Frag):R2:=fun x y H Q=>∃ p xs i v,x = .ref p/\y = .int i/\SqT K H p xs/\atI xs i=some v/\Q v H
noncomputable def IV:R2:=fun x y H Q=>∃ z i c,x = .str z/\y = .int i/\z.length<=sizeLine/\atI z.cps.toList i=some c/\Q (.str ⟨#[c]⟩) H
theorem KQ:IxR X (IT X.K):=by
 intro value slice pins s σ H x y v u Q I rx ry h hs
 obtain ⟨p,xs,i,z,rfl,rfl,hq,he,q⟩:=h
 cases rx
 obtain ⟨t,rfl⟩:=ry
 obtain ⟨its,r,pl,hz⟩:=I.list hq
 obtain ⟨j,h1,h2,h3,h4,h5⟩:=mZ he
 obtain ⟨w,ew,rw'⟩:=r.get h2
 have hl:=r.length
 have hn:=iO
 have fin:EP X pins σ Q w s:=⟨z,H,I,rw',q⟩
 by_cases h0:0<=i
 ·have hj:i.toNat=j:=by
   rw [seqIndex_of h0 h5] at h1
   exact Option.some.inj h1
  exact item_listR pl.isList h0 (by omega) (by rw [hj];simpa using ew) fin hs
 ·have hj:(i+(its.toArray.size:Int)).toNat=j:=by
   rw [seqIndex_neg (by omega) h4] at h1
   rw [List.size_toArray,<-hl]
   exact Option.some.inj h1
  exact subscriptTail_builtinR (x:=w) pl.isList.typeIs slot_list_getitem.lookup
   (wpAny_getItem_list_neg (Q:=fun r s'=>r=w/\EP X pins σ Q r s') pl.isList (by omega) (by rw [List.size_toArray] <;> omega) (by omega) (by rw [hj];simpa using ew) ⟨rfl,fin⟩) hs
theorem wm:IxR X (IU X.K):=by
 intro value slice pins s σ H x y v u Q I rx ry h hs
 obtain ⟨p,xs,i,z,rfl,rfl,hq,he,q⟩:=h
 cases rx
 obtain ⟨t,rfl⟩:=ry
 obtain ⟨its,r,pl,hz⟩:=I.tuple hq
 obtain ⟨j,h1,h2,h3,h4,h5⟩:=mZ he
 obtain ⟨w,ew,rw'⟩:=r.get h2
 have hl:=r.length
 have hn:=iO
 have fin:EP X pins σ Q w s:=⟨z,H,I,rw',q⟩
 exact subscriptTail_builtinR (x:=w) pl.typeIs slot_tuple_getitem.lookup
  (getItem_tuple (j:=j) (Q:=fun r s'=>r=w/\EP X pins σ Q r s') pl (by omega) (by omega) (by rw [List.size_toArray,<-hl];exact h1) (by simpa using ew) ⟨rfl,fin⟩) hs
theorem Ei:IxR X IV:=by
 intro value slice pins s σ H x y v u Q I rx ry h hs
 obtain ⟨z,i,c,rfl,rfl,hz,he,q⟩:=h
 obtain ⟨t,rfl⟩:=rx
 obtain ⟨t',rfl⟩:=ry
 obtain ⟨j,h1,h2,h3,h4,h5⟩:=mZ he
 have hl:z.cps.toList.length=z.length:=by simp [Str.length]
 rw [hl] at h1 h4 h5
 have hn:=iO
 exact tail_any (typeIs_str s z t) slot_str_getitem.lookup (getItem_str (c:=c) (by
  have e1:decide (i < -(2 ^ 63:Int))=false:=decide_eq_false (by omega)
  have e2:decide (i ≥ 2 ^ 63)=false:=decide_eq_false (by omega)
  rw [e1,e2,Bool.or_false]) (by rw [h1];simpa using h2) ⟨.str ⟨#[c]⟩,H,I.tok _,⟨_,rfl⟩,q⟩) hs
noncomputable def rIx (K:PySem.W.Frag):R2:=fun x y H Q=>IT K x y H Q\/IU K x y H Q\/IV x y H Q
theorem wn:IxR X (rIx X.K):=KQ.or (wm.or Ei)
theorem qC (its:List Value) (n j:Nat) (u:Value):Obj.mapSeq (·.setIfInBounds j u) { cls:=.type "list", data:=.seq its.toArray n }={ cls:=.type "list", data:=.seq (its.set j u).toArray n }:=by
 simp [Obj.mapSeq]
theorem Inv.lst {pins:List (Addr × Obj)} {σ:St} {H:Hp} {s:Shared} {p:Addr} {xs:List V} (I:Inv X pins σ H s) (h:H p=some (.lst xs)) :
  ∃ (its:List Value) (n:Nat),aP xs its/\s.heap.get? p=some { cls:=.type "list", data:=.seq its.toArray n }/\xs.length<=sizeLine:=by
 obtain ⟨z,its,n,r,e⟩:=I.hok p _ h
 exact ⟨its,n,r,e,z⟩
theorem Inv.lstUpd {pins:List (Addr × Obj)} {σ:St} {H:Hp} {s:Shared} {p:Addr} {xs ys:List V} {its its':List Value} {n n':Nat} {f:Obj->Obj} (I:Inv X pins σ H s) (h:H p=some (.lst xs))
  (ho:s.heap.get? p=some { cls:=.type "list", data:=.seq its.toArray n }) (hf:f { cls:=.type "list", data:=.seq its.toArray n }={ cls:=.type "list", data:=.seq its'.toArray n' }) (r:aP ys its') (hz:ys.length<=sizeLine) (t:Nat) :
  Inv X pins σ (upd H p (.lst ys)) { s with heap:=s.heap.update p f,toks:=t }:=by
 have e:(s.heap.update p f).get? p=some { cls:=.type "list", data:=.seq its'.toArray n' }:=by
  rw [Heap.get?_update_self f ho (by rw [hf] <;> rfl),hf]
 refine I.write (x:=p) (e:=p) (by rw [h];trivial) (.inl rfl) (fun b u hb q=>(Heap.get?_update_other _ _ (Ne.symm hb)).trans q) ⟨_,e⟩ ?_
 exact ⟨hz,its',n',r,e⟩
noncomputable def IW:V->V->V->Hp->(Hp->Prop)->Prop:=fun o i v H Q=>∃ p xs k j,o = .ref p/\i = .int k/\H p=some (.lst xs)/\ixN xs.length k=some j/\Q (upd H p (.lst (xs.set j v)))
theorem wo:DW X IW:=by
 intro pins s σ H o i v ov iv u Q I ro ri rv h
 obtain ⟨p,xs,k,j,rfl,rfl,hp,hj,q⟩:=h
 cases ro
 obtain ⟨t,rfl⟩:=ri
 obtain ⟨its,n,r,ho,hz⟩:=I.lst hp
 obtain ⟨h1,h2,h3,h4⟩:=mY hj
 have hl:=r.length
 have hn:=iO
 have I':Inv X pins σ (upd H p (.lst (xs.set j v))) { s with heap:=s.heap.update p (Obj.mapSeq (·.setIfInBounds j u)) }:=
  I.lstUpd hp ho (qC its n j u) (r.set rv j) (by rw [List.length_set];exact hz) s.toks
 by_cases h0:0<=k
 ·have hk:k.toNat=j:=by
   rw [seqIndex_of h0 h4] at h1
   exact Option.some.inj h1
  exact PySem.W.ki_setAt ho h0 (by omega) (by rw [List.size_toArray,<-hl];exact h4) (by rw [hk];exact ⟨_,I',q⟩)
 ·have hk:(k+(its.toArray.size:Int)).toNat=j:=by
   rw [seqIndex_neg (by omega) h3] at h1
   rw [List.size_toArray,<-hl]
   exact Option.some.inj h1
  exact PySem.W.ki_setBack ho (by omega) (by rw [List.size_toArray,<-hl];exact h3) (by omega) (by rw [hk];exact ⟨_,I',q⟩)
theorem m6 (lo hi:Option Int) (n:Nat):(sliceBounds lo hi none n).1=((HT.sIx n 0 lo:Nat):Int)/\(sliceBounds lo hi none n).2.1=((HT.sIx n n hi:Nat):Int)/\(sliceBounds lo hi none n).2.2=1:=by
 refine ⟨?_,?_,rfl⟩
 ·cases lo with
  | none=>simp [sliceBounds,HT.sIx]
  | some i=>
   simp only [sliceBounds,HT.sIx,Option.getD_none,show (1:Int) > 0 by decide,if_true]
   by_cases h:i < 0
   ·simp only [h,if_true] <;> omega
   ·simp only [h,if_false] <;> omega
 ·cases hi with
  | none=>simp [sliceBounds,HT.sIx]
  | some i=>
   simp only [sliceBounds,HT.sIx,Option.getD_none,show (1:Int) > 0 by decide,if_true]
   by_cases h:i < 0
   ·simp only [h,if_true] <;> omega
   ·simp only [h,if_false] <;> omega
theorem lP (its:List Value) (lo hi:Option Int):slicePick its.toArray lo hi none=((its.drop (HT.sIx its.length 0 lo)).take (HT.sIx its.length its.length hi - HT.sIx its.length 0 lo)).toArray:=by
 obtain ⟨h1,h2,h3⟩:=m6 lo hi its.toArray.size
 unfold slicePick
 rw [h1,h2,h3]
 simp only [sliceRange_one,pick_run,List.size_toArray] <;> rfl
noncomputable def K4 (K:PySem.W.Frag):V->Option Int->Option Int->Hp->VK->Prop:=fun x lo hi H Q=>∃ a xs,x = .ref a/\SqL K H a xs/\∀ p,H p=none->Q (.ref p) (upd H p (.lst (j9 xs lo hi)))
theorem zW:SlR X (K4 X.K):=by
 intro pins s σ H x v vl vu lo hi sl Q I rx hs pl pu h
 obtain ⟨a,xs,rfl,hx,q⟩:=h
 cases rx
 obtain ⟨its,r,ht,hz⟩:=I.list hx
 have hlen:=r.length
 refine ⟨"list", _,slot_list_getitem.lookup,ht.isList.typeIs,?_⟩
 refine wpAny_getItem_list_slice ht.isList hs pl pu .none (by simp) ?_ (by rw [List.size_toArray] <;> omega)
 rw [lP,<-hlen]
 refine ⟨.ref s.heap.objs.size,_,I.laid (t':=s.toks) (o:=.lst (j9 xs lo hi)) (fun b ob q=>Heap.get?_push_of_some _ q) (Nat.le_refl _) ?_,rfl,q _ (I.hok.fresh (Nat.le_refl _))⟩
 exact ⟨Nat.le_trans (je xs lo hi) hz,_,0,(r.drop (HT.sIx xs.length 0 lo)).take (HT.sIx xs.length xs.length hi - HT.sIx xs.length 0 lo),Heap.get?_push_size _ rfl⟩
noncomputable def dF:V->Bool
 | .non=>true
 | .bl _=>true
 | .int _=>true
 | .str _=>true
 | _=>false
noncomputable def eqV:V->V->Bool
 | .non,.non=>true
 | .bl a,.bl b=>a == b
 | .bl a,.int b=>(if a then 1 else 0) == b
 | .int a,.bl b=>a == (if b then 1 else 0)
 | .int a,.int b=>a == b
 | .str a,.str b=>a == b
 | _,_=>false
theorem Ej {A:Around} {s:Shared} {y x:V} {u v:Value} (ry:aN y u) (rx:aN x v) (fy:dF y=true) (fx:dF x=true):SeqAt.EqAt A s u v (eqV y x):=by
 cases y with
 | non=>
  cases ry
  cases x with
  | non=>cases rx;exact SeqAt.EqAt.same _
  | bl b=>cases rx;exact SeqAt.EqAt.none_bool b
  | int b=>obtain ⟨t,rfl⟩:=rx;exact SeqAt.EqAt.none_int b t
  | str b=>obtain ⟨t,rfl⟩:=rx;exact SeqAt.EqAt.none_str b t
  | _=>exact absurd (show false=true from fx) Bool.false_ne_true
 | bl a=>
  cases ry
  cases x with
  | non=>cases rx;exact SeqAt.EqAt.bool_none a
  | bl b=>cases rx;exact SeqAt.EqAt.bool_bool a b
  | int b=>obtain ⟨t,rfl⟩:=rx;exact SeqAt.EqAt.bool_int a b t
  | str b=>obtain ⟨t,rfl⟩:=rx;exact SeqAt.EqAt.bool_str a b t
  | _=>exact absurd (show false=true from fx) Bool.false_ne_true
 | int a=>
  obtain ⟨t',rfl⟩:=ry
  cases x with
  | non=>cases rx;exact SeqAt.EqAt.int_none a t'
  | bl b=>cases rx;exact SeqAt.EqAt.int_bool a t' b
  | int b=>obtain ⟨t,rfl⟩:=rx;exact SeqAt.EqAt.int_int a t' b t
  | str b=>obtain ⟨t,rfl⟩:=rx;exact SeqAt.EqAt.int_str a t' b t
  | _=>exact absurd (show false=true from fx) Bool.false_ne_true
 | str a=>
  obtain ⟨t',rfl⟩:=ry
  cases x with
  | non=>cases rx;exact SeqAt.EqAt.str_none a t'
  | bl b=>cases rx;exact SeqAt.EqAt.str_bool a t' b
  | int b=>obtain ⟨t,rfl⟩:=rx;exact SeqAt.EqAt.str_int a t' b t
  | str b=>obtain ⟨t,rfl⟩:=rx;exact SeqAt.EqAt.str_str a t' b t
  | _=>exact absurd (show false=true from fx) Bool.false_ne_true
 | _=>exact absurd (show false=true from fy) Bool.false_ne_true
noncomputable def eqU (x:V) (u:Value):Bool:=match u with
 | .none=>eqV .non x
 | .bool b=>eqV (.bl b) x
 | .int i _=>eqV (.int i) x
 | .str z _=>eqV (.str z) x
 | _=>false
theorem qD {x y:V} {u:Value} (r:aN y u) (f:dF y=true):eqU x u=eqV y x:=by
 cases y with
 | non=>cases r;rfl
 | bl b=>cases r;rfl
 | int i=>obtain ⟨t,rfl⟩:=r;rfl
 | str z=>obtain ⟨t,rfl⟩:=r;rfl
 | _=>exact absurd (show false=true from f) Bool.false_ne_true
theorem hX {x:V}:∀ {xs:List V} {us:List Value},aP xs us->xs.all dF=true->us.any (eqU x)=xs.any fun y=>eqV y x
 | _,_,.nil,_=>rfl
 | y::xs,u::us,.cons r t,f=>by
  rw [List.all_cons,bAE] at f
  rw [List.any_cons,List.any_cons,qD r f.1,hX t f.2]
theorem dG {A:Around} {s:Shared} {x:V} {v:Value} (rx:aN x v) (fx:dF x=true):∀ {xs:List V} {us:List Value},aP xs us->xs.all dF=true->∀ u ∈ us,SeqAt.EqAt A s u v (eqU x u)
 | _,_,.nil,_=>fun u hu=>by cases hu
 | y::xs,u::us,.cons r t,f=>fun u' hu=>by
  rw [List.all_cons,bAE] at f
  rcases List.mem_cons.mp hu with rfl | hu
  ·rw [qD r f.1];exact Ej r rx f.1 fx
  ·exact dG rx fx t f.2 u' hu
noncomputable def inV (x:V) (xs:List V):Bool:=xs.any fun y=>eqV y x
noncomputable def rIn (K:PySem.W.Frag) (neg:Bool):R2:=fun x y H Q=>∃ p xs,y = .ref p/\(SqL K H p xs\/SqT K H p xs)/\dF x=true/\xs.all dF=true/\Q (.bl (if neg then !inV x xs else inV x xs)) H
theorem uu:OpR X (compareOp .In) (rIn X.K false):=by
 intro pins s σ H x y v u Q I rx ry h
 obtain ⟨p,xs,rfl,hq,fx,fs,q⟩:=h
 cases ry
 rcases hq with hq | hq
 ·obtain ⟨its,r,pl,hz⟩:=I.list hq
  refine SeqAt.in_listAt (eqU x) pl.isList (fun w hw=>dG rx fx r fs w (by simpa using hw)) ⟨.bl _,H,I,rfl,?_⟩
  rw [show its.toArray.any (eqU x)=its.any (eqU x) by simp,hX r fs]
  exact q
 ·obtain ⟨its,r,pl,hz⟩:=I.tuple hq
  refine SeqAt.in_tupleAt (eqU x) pl (fun w hw=>dG rx fx r fs w (by simpa using hw)) ⟨.bl _,H,I,rfl,?_⟩
  rw [show its.toArray.any (eqU x)=its.any (eqU x) by simp,hX r fs]
  exact q
theorem m7:OpR X (compareOp .NotIn) (rIn X.K true):=by
 intro pins s σ H x y v u Q I rx ry h
 obtain ⟨p,xs,rfl,hq,fx,fs,q⟩:=h
 cases ry
 rcases hq with hq | hq
 ·obtain ⟨its,r,pl,hz⟩:=I.list hq
  refine SeqAt.notIn_listAt (eqU x) pl.isList (fun w hw=>dG rx fx r fs w (by simpa using hw)) ⟨.bl _,H,I,rfl,?_⟩
  rw [show its.toArray.any (eqU x)=its.any (eqU x) by simp,hX r fs]
  exact q
 ·obtain ⟨its,r,pl,hz⟩:=I.tuple hq
  refine SeqAt.notIn_tupleAt (eqU x) pl (fun w hw=>dG rx fx r fs w (by simpa using hw)) ⟨.bl _,H,I,rfl,?_⟩
  rw [show its.toArray.any (eqU x)=its.any (eqU x) by simp,hX r fs]
  exact q
theorem m8:a8 X (.builtin "len") (fun xs H Q=>∃ p ys,xs=[.ref p]/\(SqL X.K H p ys\/SqT X.K H p ys)/\Q (.int ys.length) H):=by
 intro pins s σ H xs us Q I r h
 obtain ⟨p,ys,rfl,hq,q⟩:=h
 obtain ⟨u,rfl,rx⟩:=cJ r
 cases rx
 have hn:=iO
 rcases hq with hq | hq
 ·obtain ⟨its,r',pl,hz⟩:=I.list hq
  have hlen:=r'.length
  exact Calls.call_len_list pl.isList (by simp only [List.size_toArray] <;> omega) ⟨.int ys.length,H,I.tok _,⟨s.toks+1,by rw [List.size_toArray,hlen]⟩,q⟩
 ·obtain ⟨its,r',pl,hz⟩:=I.tuple hq
  have hlen:=r'.length
  exact len_tuple pl (by simp only [List.size_toArray] <;> omega) ⟨.int ys.length,H,I.tok _,⟨s.toks+1,by rw [List.size_toArray,hlen]⟩,q⟩
theorem lQ:a8 X (.type "tuple") (fun xs H Q=>∃ p ys,xs=[.ref p]/\((SqL X.K H p ys/\∀ l,H l=none->Q (.ref l) (upd H l (.tup ys)))\/(SqT X.K H p ys/\Q (.ref p) H))):=by
 intro pins s σ H xs us Q I r h
 obtain ⟨p,ys,rfl,h⟩:=h
 obtain ⟨u,rfl,rx⟩:=cJ r
 cases rx
 rcases h with ⟨hq,q⟩ | ⟨hq,q⟩
 ·obtain ⟨its,r',pl,hz⟩:=I.list hq
  have hlen:=r'.length
  refine call_tuple_list pl.isList (fun h' kp=>?_) (by simp only [List.size_toArray] <;> omega)
  have I1:Inv X pins σ H { s with heap:=h' }:=I.kept (t':=s.toks) kp
  have I2:Inv X pins σ (upd H h'.objs.size (.tup ys)) { s with heap:=h'.push { cls:=.type "tuple", data:=.seq its.toArray } }:=
   I1.laid (t':=s.toks) (fun b o e=>Heap.get?_push_of_some _ e) (Nat.le_refl _) (show bO X.prog X.w _ _ _ (.tup ys) from ⟨hz,its,r',mW.new _ _⟩)
  exact ⟨.ref h'.objs.size,_,I2,rfl,q _ (I1.hok.fresh (Nat.le_refl _))⟩
 ·obtain ⟨its,r',pl,hz⟩:=I.tuple hq
  exact call_tuple_same pl ⟨.ref p,H,I,rfl,q⟩
noncomputable def tyV (K:PySem.W.Frag) (T:String) (x:V) (H:Hp):Prop:=match x with
 | .str _=>T = "str"
 | .int _=>T = "int"
 | .ref p=>(T = "list"/\∃ xs,SqL K H p xs)\/(T = "tuple"/\((∃ o,K.lookup p=some o/\o.cls = .type "tuple"/\o.dict=none)\/∃ xs,H p=some (.tup xs))) ∨
   (T = "dict"/\((∃ kvs,H p=some (.dK kvs))\/∃ kvs,H p=some (.dT kvs)))\/(T = "set"/\∃ S n,H p=some (.set S n))
 | _=>False
theorem Ek {pins:List (Addr × Obj)} {σ:St} {H:Hp} {s:Shared} {T:String} {x:V} {v:Value} (I:Inv X pins σ H s) (r:aN x v) (ty:tyV X.K T x H) :
  s.TypeIs v T/\∀ a,v = .ref a->∃ ob,s.heap.get? a=some ob/\ob.dict=none:=by
 cases x with
 | str z=>
  obtain ⟨t,rfl⟩:=r
  cases (show T = "str" from ty)
  exact ⟨typeIs_str s z t,fun _ e=>nomatch e⟩
 | int i=>
  obtain ⟨t,rfl⟩:=r
  cases (show T = "int" from ty)
  exact ⟨typeIs_int s i t,fun _ e=>nomatch e⟩
 | ref p=>
  cases r
  rcases ty with ⟨rfl,xs,hq⟩ | ⟨rfl,⟨o,hk,hc,hd⟩ | ⟨xs,hk⟩⟩ | ⟨rfl,hk⟩ | ⟨rfl,S,n,hk⟩
  ·obtain ⟨its,_,pl,_⟩:=I.list hq
   refine ⟨pl.isList.typeIs,fun a e=>?_⟩
   cases e
   obtain ⟨o,n,e,c,hd,_⟩:=pl
   exact ⟨o,e,hd⟩
  ·refine ⟨⟨o,I.kIn p o hk,hc⟩,fun a e=>?_⟩
   cases e
   exact ⟨o,I.kIn _ o hk,hd⟩
  ·obtain ⟨_,its,_,o,e,hc,_,_,hd⟩:=I.hok p _ hk
   refine ⟨⟨o,e,hc⟩,fun a e2=>?_⟩
   cases e2
   exact ⟨o,e,hd⟩
  ·have z:∃ o,s.heap.get? p=some o/\o.ExactDict:=by
    rcases hk with ⟨kvs,hk⟩ | ⟨kvs,hk⟩
    ·obtain ⟨_,_,_,_,o,_,_,e,ex,_⟩:=I.hok p _ hk
     exact ⟨o,e,ex⟩
    ·obtain ⟨_,_,_,_,o,_,_,e,ex,_⟩:=I.hok p _ hk
     exact ⟨o,e,ex⟩
   obtain ⟨o,e,ex⟩:=z
   refine ⟨⟨o,e,ex.1⟩,fun a e2=>?_⟩
   cases e2
   exact ⟨o,e,ex.2.1⟩
  ·obtain ⟨o,_,_,_,e,ex,_⟩:=I.hok p _ hk
   refine ⟨⟨o,e,ex.1⟩,fun a e2=>?_⟩
   cases e2
   exact ⟨o,e,ex.2.1⟩
 | _=>exact False.elim ty
noncomputable def tBM (K:PySem.W.Frag) (T:String) (r:V->List V->Hp->VK->Prop) (to:TE) (t:TA):TE:=fun σ H Q=>to σ H fun x H1=>tyV K T x H1/\t σ H1 fun xs H2=>r x xs H2 Q
variable {o e:Expr} {es:List Expr} {to:TE} {t:TA} {name:Str} {apos cpos:Pos} {T id:String} {r:V->List V->Hp->VK->Prop}
theorem wp (pa:PlainAttrs T) (slot:Slot T name id) (hty:typeOf (.builtin id)=pure (.type "method_descriptor")) (hm:MtR X id r) (ho:PE X o to) (ha:PA X (e::es) t)
  (hbase:attributeBase o name X.env (eval o X.env)=eval o X.env:=by rfl)
  (hfew:((backTo cpos (starEach (e::es) X.env)).all (fun x=>!x.1) && (backToKw cpos (keywordEach [] X.env)).all (fun x=>x.1.isSome)
   && decide ((e::es).length+([]:List Keyword).length+(if ([]:List Keyword).isEmpty then 0 else 1) < 30))=true:=by rfl)
  (hline:(apos.endLine == cpos.line)=true:=by rfl) (hs:starEach (e::es) X.env=(false,eval e X.env)::starEach es X.env:=by rfl) (hplain:(backTo cpos (starEach es X.env)).any (·.1)=false:=by rfl) :
  PE X (.Call (.Attribute o name apos) (e::es) [] cpos) (tBM X.K T r to t):=by
 intro pins s σ H Q I h
 refine wpAny_Call_method_late hbase hfew hline rfl (thn (ho pins s σ H _ I h) fun v s1 ⟨x,H1,I1,r1,ty,q1⟩=>?_)
 obtain ⟨h1,h2⟩:=Ek I1 r1 ty
 refine ⟨T,id,pa,slot,hty,h1,h2,?_⟩
 have hA:=ha cpos pins s1 σ H1 _ I1 q1
 rw [hs] at hA ⊢
 refine Calls.callWith_builtin (by show (false || (backTo cpos (starEach es X.env)).any (·.1))=false;rw [hplain] <;> rfl) (Calls.evalArgs_plain ?_)
 exact thn hA fun us s2 ⟨vs,H2,I2,r2,q2⟩=>hm pins s2 σ H2 x vs v us Q I2 r1 r2 q2
end
end L2
namespace L2
open PySem PySem.Spec PyProof.Rows
noncomputable def MtM (X:Cx) (id:String) (r:V->List V->Hp->VK->Prop):Prop:=
 ∀ (pins:List (Addr × Obj)) (s:Shared) (σ:St) (H:Hp) (x:V) (xs:List V) (v:Value) (us:List Value) (Q:VK),Inv X pins σ H s->aN x v->aP xs us->r x xs H Q ->
  wpAny (model X.prog X.w) X.A (call (.builtin id) (v::us)) (EP X pins σ Q) X.xe s
theorem aP.one:∀ {x:V} {us:List Value},aP [x] us->∃ u,us=[u]/\aN x u
 | _,_,.cons r .nil=>⟨_,rfl,r⟩
theorem aP.eraseIdx:∀ {xs:List V} {us:List Value} (i:Nat),aP xs us->aP (xs.eraseIdx i) (us.eraseIdx i)
 | _,_,_,.nil=>.nil
 | _,_,0,.cons _ t=>t
 | _,_,i+1,.cons r t=>.cons r (aP.eraseIdx i t)
theorem md {α:Type}:∀ (l:List α) (i:Nat),(l.eraseIdx i).length<=l.length
 | [],_=>Nat.le_refl _
 | _::_,0=>Nat.le_succ _
 | _::r,i+1=>Nat.succ_le_succ (md r i)
section
variable {X:Cx} {pins:List (Addr × Obj)} {σ:St} {H:Hp} {s:Shared} {l b:Addr} {xs ys zs:List V}
theorem Inv.lset {its its':List Value} {n:Nat} {f:Array Value->Array Value} {t':Nat} (I:Inv X pins σ H s) (hH:H l=some (.lst xs))
  (e:s.heap.get? l=some { cls:=.type "list", data:=.seq its.toArray n }) (hf:f its.toArray=its'.toArray) (hv:aP ys its') (hz:ys.length<=sizeLine) :
  Inv X pins σ (upd H l (.lst ys)) { s with heap:=s.heap.update l (Obj.mapSeq f),toks:=t' }:=by
 have q:=PySem.IsL.update e f
 rw [hf] at q
 refine I.write (x:=l) (e:=l) (by rw [hH];exact trivial) (.inl rfl) (fun b' u hb hu=>(Heap.get?_update_other s.heap (Obj.mapSeq f) (Ne.symm hb)).trans hu) ⟨_,q⟩ ?_
 exact ⟨hz,its',_,hv,q⟩
theorem Inv.lnew {its:List Value} {t':Nat} (I:Inv X pins σ H s) (hv:aP ys its) (hz:ys.length<=sizeLine) :
  Inv X pins σ (upd H s.heap.objs.size (.lst ys)) { s with heap:=s.heap.push { cls:=.type "list", data:=.seq its.toArray },toks:=t' }:=
 I.laid (fun _ _ q=>Heap.get?_push_of_some _ q) (Nat.le_refl _) ⟨hz,its,0,hv,Heap.get?_push_size _ rfl⟩
theorem Inv.fresh (I:Inv X pins σ H s):H s.heap.objs.size=none:=I.hok.fresh (Nat.le_refl _)
theorem Inv.lstM (I:Inv X pins σ H s) (hH:H l=some (.lst xs)):xs.length<=sizeLine/\∃ (its:List Value) (n:Nat),aP xs its/\xs.length=its.length/\s.heap.get? l=some { cls:=.type "list", data:=.seq its.toArray n }:=by
 obtain ⟨z,its,n,r,e⟩:=I.hok l _ hH
 exact ⟨z,its,n,r,r.length,e⟩
end
section
variable {X:Cx}
noncomputable def zX:V->List V->Hp->VK->Prop:=fun x vs H Q=>∃ l xs y,x = .ref l/\vs=[y]/\H l=some (.lst xs)/\xs.length < sizeLine/\Q .non (upd H l (.lst (xs++[y])))
theorem mf:MtM X "list.append" zX:=by
 intro pins s σ H x vs v us Q I rx rv h
 obtain ⟨l,xs,y,rfl,rfl,hH,hz,q⟩:=h
 cases rx
 obtain ⟨u,rfl,ru⟩:=rv.one
 obtain ⟨z,its,n,r,hl,e⟩:=I.lstM hH
 refine call_meets F.slot_list_append ⟨_,e,rfl⟩ F.entry_list_append (F.args_list_append_2 _ _) (PySem.list_append l its.toArray n u (by rw [List.size_toArray];omega)) ⟨e,?_⟩
 refine ⟨.non,_,I.lset (its':=its++[u]) hH e (by simp) (r.append (.cons ru .nil)) ?_,rfl,q⟩
 rw [List.length_append,List.length_singleton]
 omega
noncomputable def El:V->List V->Hp->VK->Prop:=fun x vs H Q=>∃ l xs i k y,x = .ref l/\vs=[.int i]/\H l=some (.lst xs)/\-(2 ^ 63)<=i/\i < 2 ^ 63/\seqIndex? i xs.length=some k/\xs[k]?=some y/\Q y (upd H l (.lst (xs.eraseIdx k)))
theorem wq:MtM X "list.pop" El:=by
 intro pins s σ H x vs v us Q I rx rv h
 obtain ⟨l,xs,i,k,y,rfl,rfl,hH,h1,h2,hk,hy,q⟩:=h
 cases rx
 obtain ⟨u,rfl,ru⟩:=rv.one
 obtain ⟨t,rfl⟩:=ru
 obtain ⟨z,its,n,r,hl,e⟩:=I.lstM hH
 obtain ⟨w,hw,rw'⟩:=r.get hy
 refine call_meets F.slot_list_pop ⟨_,e,rfl⟩ F.entry_list_pop (F.args_list_pop_2 _ _)
  (MeetsSeq.list_pop_at l its.toArray n i t k w (fitsIndex_both h1 h2) (by rw [List.size_toArray,<-hl];exact hk) (by rw [<-Array.getElem?_toList];exact hw) (by rw [List.size_toArray];omega)) ⟨e,?_⟩
 refine ⟨y,_,I.lset (its':=its.eraseIdx k) hH e ?_ (r.eraseIdx k) ?_,rw',q⟩
 ·show its.toArray.eraseIdxIfInBounds k=(its.eraseIdx k).toArray
  rw [List.eraseIdxIfInBounds_toArray]
 ·have:=md xs k
  omega
noncomputable def K5:R2:=fun x y H Q=>∃ l b xs zs,x = .ref l/\y = .ref b/\H l=some (.lst xs)/\H b=some (.lst zs)/\xs.length+zs.length<=sizeLine/\∀ p,H p=none->Q (.ref p) (upd H p (.lst (xs++zs)))
theorem Em:OpR X (binaryOp .Add) K5:=by
 intro pins s σ H x y v u Q I rx ry h
 obtain ⟨l,b,xs,zs,rfl,rfl,hH,hB,hz,q⟩:=h
 cases rx
 cases ry
 obtain ⟨z,its,n,r,hl,e⟩:=I.lstM hH
 obtain ⟨z2,its2,n2,r2,hl2,e2⟩:=I.lstM hB
 refine PySem.P.add_list e e2 ?_ (by rw [List.size_toArray,List.size_toArray];omega)
 have ea:its.toArray++its2.toArray=(its++its2).toArray:=by simp
 rw [ea]
 exact ⟨.ref _,_,I.lnew (t':=s.toks) (r.append r2) (by rw [List.length_append];omega),rfl,q _ I.fresh⟩
end
end L2
namespace Att
open PySem PySem.W PySem.Calls PyProof.Rows
theorem jH {P:Params} {h:Heap}:∀ (ns:List Int) (vs:List Value),WellAll P h vs (ns.map WData.int)->IntsAre vs ns:=by
 intro ns
 induction ns with
 | nil=>
  intro vs w
  rw [List.map_nil] at w
  cases w
  exact .nil
 | cons n ns ih=>
  intro vs w
  rw [List.map_cons] at w
  cases w with
  | cons a b=>
   cases a
   exact .cons _ _ (ih _ b)
theorem uv {l:OpenLaw} {n:Nat} (hn:l.most=some n) {P:Params} {h:Heap} {args:List WData} {vals:List Value}
  (hpre:l.row.toRowW.claim.pre args=true) (hwl:WellAll P h vals args) :
  ∃ a vs ns,vals=[Value.ref a]/\args=[WData.list (ns.map WData.int)]/\h.get? a=some { cls:=.type "list", data:=.seq vs.toArray }/\IntsAre vs ns/\ns.length<=n:=by
 have hsh:WShape.hasAll [] args [.list .int]=true:=(pre_splitW hpre).1
 have hc:l.pre.holds [] { args:=args }=true:=(pre_splitW hpre).2
 obtain ⟨d,r,rfl,h1,h2⟩:=hasAllW_cons hsh
 obtain rfl:=hasAllW_nil h2
 obtain ⟨xs,rfl,h3⟩:=hasW_list h1
 obtain ⟨ns,rfl⟩:=items_int h3
 have hlen:ns.length<=n:=by
  unfold OpenLaw.pre at hc
  have h4:(WTm.not (.lt (.lit (.int (n:Int))) (.len (.arg 0)))).holds [] { args:=[.list (ns.map .int)] }=true:=by
   have h4:=(holds_andW hc).1
   rw [hn] at h4
   exact h4
  have h5:=condW_of h4 (w_not (w_lt w_lit (w_len_list (w_arg rfl))))
  rw [List.length_map] at h5
  refine Nat.le_of_not_lt fun q=>?_
  have q':(n:Int) < ((ns.length:Nat):Int):=by omega
  first
   | (rw [decide_eq_true q'] at h5;exact absurd h5 (by decide))
   | (simp at h5;omega)
 cases hwl with
 | cons w1 w2=>
  cases w2
  cases w1 with
  | list ho hall=>exact ⟨_,_,ns,rfl,rfl,ho,jH ns _ hall,hlen⟩
theorem uw (l:OpenLaw) (args:List WData):l.row.toRowW.claim.post args (.bool true) args=true:=
 postW_of (r:=l.row.toRowW) (X:=(true == true))
  (show WShape.has [] (.bool true) .bool=true by first | rfl | decide | simp [WShape.has,WShape.arms,WShape.armsAll])
  (show (WTm.eq .res (.lit (.bool true))).value [] { args:=args,res:=some (.bool true),after:=args }=some (.bool (true == true)) from w_eq_bool (w_res rfl) w_lit) rfl
theorem attach_call {l:OpenLaw} {n:Nat} {q:Program} {loose:List Str} {XP:(Str->Option Value)->Heap->Prop} {YP:World->Heap->Prop} {d:DefRec}
  (hn:l.most=some n) (hdf:d.params.defaults=[])
  (call:∀ (w:World) (s₀ s₁:Shared) (mg mb:Str->Option Value) (fa:Addr) (o:Obj) (pm cd doc:Value) (a:Addr) (vs:List Value) (ns:List Int),
   Ground q loose [] XP w s₀ mg mb s₁.heap->YP w s₁.heap ->
   s₁.heap.get? fa=some o->o.data = .func (docDef d.name d.params d.body d.scope pm cd doc)->s₁.heap.CodeRec cd d.name->mg d.name=some (.ref fa) ->
   s₁.heap.get? a=some { cls:=.type "list", data:=.seq vs.toArray }->IntsAre vs ns->ns.length<=n->s₁.gens=#[] ->
   codeAny (model l.prog w) callerA (.call (.ref fa) ⟨[.ref a],[]⟩) (fun r s'=>r = .ok (.ret (.bool true))/\OldK s₁.heap s'.heap/\s'.os=s₁.os/\AllBare s'.gens) s₁) :
  WalkO q loose XP YP l.row.toRowW d [] (fun f vs=>PySem.call f vs):=by
 intro w s₀ s₁ mg mb G Y fa o pm cd doc dV kV ho hd hcd hD hmg hg args vals as hpre hlay hrd hwl hlo
 obtain rfl:dV = .none:=Dflts.none hD hdf
 obtain rfl:kV = .none:=Dflts.noKw hD
 obtain ⟨a,vs,ns,rfl,rfl,hobj,hints,hlen⟩:=uv hn hpre hwl
 refine enter_call (codeAny_mono (call w s₀ s₁ mg mb fa o pm cd doc a vs ns G Y ho (fd_plain hd) hcd hmg hobj hints hlen hg) fun r s' hq=>?_)
 obtain ⟨rfl,h2,h3,h4⟩:=hq
 exact ⟨.inl ⟨.bool true,.bool true,[],rfl,fun _=>rfl,.bool true,uw l _,fun _=>⟨List.Pairwise.nil,fun _ hm=>(nomatch hm)⟩⟩,h2,h3,h4⟩
end Att
namespace L2
open PySem PySem.Spec PyProof.Rows
theorem iQ:∀ {vs:List Value} {ns:List Int},IntsAre vs ns->aP (ns.map V.int) vs
 | _,_,.nil=>.nil
 | _,_,.cons n t h=>.cons ⟨t,rfl⟩ (iQ h)
noncomputable def IX (H:Hp):Prop:=∀ b,H b=none\/∃ o xs,H b=some (.frz o (.lst xs))
theorem wt {P:Program} {w:World} {K:PySem.W.Frag} {mg mb:Str->Option Value} {CX:CXT} {k:Nat} {fa a:Addr} {fd:FuncData} {x:Str} {sp:Sp} {s₁:Shared} {vs:List Value} {ns:List Int}
  (KX:K.In s₁.heap) (hns:s₁.heap.Ns mainGlobals mg) (hb:s₁.heap.Ns builtinsNs mb) (hbb:∀ x:Str,x ≠ "__name__"->mb x=bootBuiltins x) (hlim:s₁.heap.NoLimit) (hg:s₁.gens=#[])
  (ha:s₁.heap.get? a=some { cls:=.type "list", data:=.seq vs.toArray }) (hi:IntsAre vs ns) (hl:ns.length<=sizeLine) (hr:Room k callerA)
  (F:∀ base:Heap,K.In base->base.Ns mainGlobals mg->FnOk P w K mg base CX k fa fd [x] sp) (hbind:∀ (s:Shared) (u:Value),BindsTo s fd ⟨[u],[]⟩ [(x,u)])
  (hsp:∀ H:Hp,IX H->SqL K H a (ns.map V.int)->sp [.ref a] H (fun v _=>v = .bl true) fun _ _ _=>False)
  (hCX:∀ H e s',CX [] H s₁ (fun _ _ _=>False) e s'->False) :
  codeAny (model P w) callerA (.call (.ref fa) ⟨[.ref a],[]⟩) (fun r s'=>r = .ok (.ret (.bool true))/\OldK s₁.heap s'.heap/\s'.os=s₁.os/\AllBare s'.gens) s₁:=by
 have rv:=iQ hi
 have lenV:=hi.length
 have core:∀ H:Hp,IX H->SqL K H a (ns.map V.int)->HOk P w H s₁.heap->(∀ b,H b ≠ none->b=a)->(H a ≠ none->K.lookup a=none) ->
   codeAny (model P w) callerA (.call (.ref fa) ⟨[.ref a],[]⟩) (fun r s'=>r = .ok (.ret (.bool true))/\OldK s₁.heap s'.heap/\s'.os=s₁.os/\AllBare s'.gens) s₁:=by
  intro H hO hS hok hA hK
  have base_of:∀ {b:Addr} {o:Obj},s₁.heap.get? b=some o->H b=none->(mX s₁.heap H).get? b=some o:=fun e n=>vQ e n
  have noA:∀ {b:Addr} {o:Obj} {es:Array DictEntry} {ep:Nat},s₁.heap.get? b=some o->o.data = .dict es ep->H b=none:=fun {b o es ep} e d=>by
   cases q:H b with
   | none=>rfl
   | some u=>
    have e':b=a:=hA b (by rw [q];simp)
    subst e'
    rw [ha] at e;cases e
    have d':Data.seq vs.toArray _=Data.dict es ep:=d
    cases d'
  have nsK:∀ {b:Addr} {m:Str->Option Value},s₁.heap.Ns b m->(mX s₁.heap H).Ns b m:=fun {b m} ⟨o,es,ep,e,d,r⟩=>⟨o,es,ep,base_of e (noA e d),d,r⟩
  have hKb:K.In (mX s₁.heap H):=fun b o e=>base_of (KX b o e) (by
   cases q:H b with
   | none=>rfl
   | some u=>
    have e':b=a:=hA b (by rw [q];simp)
    subst e'
    rw [hK (by rw [q];simp)] at e;cases e)
  have hM:Mod K mg (mX s₁.heap H):=⟨hKb,nsK hns,⟨mb,nsK hb,hbb⟩,let ⟨mc,h1,h2⟩:=hlim;⟨mc,nsK h1,h2⟩⟩
  have e0:Env0 P w K mg (mX s₁.heap H) callerA [] s₁ H:=⟨rfl,hM,fun b o e=>zA e,Nat.le_of_eq (ug _ _),trivial,fun b hb=>absurd (show b ∈ ([]:List Addr) from hb) (by simp),hok,.of_eq hg⟩
  refine codeAny_mono ((F _ hKb (nsK hns)).run callerA [] s₁ H ⟨[.ref a],[]⟩ [.ref a] [.ref a] _ _ hr e0 (hbind s₁ (.ref a)) (.cons rfl .nil) (hsp H hO hS)) fun r s' h=>?_
  cases r with
  | error e=>exact (hCX H e s' h).elim
  | ok fl=>
   cases fl with
   | next=>exact False.elim h
   | brk=>exact False.elim h
   | cont=>exact False.elim h
   | ret u=>
    obtain ⟨v,H',os,bare,un,hok',r',q⟩:=h
    have q':v = .bl true:=q
    subst q'
    obtain rfl:u=Value.bool true:=r'
    refine ⟨rfl,OldK.of_keep fun b o e=>?_,os,bare⟩
    cases q:H b with
    | none=>exact un.keep b o e q (by intro z;exact absurd (show b ∈ ([]:List Addr) from z) (by simp)) (by simp)
    | some u=>
     rcases hO b with z | ⟨ob,xs,z⟩
     ·rw [q] at z;cases z
     ·have z2:=un.frzs b ob _ z
      obtain ⟨e1,_⟩:=hok b _ z
      obtain ⟨e2,_⟩:=hok' b _ z2
      rw [e] at e1;cases e1
      exact e2
 cases hk:K.lookup a with
 | some o=>
  have e:=KX a o hk
  rw [ha] at e
  cases e
  refine core (fun _=>none) (fun _=>.inl rfl) (.inr ⟨_,vs.toArray,_,hk,rfl,rfl,rfl,by rw [List.size_toArray,lenV];exact hl,by simpa using rv⟩) (fun b u z=>by have z':(none:Option HO)=some u:=z;cases z') (fun b z=>absurd rfl z) fun z=>absurd rfl z
 | none=>
  refine core (fun b=>if b=a then some (.frz { cls:=.type "list", data:=.seq vs.toArray } (.lst (ns.map V.int))) else none) (fun b=>?_) (.inl (.inr ⟨{ cls:=.type "list", data:=.seq vs.toArray },if_pos rfl⟩)) (fun b u z=>?_) (fun b z=>?_) fun _=>hk
  ·by_cases hb:b=a
   ·exact .inr ⟨_,_,if_pos hb⟩
   ·exact .inl (if_neg hb)
  ·by_cases hb:b=a
   ·have z':=(if_pos hb).symm.trans z
    cases z'
    subst hb
    exact ⟨ha,by rw [List.length_map];exact hl,vs,_,rv,ha⟩
   ·have z':=(if_neg hb).symm.trans z
    cases z'
  ·by_cases hb:b=a
   ·exact hb
   ·exact absurd (if_neg hb) z
end L2
namespace L2
open PySem PySem.Spec PyProof.Rows
noncomputable def dS (s:Stmt):Arguments:=match s with
 | .FunctionDef _ a _ _ _ _ _ _ _ _=>a
 | _=>{ posonlyargs:=[],args:=[],vararg:=none,kwonlyargs:=[],kw_defaults:=[],kwarg:=none,defaults:=[] }
noncomputable def b9 (s:Stmt):List Stmt:=match s with
 | .FunctionDef _ _ b _ _ _ _ _ _ _=>b
 | _=>[]
noncomputable def bh (s:Stmt):Scope:=match s with
 | .FunctionDef _ _ _ _ _ _ sc _ _ _=>sc
 | _=>{ kind:=.function,names:=[],isGenerator:=false,isCoroutine:=false }
noncomputable abbrev CX0:CXT:=fun _ _ _ _ _ _=>False
noncomputable abbrev E0:XK:=fun _ _ _=>False
theorem IY {X:Cx}:qy CX0 X E0:=fun _ _ _ _ _ _ _ h=>h.elim
structure Fun (K:PySem.W.Frag) (x qual:Str) (st:Stmt) (f:Addr) (fd:FuncData):Prop where
 ex:∃ (oc:Value) (od:Option Addr) (kV doc pm:Value) (an:Option Addr) (cdv ct:Value) (osl:Array (Option Value)),
  fd=PySem.W.fnOf x qual (dS st) (b9 st) (bh st) .none kV doc pm an cdv ct/\K.lookup f=some ⟨oc,od,.func fd,osl⟩/\PySem.W.codeIn K cdv qual=true
 kp:PySem.W.keepIn K (.ref f)=true
section
variable {P:Program} {w:World} {K:PySem.W.Frag} {mg:Str->Option Value} {base:Heap}
theorem Fun.ok {x qual:Str} {st:Stmt} {f:Addr} {fd:FuncData} {N ps:List Str} {k:Nat} {sp:Sp} (F:Fun K x qual st f fd) (S:FnScope N ps (bh st)) (len:∀ vs H Q E,sp vs H Q E->vs.length=ps.length)
  (hbody:∀ (cdv:Value) (A:Around) (outer:List Env) (s:Shared) (H:Hp) (vs:List V) (Q:VK) (E:XK),Room k (A.deeper (envOfC qual (bh st) s.heap.objs.size f cdv))->sp vs H Q E ->
   ∃ t,PSs (qz CX0 P w K mg base N qual (bh st) f cdv A outer s H E).nox (b9 st) t/\t { nx:=fun _ H'=>Q .non H',rt:=Q } (f9 N vs) H):FnOk P w K mg base CX0 (k+1) f fd ps sp:=by
 obtain ⟨oc,od,kV,doc,pm,an,cdv,ct,osl,rfl,lk,hcd⟩:=F.ex
 refine IR lk hcd S len fun A outer s H vs Q E hr hsp=>?_
 obtain ⟨t,h,q⟩:=hbody cdv A outer s H vs Q E hr hsp
 exact ⟨t,h.nox,q⟩
theorem Fun.binds {x qual:Str} {st:Stmt} {f:Addr} {fd:FuncData} {ps:List Str} (F:Fun K x qual st f fd)
  (h:∀ (kV doc pm:Value) (an:Option Addr) (cdv ct:Value) (us:List Value),us.length=ps.length->bindArgs (PySem.W.fnOf x qual (dS st) (b9 st) (bh st) .none kV doc pm an cdv ct) ⟨us,[]⟩=pure (ps.zip us)):lZ K fd ps []:=by
 obtain ⟨oc,od,kV,doc,pm,an,cdv,ct,osl,rfl,lk,hcd⟩:=F.ex
 exact .all (h kV doc pm an cdv ct)
theorem En {x qual:Str} {st:Stmt} {f:Addr} {oc:Value} {od an:Option Addr} {osl:Array (Option Value)} {kV doc pm cdv ct:Value} (l:K.lookup f=some ⟨oc,od,.func (PySem.W.fnOf x qual (dS st) (b9 st) (bh st) .none kV doc pm an cdv ct),osl⟩)
  (c:PySem.W.codeIn K cdv qual=true) (k:PySem.W.keepIn K (.ref f)=true):Fun K x qual st f (PySem.W.fnOf x qual (dS st) (b9 st) (bh st) .none kV doc pm an cdv ct):=⟨⟨oc,od,kV,doc,pm,an,cdv,ct,osl,rfl,l,c⟩,k⟩
end
theorem ux {n:Nat} (h:n<=1000):n < sizeLine:=Nat.lt_of_le_of_lt h (by decide)
end L2
namespace L2
open PySem PySem.Spec PyProof.Rows
noncomputable def m9 (ifs:List Expr) (env:Env):Sem Bool:=
 forIn ifs true fun c r=>if r=true then do let ok <-isTrue c env (eval c env);pure (ForInStep.yield ok) else pure (ForInStep.yield r)
theorem zY {M:Model} {A:Around} {E:Value->Shared->Prop} {s:Shared} {elt tg iter:Expr} {ifs:List Expr} {gens:List Comprehension} {scope:Scope} {pos:Pos} {d:Nat} {it acc:Value} {env:Env} {Q:Fin->Shared->Prop}
  (hg:gens[d]?=some ⟨tg,iter,ifs,0⟩)
  (h:wpAny M A (pyNext it) (fun r s1=>match r with
   | none=>Q (.done .next) s1
   | some v=>wpAny M A (letOwnedTupleGo tg it v) (fun _ s2=>wpAny M A (assign tg env v) (fun _ s3=>wpAny M A (m9 ifs env) (fun ok s4=>if ok=true then (match gens[d+1]? with
     | none=>wpAny M A (eval elt env) (fun x s5=>wpAny M A (call (.builtin "list.append") [acc,x]) (fun _ s6=>Q (.again (.compLoop (.ListComp elt gens scope pos) d it acc env)) s6) E s5) E s4
     | some g'=>g'.is_async=0/\wpAny M A (eval g'.iter env) (fun x s5=>wpAny M A (foldedSetIterable g'.iter env x) (fun x' s6=>wpAny M A (pyIter x') (fun it' s7=>
       wpAny M A (runOwn (.compStart (.ListComp elt gens scope pos) (d+1) it' acc env) env) (fun _ s8=>Q (.again (.compLoop (.ListComp elt gens scope pos) d it acc env)) s8) E s7) E s6) E s5) E s4)
    else Q (.again (.compLoop (.ListComp elt gens scope pos) d it acc env)) s4) E s3) E s2) E s1) E s) :
  wpAny M A (compTurn (.ListComp elt gens scope pos) d it acc env) Q E s:=by
 unfold compTurn
 simp only [hg]
 refine wpAny_bind (wpAny_standAt ?_)
 show wpAny M A (pyNext it >>= _) Q E s
 refine wpAny_bind (wpAny_mono h (fun r s1 h1=>?_) fun _ _ x=>x)
 cases r with
 | none=>exact wpAny_pure h1
 | some v=>
  refine wpAny_bind (wpAny_mono h1 (fun _ s2 h2=>?_) fun _ _ x=>x)
  refine wpAny_bind (wpAny_mono h2 (fun _ s3 h3=>?_) fun _ _ x=>x)
  refine wpAny_bind (wpAny_mono h3 (fun ok s4 h4=>?_) fun _ _ x=>x)
  cases ok with
  | false=>exact wpAny_pure h4
  | true=>
   simp only [if_true] at h4 ⊢
   cases hn:gens[d+1]? with
   | none=>
    rw [hn] at h4
    refine wpAny_bind (wpAny_bind (wpAny_mono h4 (fun x s5 h5=>?_) fun _ _ x=>x))
    exact wpAny_bind (wpAny_mono h5 (fun _ s6 h6=>wpAny_pure (wpAny_pure h6)) fun _ _ x=>x)
   | some g'=>
    rw [hn] at h4
    obtain ⟨ha,h4⟩:=h4
    refine wpAny_bind (wpAny_mono h4 (fun x s5 h5=>wpAny_bind (wpAny_standAt ?_)) fun _ _ x=>x)
    rw [ha]
    show wpAny M A (foldedSetIterable g'.iter env x >>= _) Q E s5
    refine wpAny_bind (wpAny_mono h5 (fun x' s6 h6=>?_) fun _ _ x=>x)
    refine wpAny_bind (wpAny_holding (wpAny_mono h6 (fun it' s7 h7=>?_) fun _ _ x=>x))
    exact wpAny_bind (wpAny_mono h7 (fun _ s8 h8=>wpAny_pure h8) fun _ _ x=>x)
end L2
namespace L2
open PySem PySem.Spec PyProof.Rows
noncomputable def bP (cells:List (Str × Addr)):List (Str × NameKind)->List (Str × Addr)->List (Str × Addr)
 | [],acc=>acc
 | (n,k)::r,acc=>if k == .free then bP cells r ((n,(cells.lookup n).getD 0)::acc) else bP cells r acc
theorem gz {env:Env}:∀ (names:List (Str × NameKind)) (acc:List (Str × Addr)),(∀ y ∈ names,y.2 = .free->∃ c,env.cells.lookup y.1=some c) ->
  (forIn names acc fun (x:Str × NameKind) (cs:List (Str × Addr))=>(match x with | (name,kind)=>if kind == .free then (do let a <-cellOf env name;pure (ForInStep.yield ((name,a)::cs))) else pure (ForInStep.yield cs):Sem (ForInStep (List (Str × Addr)))))
   = (pure (bP env.cells names acc):Sem (List (Str × Addr)))
 | [],acc,_=>by rw [List.forIn_nil];rfl
 | (n,k)::r,acc,h=>by
  rw [List.forIn_cons]
  have hr:∀ y ∈ r,y.2 = .free->∃ c,env.cells.lookup y.1=some c:=fun y hy=>h y (List.mem_cons_of_mem _ hy)
  cases hk:(k == NameKind.free) with
  | true=>
   obtain ⟨c,hc⟩:=h (n,k) List.mem_cons_self (by simpa using hk)
   have e:cellOf env n=pure c:=by unfold cellOf;rw [show env.cells.lookup n=some c from hc]
   simp only [hk,if_true,e,pure_bind]
   rw [gz r _ hr]
   conv=>rhs;rw [bP]
   simp only [hk,if_true]
   rw [show env.cells.lookup n=some c from hc]
   rfl
  | false=>
   simp only [hk,Bool.false_eq_true,if_false,pure_bind]
   rw [gz r _ hr]
   conv=>rhs;rw [bP]
   simp only [hk,Bool.false_eq_true,if_false]
theorem sJ {env:Env} {scope:Scope} (h:∀ y ∈ scope.names,y.2 = .free->∃ c,env.cells.lookup y.1=some c):closureFor scope env=pure (bP env.cells scope.names []):=by
 have e:=gz (env:=env) scope.names [] h
 unfold closureFor
 refine Eq.trans ?_ e
 first
  | rfl
  | (rw [bind_pure])
  | (simp only [bind_pure])
theorem iR {cells:List (Str × Addr)}:∀ {names:List (Str × NameKind)} {acc:List (Str × Addr)} {x:Str} {c:Addr},(x,c) ∈ bP cells names acc->(x,c) ∈ acc\/((x,NameKind.free) ∈ names/\c=(cells.lookup x).getD 0)
 | [],_,_,_,h=>.inl h
 | (n,k)::r,acc,x,c,h=>by
  unfold bP at h
  split at h
  ·rename_i hk
   have hk':k = .free:=by simpa using hk
   rcases iR h with e | ⟨e,q⟩
   ·rcases List.mem_cons.mp e with e | e
    ·cases e;exact .inr ⟨by rw [hk'];exact List.mem_cons_self,rfl⟩
    ·exact .inl e
   ·exact .inr ⟨List.mem_cons_of_mem _ e,q⟩
  ·rcases iR h with e | ⟨e,q⟩
   ·exact .inl e
   ·exact .inr ⟨List.mem_cons_of_mem _ e,q⟩
theorem fb {x:Str}:∀ {l:List (Str × Addr)},(∃ c,(x,c) ∈ l)->∃ c,l.lookup x=some c
 | [],⟨_,h⟩=>nomatch h
 | (n,c)::r,⟨c',h⟩=>by
  rw [List.lookup_cons]
  cases hb:x == n with
  | true=>exact ⟨c,rfl⟩
  | false=>
   rcases List.mem_cons.mp h with e | e
   ·cases e;simp at hb
   ·exact fb ⟨c',e⟩
theorem fJ {cells:List (Str × Addr)} {x:Str}:∀ {names:List (Str × NameKind)} {acc:List (Str × Addr)},(x,NameKind.free) ∈ names\/(∃ c,(x,c) ∈ acc)->∃ c,(x,c) ∈ bP cells names acc
 | [],_,h=>h.elim (fun e=>nomatch e) id
 | (n,k)::r,acc,h=>by
  unfold bP
  split
  ·rename_i hk
   refine fJ ?_
   rcases h with h | ⟨c,h⟩
   ·rcases List.mem_cons.mp h with e | e
    ·cases e;exact .inr ⟨_,List.mem_cons_self⟩
    ·exact .inl e
   ·exact .inr ⟨c,List.mem_cons_of_mem _ h⟩
  ·rename_i hk
   refine fJ ?_
   rcases h with h | ⟨c,h⟩
   ·rcases List.mem_cons.mp h with e | e
    ·cases e;exact absurd rfl hk
    ·exact .inl e
   ·exact .inr ⟨c,h⟩
theorem ca:∀ (names:List (Str × NameKind)) (n:Nat) (acc:List (Str × Addr)),cellsFrom n names acc=cellsFrom n names []++acc
 | [],_,_=>rfl
 | (y,k)::r,n,acc=>by
  unfold cellsFrom
  split
  ·rw [ca r (n+1) ((y,n)::acc),ca r (n+1) [(y,n)],List.append_assoc];rfl
  ·exact ca r n acc
theorem dh:∀ (names:List (Str × NameKind)) (n:Nat) (acc:List (Str × Addr)) (x:Str) (c:Addr),(x,c) ∈ cellsFrom n names acc->(x,c) ∈ acc\/(x,NameKind.cell) ∈ names
 | [],_,_,_,_,h=>.inl h
 | (y,k)::r,n,acc,x,c,h=>by
  unfold cellsFrom at h
  split at h
  ·rename_i hk
   have hk':k = .cell:=by simpa using hk
   rcases dh r _ _ x c h with e | e
   ·rcases List.mem_cons.mp e with e | e
    ·cases e;exact .inr (by rw [hk'];exact List.mem_cons_self)
    ·exact .inl e
   ·exact .inr (List.mem_cons_of_mem _ e)
  ·rcases dh r _ _ x c h with e | e
   ·exact .inl e
   ·exact .inr (List.mem_cons_of_mem _ e)
noncomputable def lR (sc:Scope) (n:Str) (k:NameKind):NameKind:=if (k == .free && sc.kind == .function && sc.names.lookup n == some .cell) then .cell else k
noncomputable def fc (scope sc:Scope):Scope:={ scope with names:=scope.names.map fun y=>(y.1,lR sc y.1 y.2) }
theorem zZ (scope:Scope) (env:Env):relabel scope env=fc scope env.scope:=by
 unfold relabel fc
 congr 1
 refine List.map_congr_left fun y _=>?_
 obtain ⟨n,k⟩:=y
 unfold lR
 dsimp only
 show (if (k == NameKind.free && env.scope.kind == ScopeKind.function && List.lookup n env.scope.names == some NameKind.cell)=true then (n,NameKind.cell) else (n,k))=_
 split <;> rfl
theorem fe (sc:Scope) (x:Str):∀ names:List (Str × NameKind),(names.map fun y=>(y.1,lR sc y.1 y.2)).lookup x=(names.lookup x).map (lR sc x)
 | []=>rfl
 | (n,k)::r=>by
  rw [List.map_cons,List.lookup_cons,List.lookup_cons]
  dsimp only
  cases hb:x == n with
  | true=>
   have q:x=n:=by simpa using hb
   subst q;rfl
  | false=>exact fe sc x r
noncomputable def qE (scope:Scope) (C:Addr) (env:Env):Env:=
 { scope:=fc scope env.scope,locals:=C,globals:=env.globals,cells:=cellsFrom (C+1) scope.names (bP env.cells scope.names []),qual:=env.qual,func:=none,code:=env.code,frame:=env.frame,builtins:=env.builtins }
theorem uy {M:Model} {A:Around} {E:Value->Shared->Prop} {s:Shared} {scope:Scope} {cl:List (Str × Addr)} {env:Env} {Q:Env->Shared->Prop}
  (h:Q { scope:=scope,locals:=s.heap.objs.size,globals:=env.globals,cells:=cellsFrom (s.heap.objs.size+1) scope.names cl,qual:=env.qual,func:=none,code:=env.code,frame:=env.frame,builtins:=env.builtins }
   { s with heap:=pushCells (s.heap.push { cls:=.type "dict", data:=.dict #[] }) scope.names }) :
  wpAny M A (newFunctionEnv scope env.globals cl [] env.qual none .none (some env)) Q E s:=by
 simp only [newFunctionEnv,Option.isSome_some,if_true]
 refine wpAny_bind (wpAny_alloc ?_)
 refine wpAny_bind (wpAny_layCells _ (fun name kind cells=>by cases hkc:kind == NameKind.cell <;> simp [hkc]) _ _ _ _ ?_)
 rw [show ({ s with heap:=s.heap.push { cls:=.type "dict", data:=.dict #[] } }:Shared).heap.objs.size=s.heap.objs.size+1 from Heap.size_push ..]
 simp only [List.forIn_nil]
 first
  | exact wpAny_bind (wpAny_pure (wpAny_pure h))
  | exact wpAny_pure h
noncomputable def wu (i:Nat):Str:=⟨#[i]⟩
noncomputable def cK:List Nat->List Str->List Str
 | [],N=>N
 | i::hs,N=>cK hs (N.set i (wu i))
theorem iS:∀ (hs:List Nat) (N:List Str),(cK hs N).length=N.length
 | [],_=>rfl
 | i::hs,N=>by rw [cK,iS hs,List.length_set]
theorem mh:∀ (hs:List Nat) (N:List Str) {i:Nat} {x:Str},(cK hs N)[i]?=some x->N[i]?=some x\/∃ j ∈ hs,x=wu j
 | [],_,_,_,h=>.inl h
 | k::hs,N,i,x,h=>by
  rw [cK] at h
  rcases mh hs (N.set k (wu k)) h with e | ⟨j,hj,e⟩
  ·rw [List.getElem?_set] at e
   split at e
   ·split at e
    ·exact .inr ⟨k,List.mem_cons_self,(Option.some.inj e).symm⟩
    ·cases e
   ·exact .inl e
  ·exact .inr ⟨j,List.mem_cons_of_mem _ hj,e⟩
structure CmScope (own:List Str) (hs:List Nat) (N:List Str) (scope sc:Scope):Prop where
 kind:scope.kind = .function
 nd:(cK hs N++own).Nodup
 uniq:(scope.names.map (·.1)).Nodup
 dis:∀ x ∈ cK hs N,scope.names.lookup x ≠ some .local/\scope.names.lookup x ≠ some .cell
 fr:∀ y ∈ scope.names,y.2 = .free->sc.names.lookup y.1=some .cell\/sc.names.lookup y.1=some .free
 hd:∀ i ∈ hs,scope.names.lookup (wu i)=none
theorem cH:∀ {l:List (Str × NameKind)} {x:Str} {k:NameKind},(l.map (·.1)).Nodup->(x,k) ∈ l->l.lookup x=some k
 | (n,k')::r,x,k,nd,h=>by
  rw [List.map_cons,List.nodup_cons] at nd
  rw [List.lookup_cons]
  rcases List.mem_cons.mp h with e | e
  ·cases e;simp
  ·have ne:(x == n)=false:=by
    cases hb:x == n with
    | false=>rfl
    | true=>
     have q:x=n:=by simpa using hb
     subst q
     exact absurd (List.mem_map.mpr ⟨(x,k),e,rfl⟩) nd.1
   rw [ne]
   exact cH nd.2 e
noncomputable def cxC (X:Cx) (own:List Str) (hs:List Nat) (scope:Scope) (C:Addr) (ex:List Addr) (s:Shared) (H:Hp):Cx where
 prog:=X.prog
 w:=X.w
 K:=X.K
 mg:=X.mg
 base:=X.base
 A:=X.A
 N:=cK hs X.N++own
 s₀:=s
 H₀:=H
 env:=qE scope C X.env
 outer:=X.stack
 stack:=X.stack
 ex:=ex
 fn:=fun x=>scope.names.lookup x == some .cell
 calm:=X.calm
 pn:=[]
 xe:=fun _ _=>False
section
variable {X:Cx} {pins:List (Addr × Obj)} {σ:St} {H:Hp} {s:Shared} {own:List Str} {hs:List Nat} {scope:Scope} {fp:List Addr}
theorem Inv.compStart (I:Inv X pins σ H s) (S:CmScope own hs X.N scope X.env.scope) (hf:∀ b ∈ fp,fZ X pins H b) (hfo:∀ b ∈ fp,b < s.heap.objs.size) :
  Inv (cxC X own hs scope s.heap.objs.size fp s H) [] (σ++List.replicate own.length none) H { s with heap:=pushCells (s.heap.push { cls:=.type "dict", data:=.dict #[] }) scope.names }:=by
 have keep:∀ b o,s.heap.get? b=some o->(pushCells (s.heap.push { cls:=.type "dict", data:=.dict #[] }) scope.names).get? b=some o:=fun b o e=>pushCells_keeps _ _ b o (Heap.get?_push_of_some _ e)
 have ok:=cellsFrom_ok scope.names (s.heap.push { cls:=.type "dict", data:=.dict #[] }) (s.heap.objs.size+1) [] ⟨fun _ _ hm=>(nomatch hm),List.Pairwise.nil⟩ (by rw [Heap.size_push];exact Nat.le_refl _)
 rw [Heap.size_push] at ok
 have cells:(qE scope s.heap.objs.size X.env).cells=cellsFrom (s.heap.objs.size+1) scope.names []++bP X.env.cells scope.names []:=ca _ _ _
 have hasX:∀ x,(x,NameKind.free) ∈ scope.names->∃ c,X.env.cells.lookup x=some c:=fun x h=>I.ok.has x (S.fr (x,.free) h rfl)
 have old:∀ x c,(x,c) ∈ bP X.env.cells scope.names []->X.env.cells.lookup x=some c/\(x,NameKind.free) ∈ scope.names:=fun x c h=>by
  rcases iR h with e | ⟨e,q⟩
  ·exact nomatch e
  ·obtain ⟨c',hc⟩:=hasX x e
   rw [hc] at q
   exact ⟨by rw [hc,q];rfl,e⟩
 have oldlt:∀ x c,X.env.cells.lookup x=some c->c < s.heap.objs.size:=fun x c h=>let ⟨_,z⟩:=I.cell x c h;z.lt
 have which:∀ x c,(qE scope s.heap.objs.size X.env).cells.lookup x=some c->((x,c) ∈ cellsFrom (s.heap.objs.size+1) scope.names [])\/(X.env.cells.lookup x=some c/\(x,NameKind.free) ∈ scope.names):=fun x c h=>by
  have m:=PySem.mem_of_lookup h
  rw [cells] at m
  rcases List.mem_append.mp m with e | e
  ·exact .inl e
  ·exact .inr (old x c e)
 have neu:∀ x c,(x,c) ∈ cellsFrom (s.heap.objs.size+1) scope.names []->s.heap.objs.size+1<=c:=fun x c h=>(ok.empty x c h).2
 have noFs:∀ b ∈ fp,b ∉ frs X.stack:=fun b hb z=>by
  rcases List.mem_cons.mp (I.stkSub b z) with e | e
  ·exact (hf b hb).2.1 e
  ·exact (hf b hb).2.2.1 e
 have xok:(cxC X own hs scope s.heap.objs.size fp s H).Ok:=by
  refine ⟨I.ok.mod,S.kind,I.ok.glob,I.ok.blt,Nat.le_refl _,?_,?_,?_,I.ok.hd,I.ok.frames,.inl rfl,?_,I.bs,Nat.le_trans I.ok.bsz I.sz,?_,noFs,I.stack,I.stkFree⟩
  ·intro x y c h1 h2
   rcases which x c h1 with a | ⟨a,_⟩ <;> rcases which y c h2 with b | ⟨b,_⟩
   ·exact name_of_addr ok.apart a b
   ·exact absurd (Nat.lt_of_lt_of_le (oldlt y c b) (Nat.le_of_succ_le (neu x c a))) (Nat.lt_irrefl _)
   ·exact absurd (Nat.lt_of_lt_of_le (oldlt x c a) (Nat.le_of_succ_le (neu y c b))) (Nat.lt_irrefl _)
   ·exact I.ok.inj x y c a b
  ·intro x hx
   have hx':(fc scope X.env.scope).names.lookup x=some .cell\/(fc scope X.env.scope).names.lookup x=some .free:=hx
   have e:=fe X.env.scope x scope.names
   have key:(x,NameKind.cell) ∈ scope.names\/(x,NameKind.free) ∈ scope.names:=by
    cases hl:scope.names.lookup x with
    | none=>rw [hl] at e;rcases hx' with z | z <;> (rw [show (fc scope X.env.scope).names.lookup x=none from e] at z;cases z)
    | some k=>
     have m:=PySem.mem_of_lookup hl
     rw [hl] at e
     cases k with
     | cell=>exact .inl m
     | free=>exact .inr m
     | _=>rcases hx' with z | z <;> (rw [show (fc scope X.env.scope).names.lookup x=_ from e] at z;simp [lR] at z)
   rcases key with h | h
   ·have q:=PySem.W.cellsFrom_some scope.names (s.heap.objs.size+1) (bP X.env.cells scope.names []) (x:=x) (.inl (cH S.uniq h))
    exact Option.isSome_iff_exists.mp q
   ·obtain ⟨c,hc⟩:=fJ (cells:=X.env.cells) (acc:=[]) (.inl h)
    have q:∃ c,(x,c) ∈ (qE scope s.heap.objs.size X.env).cells:=⟨c,by rw [cells];exact List.mem_append_right _ hc⟩
    exact fb q
  ·intro x c hfn hl
   have hfn':scope.names.lookup x=some .cell:=by
    have z:(scope.names.lookup x == some NameKind.cell)=true:=hfn
    simpa using z
   rcases which x c hl with a | ⟨_,b⟩
   ·exact Nat.le_trans (Nat.le_succ _) (neu x c a)
   ·rw [cH S.uniq b] at hfn';cases hfn'
  ·intro b hb
   refine ⟨Nat.ne_of_lt (hfo b hb),fun x c h z=>?_⟩
   rcases which x c h with a | ⟨a,_⟩
   ·exact absurd (Nat.lt_of_lt_of_le (z ▸ hfo b hb) (Nat.le_of_succ_le (neu x c a))) (Nat.lt_irrefl _)
   ·exact (hf b hb).2.2.2.2.1 x c a z
  ·intro b o e hb
   rcases (hf b hb).2.2.2.1 with z | z
   ·exact I.ok.noex b o e z
   ·have h1:=Heap.lt_size e
    exact absurd (Nat.lt_of_lt_of_le h1 (Nat.le_trans I.ok.bsz z)) (Nat.lt_irrefl _)
 have m0:(pushCells (s.heap.push { cls:=.type "dict", data:=.dict #[] }) scope.names).Ns s.heap.objs.size (fun _=>none):=(Heap.Ns.new s.heap (.type "dict")).keeps (pushCells_keeps _ _)
 refine ⟨xok,rfl,I.bare,Un.kept keep,⟨_,m0,?_⟩,?_,I.hok.fresh (Nat.le_refl _),?_,fun p hp=>absurd (show p ∈ ([]:List (Addr × Obj)) from hp) (by simp),I.hok.kept keep,?_⟩
 ·intro i x v h1 h2 h3
  have hi:i < σ.length:=by
   by_cases hi:i < σ.length
   ·exact hi
   ·rw [List.getElem?_append_right (by omega),List.getElem?_replicate] at h2
    split at h2 <;> cases h2
  rw [List.getElem?_append_left hi] at h2
  have hN:i < X.N.length:=by rw [<-I.len];exact hi
  have h1h:(cK hs X.N)[i]?=some x:=by
   have h1:(cK hs X.N++own)[i]?=some x:=h1
   rwa [List.getElem?_append_left (by rw [iS];exact hN)] at h1
  have dx:=S.dis x (List.mem_of_getElem? h1h)
  have e:=fe X.env.scope x scope.names
  have h3':(fc scope X.env.scope).names.lookup x=some .local\/(fc scope X.env.scope).names.lookup x=some .cell\/(fc scope X.env.scope).names.lookup x=some .free:=h3
  have hfree:scope.names.lookup x=some .free:=by
   cases hl:scope.names.lookup x with
   | none=>rw [hl] at e;rcases h3' with z | z | z <;> (rw [show (fc scope X.env.scope).names.lookup x=none from e] at z;cases z)
   | some k=>
    rw [hl] at e dx
    cases k with
    | free=>rfl
    | «local»=>exact absurd rfl dx.1
    | cell=>exact absurd rfl dx.2
    | _=>rcases h3' with z | z | z <;> (rw [show (fc scope X.env.scope).names.lookup x=_ from e] at z;simp [lR] at z)
  have h1':X.N[i]?=some x:=by
   rcases mh hs X.N h1h with z | ⟨j,hj,z⟩
   ·exact z
   ·rw [z,S.hd j hj] at hfree;cases hfree
  have mfree:=PySem.mem_of_lookup hfree
  have kX:=S.fr (x,.free) mfree rfl
  obtain ⟨m,hn,hl⟩:=I.loc
  obtain ⟨u,r,l⟩:=hl i x v h1' h2 (kX.elim (fun z=>.inr (.inl z)) fun z=>.inr (.inr z))
  refine ⟨u,r,.inr ⟨?_,?_⟩⟩
  ·have k3:(fc scope X.env.scope).names.lookup x=some (lR X.env.scope x .free):=by rw [hfree] at e;exact e
   have k4:lR X.env.scope x .free = .cell\/lR X.env.scope x .free = .free:=by unfold lR;split <;> simp
   rcases k4 with z | z
   ·exact .inl (by show (fc scope X.env.scope).names.lookup x=_;rw [k3,z])
   ·exact .inr (by show (fc scope X.env.scope).names.lookup x=_;rw [k3,z])
  ·rcases l with ⟨lk,_⟩ | ⟨_,c,hc,z⟩
   ·have lk':X.env.scope.names.lookup x=some .local:=lk
    rcases kX with q | q <;> (rw [q] at lk';cases lk')
   ·refine ⟨c,?_,z.keeps keep⟩
    obtain ⟨c',hc'⟩:=fJ (cells:=X.env.cells) (acc:=[]) (.inl mfree)
    obtain ⟨c2,hl2⟩:=fb (l:=(qE scope s.heap.objs.size X.env).cells) ⟨c',by rw [cells];exact List.mem_append_right _ hc'⟩
    rcases which x c2 hl2 with a | ⟨a,_⟩
    ·rcases dh _ _ _ _ _ a with q | q
     ·exact nomatch q
     ·rw [cH S.uniq q] at hfree;cases hfree
    ·rw [hc] at a;cases a;exact hl2
 ·intro x c h
  rcases which x c h with a | ⟨a,_⟩
  ·exact ⟨_,(ok.empty x c a).1⟩
  ·obtain ⟨v,z⟩:=I.cell x c a
   exact ⟨v,z.keeps keep⟩
 ·intro x c h
  rcases which x c h with a | ⟨a,_⟩
  ·exact I.hok.fresh (Nat.le_trans (Nat.le_succ _) (neu x c a))
  ·exact I.freeC x c a
 ·show (σ++List.replicate own.length none).length=(cK hs X.N++own).length
  rw [List.length_append,List.length_append,List.length_replicate,iS,I.len]
end
end L2
namespace L2
open PySem PySem.Spec PyProof.Rows
noncomputable def oI (J:It) (g:TG) (tb:TS) (D:Ends) (σ:St) (H:Hp):Prop:=∃ W:Nat->Nat->St->Hp->Prop,(∃ m,W 0 m σ H)/\∀ i m σ H,W i m σ H ->
 (J.stop i H/\D.nx σ H)\/(J.go i H/\∃ N:St->Hp->Prop,(∀ σ' H',N σ' H'->∃ m',m' < m/\W (i+1) m' σ' H')/\∀ x H',J.yld i H x H'->g x σ H' fun σ2 H2=>tb { D with nx:=N,ct:=N,bk:=D.nx } σ2 H2)
noncomputable def PTs (Y:Cx) (ifs:List Expr) (t:TT):Prop:=
 ∀ (pins:List (Addr × Obj)) (s:Shared) (σ:St) (H:Hp) (Q:Bool->Hp->Prop),Inv Y pins σ H s->t σ H Q->wpAny (model Y.prog Y.w) Y.A (m9 ifs Y.env) (TP Y pins σ Q) Y.xe s
noncomputable def z4:TT:=fun _ H Q=>Q true H
theorem z5 {Y:Cx}:PTs Y [] z4:=fun _ _ _ H _ I h=>by
 unfold m9;rw [List.forIn_nil];exact wpAny_pure ⟨H,I,h⟩
theorem z6 {Y:Cx} {c:Expr} {t:TT} (hc:PT Y c t):PTs Y [c] t:=fun pins s σ H Q I h=>by
 unfold m9
 rw [List.forIn_cons]
 simp only [if_true,List.forIn_nil]
 refine wpAny_bind (wpAny_bind (thn (hc pins s σ H Q I h) fun b s1 q=>wpAny_pure ?_))
 exact wpAny_pure q
noncomputable def PTl (Y:Cx) (elt:Expr) (gens:List Comprehension) (scope:Scope) (pos:Pos) (acc:Addr) (d:Nat) (t:TS):Prop:=
 ∀ (pins:List (Addr × Obj)) (s:Shared) (σ:St) (H:Hp) (D:Ends),Inv Y pins σ H s->t D σ H ->
  match gens[d+1]? with
  | none=>wpAny (model Y.prog Y.w) Y.A (eval elt Y.env) (fun x s5=>wpAny (model Y.prog Y.w) Y.A (call (.builtin "list.append") [.ref acc,x]) (fun _ s6=>∃ σ' H',Inv Y pins σ' H' s6/\D.nx σ' H') (fun _ _=>False) s5) (fun _ _=>False) s
  | some g'=>g'.is_async=0/\wpAny (model Y.prog Y.w) Y.A (eval g'.iter Y.env) (fun x s5=>wpAny (model Y.prog Y.w) Y.A (foldedSetIterable g'.iter Y.env x) (fun x' s6=>wpAny (model Y.prog Y.w) Y.A (pyIter x') (fun it' s7=>
    wpAny (model Y.prog Y.w) Y.A (runOwn (.compStart (.ListComp elt gens scope pos) (d+1) it' (.ref acc) Y.env) Y.env) (fun _ s8=>∃ σ' H',Inv Y pins σ' H' s8/\D.nx σ' H') (fun _ _=>False) s7) (fun _ _=>False) s6) (fun _ _=>False) s5) (fun _ _=>False) s
noncomputable def eS (ti:TT) (t:TS):TS:=fun D σ H=>ti σ H fun c H'=>if c=true then t D σ H' else D.nx σ H'
noncomputable def Dd (acc:Addr) (te:TE):TS:=fun D σ H=>te σ H fun x H1=>∃ xs,H1 acc=some (.lst xs)/\xs.length < sizeLine/\D.nx σ (upd H1 acc (.lst (xs++[x])))
section
variable {Y:Cx} {elt:Expr} {gens:List Comprehension} {scope:Scope} {pos:Pos} {acc:Addr} {d:Nat}
theorem ww {te:TE} (hx:Y.xe=fun _ _=>False) (hn:gens[d+1]?=none) (he:PE Y elt te):PTl Y elt gens scope pos acc d (Dd acc te):=by
 intro pins s σ H D I h
 rw [hn]
 have hE:=he pins s σ H _ I h
 rw [hx] at hE
 refine thn hE fun x s5 ⟨v,H5,I5,r5,xs,h1,h2,q⟩=>?_
 have z:=mf pins s5 σ H5 (.ref acc) [v] (.ref acc) [x] (fun y H'=>y = .non/\D.nx σ H') I5 rfl (.cons r5 .nil) ⟨acc,xs,v,rfl,rfl,h1,h2,rfl,q⟩
 rw [hx] at z
 exact thn z fun y s6 ⟨v6,H6,I6,r6,e6,q6⟩=>⟨σ,H6,I6,q6⟩
theorem ka {A:Around} {R:Result->Shared->Prop} {prog:Program} {w:World} {s:Shared} {tg iter:Expr} {ifs:List Expr} {it acc:Value} {env:Env} (hg:gens[d]?=some ⟨tg,iter,ifs,0⟩)
  (h0:codeAny (model prog w) A (.compLoop (.ListComp elt gens scope pos) d it acc env) R s)
  (h:wpAny (model prog w) A (pyIter it) (fun it' s'=>codeAny (model prog w) A (.compLoop (.ListComp elt gens scope pos) d it' acc env) R s') (notedBy (model prog w) A env fun x s'=>R (.error x) s') s) :
  codeAny (model prog w) A (.compStart (.ListComp elt gens scope pos) d it acc env) R s:=by
 refine codeAny_of_tree ?_
 show wpAny _ _ ((compStart (.ListComp elt gens scope pos) d it acc env).onRaise (fun x=>do noteFrame x env;standAt theWindowsPlace)) _ _ s
 refine wpAny_notedAt ?_
 unfold compStart
 have hcl:(clausesOf (.ListComp elt gens scope pos))[d]?=some ⟨tg,iter,ifs,0⟩:=hg
 simp only [hcl,Option.elim]
 show wpAny _ _ (ask >>= _) _ _ s
 refine wpAny_bind (wpAny_askSetting (wpAny_ite ?_))
 split
 ·first
   | exact wpAny_bind (wpAny_pure (wpAny_pure (And.intro rfl h0)))
   | exact wpAny_pure (And.intro rfl h0)
 ·first
   | exact wpAny_bind (wpAny_rule (wpAny_bind (wpAny_standAt (wpAny_bind (wpAny_mono h (fun it' s' h'=>wpAny_pure (And.intro rfl h')) fun _ _ x=>x)))))
   | (refine wpAny_bind (wpAny_rule ?_);show wpAny _ _ (standAt iter.pos >>= _) _ _ s;exact wpAny_bind (wpAny_standAt (wpAny_bind (wpAny_mono h (fun it' s' h'=>wpAny_pure (And.intro rfl h')) fun _ _ x=>x))))
theorem mi {tg iter:Expr} {ifs:List Expr} {J:It} {fp:List Addr} {it:Addr} {tn:Nat->Heap->Prop} {pins:List (Addr × Obj)} {σ:St} {H:Hp} {s:Shared} {g:TG} {ti:TT} {t:TS} {D:Ends}
  (hx:Y.xe=fun _ _=>False) (hc:Y.calm=true) (hg:gens[d]?=some ⟨tg,iter,ifs,0⟩) (T:jM Y.prog Y.w Y.K tg J fp it tn) (I2:Inv Y pins σ H s) (st2:tn 0 s.heap) (f2:∀ b ∈ fp,fZ Y pins H b)
  (hgt:PG Y tg g) (hts:PTs Y ifs ti) (htl:PTl Y elt gens scope pos acc d t) (hW:oI J g (eS ti t) D σ H) :
  codeAny (model Y.prog Y.w) Y.A (.compLoop (.ListComp elt gens scope pos) d (.ref it) (.ref acc) Y.env) (fun r s'=>r = .ok .next/\∃ σ' H',Inv Y pins σ' H' s'/\D.nx σ' H') s:=by
 obtain ⟨W,⟨m0,w0⟩,turn⟩:=hW
 have stat:∀ {H':Hp},(∀ b ∈ fp,H' b=none)->∀ b ∈ fp,fZ Y pins H' b:=fun hn b hb=>⟨hn b hb,(f2 b hb).2⟩
 refine codeAny_loop rfl (fun n s'=>∃ i σ' H',Inv Y pins σ' H' s'/\tn i s'.heap/\(∀ b ∈ fp,H' b=none)/\W i n σ' H') (fun n s3 hI=>?_) m0 ⟨0,σ,H,I2,st2,fun b hb=>(f2 b hb).1,w0⟩
 obtain ⟨i,σ3,H3,I3,st3,fr3,w3⟩:=hI
 show wpAny _ _ ((compTurn (.ListComp elt gens scope pos) d (.ref it) (.ref acc) Y.env).onRaise (fun x=>do noteFrame x Y.env;theTreesLotGoes x)) _ _ s3
 refine wpAny_noted (wpAny_mono (E:=fun _ _=>False) ?_ (fun _ _ q=>q) fun _ _ z=>z.elim)
 refine zY hg ?_
 rcases turn i n σ3 H3 w3 with ⟨stop,qn⟩ | ⟨go,N,hN,step⟩
 ·refine thn (T.done Y rfl rfl rfl hc i pins s3 σ3 H3 _ I3 (stat fr3) st3 stop) fun r s4 ⟨hr,I4⟩=>?_
  subst hr
  exact ⟨rfl,σ3,H3,I4,qn⟩
 ·refine thn (T.item Y rfl rfl rfl hc i pins s3 σ3 H3 _ I3 (stat fr3) st3 go) fun r s4 ⟨u,hr,h4⟩=>?_
  subst hr
  refine thn h4 fun _ s5 ⟨x,H5,I5,r5,y5,st5,fr5⟩=>?_
  have I5':=I5.pinned (stat fr5) (T.obj _ _ st5)
  have again:∀ {σ7:St} {H7:Hp} {s7:Shared},Inv Y (pins++jZ fp s5.heap) σ7 H7 s7->N σ7 H7->∃ m,m < n/\∃ i σ' H',Inv Y pins σ' H' s7/\tn i s7.heap/\(∀ b ∈ fp,H' b=none)/\W i m σ' H':=fun {σ7 H7 s7} I7 n7=>by
   obtain ⟨m',hm,w7⟩:=hN σ7 H7 n7
   refine ⟨m',hm,i+1,σ7,H7,I7.unpinned,T.keep _ _ _ st5 fun b hb o e=>(I7.pin (b,o) (List.mem_append_right _ (List.mem_append_right _ (dR hb e)))).1,fun b hb=>?_,w7⟩
   obtain ⟨o,e,dd⟩:=T.obj _ _ st5 b hb
   exact (I7.pin (b,o) (List.mem_append_right _ (List.mem_append_right _ (dR hb e)))).2.1
  have hG:=hgt _ s5 σ3 H5 x u _ I5' r5 (step x H5 y5)
  rw [hx] at hG
  refine thn hG fun _ s6 ⟨σ6,H6,I6,q6⟩=>?_
  have hT:=hts _ s6 σ6 H6 _ I6 q6
  rw [hx] at hT
  refine thn hT fun ok s7 ⟨H7,I7,q7⟩=>?_
  cases ok with
  | false=>
   simp only [Bool.false_eq_true,if_false] at q7 ⊢
   exact ⟨by trivial,again I7 q7⟩
  | true=>
   simp only [if_true] at q7 ⊢
   have hL:=htl _ s7 σ6 H7 _ I7 q7
   cases hn:gens[d+1]? with
   | none=>
    rw [hn] at hL
    exact thn hL fun x s8 h8=>thn h8 fun _ s9 ⟨σ9,H9,I9,q9⟩=>⟨by trivial,again I9 q9⟩
   | some g'=>
    rw [hn] at hL
    obtain ⟨ha,hL⟩:=hL
    exact ⟨ha,thn hL fun x s8 h8=>thn h8 fun x' s9 h9=>thn h9 fun it' s10 h10=>thn h10 fun _ s11 ⟨σ9,H9,I9,q9⟩=>⟨by trivial,again I9 q9⟩⟩
noncomputable def wx (wi:TI) (g:TG) (ti:TT) (t:TS):TS:=fun D σ H=>wi σ H fun J H1=>oI J g (eS ti t) D σ H1
theorem z7 {tg iter:Expr} {ifs:List Expr} {wi:TI} {g:TG} {ti:TT} {t:TS} (hn:gens[d+1]?=some ⟨tg,iter,ifs,0⟩)
  (hi:PI Y tg iter wi) (hgt:PG Y tg g) (hts:PTs Y ifs ti) (htl:PTl Y elt gens scope pos acc (d+1) t) (hx:Y.xe=fun _ _=>False:=by rfl) (hc:Y.calm=true:=by rfl) (hs:∀ x,foldedSetIterable iter Y.env x=pure x:=by intro _;rfl) :
  PTl Y elt gens scope pos acc d (wx wi g ti t):=by
 intro pins s σ H D I h
 rw [hn]
 refine ⟨rfl,?_⟩
 have hI:=hi pins s σ H _ I h
 rw [hx] at hI
 refine thn hI fun v s5 h5=>wpAny_of_eq (hs v) (thn h5 fun itv s6 h6=>?_)
 obtain ⟨it,fp,tn,J,H6,e,I6,T,st6,f6,W⟩:=h6
 subst e
 have L:=mi (elt:=elt) (gens:=gens) (scope:=scope) (pos:=pos) (acc:=acc) hx hc hn T I6 st6 f6 hgt hts htl W
 refine wpAny_runOwn (codeAny_mono (ka hn L (T.self _ 0 s6 _ _ st6 L)) fun r s8 hr=>?_)
 obtain ⟨rfl,q⟩:=hr
 exact q
end
noncomputable def wy (own:Nat) (wi:TI) (g:TG) (tb:Addr->TS):TE:=fun σ H Q=>wi σ H fun J H1=>∀ acc,H1 acc=none ->
 oI J g (tb acc) { nx:=fun _ H'=>Q (.ref acc) H',rt:=fun _ _=>False } (σ++List.replicate own none) (upd H1 acc (.lst []))
section
variable {X:Cx} {elt tg iter:Expr} {ifs:List Expr} {rest:List Comprehension} {scope:Scope} {pos:Pos} {own:List Str} {hs:List Nat} {wi:TI} {g:TG} {ti:TT} {t:Addr->TS}
theorem kb {pins:List (Addr × Obj)} {σ:St} {Q:VK} {itv:Value} {s2:Shared} {E:Value->Shared->Prop} (hc:X.calm=true) (S:CmScope own hs X.N scope X.env.scope)
  (hgt:∀ C ex s H,PG (cxC X own hs scope C ex s H) tg g) (hts:∀ C ex s H,PTs (cxC X own hs scope C ex s H) ifs ti)
  (htl:∀ C ex s H acc,PTl (cxC X own hs scope C ex s H) elt (⟨tg,iter,ifs,0⟩::rest) scope pos acc 0 (t acc))
  (h2:PIE X pins σ tg (fun J H1=>∀ acc,H1 acc=none->oI J g (eS ti (t acc)) { nx:=fun _ H'=>Q (.ref acc) H',rt:=fun _ _=>False } (σ++List.replicate own.length none) (upd H1 acc (.lst []))) itv s2)
  {RR:Value->Addr->Result->Shared->Prop} (hRR:∀ acc C H' s',Inv X pins σ H' s'->fZ X pins H' C->(∃ m,s'.heap.Ns C m)->Q (.ref acc) H'->RR (.ref acc) C (.ok .next) s') :
  wpAny (model X.prog X.w) X.A (newList []) (fun acc s3=>wpAny (model X.prog X.w) X.A (newFunctionEnv scope X.env.globals (bP X.env.cells scope.names []) [] X.env.qual none .none (some X.env)) (fun cenv s4=>
   codeAny (model X.prog X.w) X.A (.compStart (.ListComp elt (⟨tg,iter,ifs,0⟩::rest) scope pos) 0 itv acc { cenv with scope:=relabel scope X.env }) (RR acc cenv.locals) s4) E s3) E s2:=by
 obtain ⟨it,fp,tn,J,H2,e,I2,T,st2,f2,R⟩:=h2
 subst e
 refine wpAny_newObj_type ?_
 have I3:Inv X pins σ (upd H2 s2.heap.objs.size (.lst [])) { s2 with heap:=s2.heap.push { cls:=.type "list", dict:=none,data:=.seq ([]:List Value).toArray } }:=I2.lnew (its:=[]) (t':=s2.toks) .nil (Nat.zero_le _)
 have W:=R s2.heap.objs.size (I2.hok.fresh (Nat.le_refl _))
 generalize hs3:({ s2 with heap:=s2.heap.push { cls:=.type "list", dict:=none,data:=.seq ([]:List Value).toArray } }:Shared)=s3 at I3 ⊢
 have e3:s3.heap=s2.heap.push { cls:=.type "list", dict:=none,data:=.seq ([]:List Value).toArray }:=by rw [<-hs3]
 have k3:∀ b o,s2.heap.get? b=some o->s3.heap.get? b=some o:=fun b o e=>by rw [e3];exact Heap.get?_push_of_some _ e
 have st3:tn 0 s3.heap:=T.keep _ _ _ st2 fun b _ o e=>k3 b o e
 have fne:∀ b ∈ fp,b < s2.heap.objs.size:=fun b hb=>let ⟨o,e,_⟩:=T.obj _ _ st2 b hb;Heap.lt_size e
 have f3:∀ b ∈ fp,fZ X pins (upd H2 s2.heap.objs.size (.lst [])) b:=fun b hb=>⟨by rw [aC (Nat.ne_of_lt (fne b hb))];exact (f2 b hb).1,(f2 b hb).2⟩
 have fo3:∀ b ∈ fp,b < s3.heap.objs.size:=fun b hb=>let ⟨o,e,_⟩:=T.obj _ _ st3 b hb;Heap.lt_size e
 refine uy ?_
 have I4:=I3.compStart S f3 fo3
 generalize hH3:upd H2 s2.heap.objs.size (.lst [])=H3 at I3 I4 f3 W
 have eE:({ scope:=relabel scope X.env,locals:=s3.heap.objs.size,globals:=X.env.globals,cells:=cellsFrom (s3.heap.objs.size+1) scope.names (bP X.env.cells scope.names []),qual:=X.env.qual,func:=none,code:=X.env.code,frame:=X.env.frame,builtins:=X.env.builtins }:Env)=qE scope s3.heap.objs.size X.env:=by
  unfold qE;rw [zZ]
 generalize hs4:({ s3 with heap:=pushCells (s3.heap.push { cls:=.type "dict", data:=.dict #[] }) scope.names }:Shared)=s4 at I4 ⊢
 have k4:∀ b o,s3.heap.get? b=some o->s4.heap.get? b=some o:=fun b o e=>by rw [<-hs4];exact pushCells_keeps _ _ b o (Heap.get?_push_of_some _ e)
 have st4:tn 0 s4.heap:=T.keep _ _ _ st3 fun b _ o e=>k4 b o e
 have f4:∀ b ∈ fp,fZ (cxC X own hs scope s3.heap.objs.size fp s3 H3) [] H3 b:=fun b hb=>by
  refine ⟨(f3 b hb).1,Nat.ne_of_lt (fo3 b hb),I4.ok.exfs b hb,.inl hb,fun x c hl=>(I4.ok.exf b hb).2 x c hl,fun p hp=>absurd (show p ∈ ([]:List (Addr × Obj)) from hp) (by simp)⟩
 have L:=mi (Y:=cxC X own hs scope s3.heap.objs.size fp s3 H3) (elt:=elt) (gens:=⟨tg,iter,ifs,0⟩::rest) (d:=0) (scope:=scope) (pos:=pos) (acc:=s2.heap.objs.size) rfl hc rfl T I4 st4 f4 (hgt _ _ _ _) (hts _ _ _ _) (htl _ _ _ _ _) W
 have C:=ka (elt:=elt) (gens:=⟨tg,iter,ifs,0⟩::rest) (d:=0) (scope:=scope) (pos:=pos) rfl L (T.self _ 0 s4 _ _ st4 L)
 show codeAny (model X.prog X.w) X.A (.compStart (.ListComp elt (⟨tg,iter,ifs,0⟩::rest) scope pos) 0 (.ref it) (.ref s2.heap.objs.size) { scope:=relabel scope X.env,locals:=s3.heap.objs.size,globals:=X.env.globals,cells:=cellsFrom (s3.heap.objs.size+1) scope.names (bP X.env.cells scope.names []),qual:=X.env.qual,func:=none,code:=X.env.code,frame:=X.env.frame,builtins:=X.env.builtins }) (RR (.ref s2.heap.objs.size) s3.heap.objs.size) s4
 rw [eE]
 refine codeAny_mono C fun r s' hr=>?_
 obtain ⟨rfl,σ',H',I',q⟩:=hr
 obtain ⟨mC,nC,_⟩:=id I'.loc
 have freeC:H' s3.heap.objs.size=none:=I'.free
 refine hRR _ _ H' s' ?_ (I3.fpOk (Nat.le_refl _) freeC) ⟨mC,nC⟩ q
 exact I3.call' (ch:=fp) I'.os I'.base I'.hok I'.bare fun b hb=>⟨(f3 b hb).2.2.2.1,(f3 b hb).2.1,(f3 b hb).2.2.2.2.1,(f3 b hb).2.2.2.2.2⟩
theorem z8 (hc:X.calm=true) (S:CmScope own hs X.N scope X.env.scope) (hi:PI X tg iter wi)
  (hgt:∀ C ex s H,PG (cxC X own hs scope C ex s H) tg g) (hts:∀ C ex s H,PTs (cxC X own hs scope C ex s H) ifs ti)
  (htl:∀ C ex s H acc,PTl (cxC X own hs scope C ex s H) elt (⟨tg,iter,ifs,0⟩::rest) scope pos acc 0 (t acc))
  (hs:∀ x,foldedSetIterable iter X.env x=pure x:=by intro _;rfl) :
  PE X (.ListComp elt (⟨tg,iter,ifs,0⟩::rest) scope pos) (wy own.length wi g fun acc=>eS ti (t acc)):=by
 intro pins s σ H Q I h
 rw [eval_ListComp]
 refine wpAny_comprehension_free (use:=none) (cl:=bP X.env.cells scope.names []) rfl hs (sJ fun y hy hk=>I.ok.has y.1 (S.fr y hy hk)) S.kind (fun y hy hk=>cH S.uniq (by rw [<-hk];exact hy)) ?_
 refine thn (hi pins s σ H _ I h) fun v s1 h1=>thn h1 fun itv s2 h2=>?_
 refine kb hc S hgt hts htl h2 (RR:=fun acc C=>compPost (model X.prog X.w) X.A X.xe none (EP X pins σ Q) acc C) fun acc C H' s' I' f' m' q=>?_
 obtain ⟨m,nm⟩:=m'
 refine ⟨m,nm,fun h' sb=>⟨.ref acc,H',?_,rfl,q⟩⟩
 exact I'.turned (t':=s'.toks) (fun b o hb e=>(sb.2 b hb).trans e) f'.1 f'.2.1 f'.2.2.2.1 f'.2.2.2.2.1 f'.2.2.2.2.2
theorem z9 {i:Nat} {x:Str} {pos' spos:Pos} (hc:X.calm=true) (S:CmScope own hs X.N scope X.env.scope) (hN:X.N.Nodup) (hix:X.N[i]?=some x) (hx:X.env.scope.names.lookup x=some .local) (hi:PI X tg iter wi)
  (hgt:∀ C ex s H,PG (cxC X own hs scope C ex s H) tg g) (hts:∀ C ex s H,PTs (cxC X own hs scope C ex s H) ifs ti)
  (htl:∀ C ex s H acc,PTl (cxC X own hs scope C ex s H) elt (⟨tg,iter,ifs,0⟩::rest) scope pos acc 0 (t acc))
  (hsw:swapsWith (.ListComp elt (⟨tg,iter,ifs,0⟩::rest) scope pos) (some (.Name x pos')) spos.line X.env=pure true:=by rfl)
  (hs:∀ x,foldedSetIterable iter X.env x=pure x:=by intro _;rfl) :
  PS X (.Assign [.Name x pos'] (.ListComp elt (⟨tg,iter,ifs,0⟩::rest) scope pos) spos) (vY (wy own.length wi g fun acc=>eS ti (t acc)) (oE i)):=by
 intro pins s σ H D I h
 rw [exec_Assign_Name_used _ _ _ _ hsw]
 refine wpAny_bind (wpAny_standAt (wpAny_bind ?_))
 show wpAny _ X.A (do let _ <-comprehension (.ListComp elt (⟨tg,iter,ifs,0⟩::rest) scope pos) scope X.env _ (newList []) false (eval iter X.env) (some (assign (.Name x pos') X.env))) _ _ s
 refine wpAny_bind (wpAny_mono (wpAny_comprehension_free (use:=some (assign (.Name x pos') X.env)) (Q:=fun _ s'=>SP X pins D .next s') (cl:=bP X.env.cells scope.names []) rfl hs (sJ fun y hy hk=>I.ok.has y.1 (S.fr y hy hk)) S.kind (fun y hy hk=>cH S.uniq (by rw [<-hk];exact hy))
  ?_) (fun _ s' hq=>wpAny_pure (wpAny_pure hq)) fun _ _ e=>e)
 refine thn (hi pins s σ H _ I h) fun v s1 h1=>thn h1 fun itv s2 h2=>?_
 refine kb (Q:=fun y H'=>oE i y σ H' D.nx) hc S hgt hts htl h2 (RR:=fun acc C=>compPost (model X.prog X.w) X.A X.xe (some (assign (.Name x pos') X.env)) (fun _ s'=>SP X pins D .next s') acc C) fun acc C H' s' I' f' m' q=>?_
 obtain ⟨m,nm⟩:=m'
 show wpAny _ X.A (assign (.Name x pos') X.env (.ref acc)) _ _ _
 refine wpAny_assign_Name (lY (v:=.ref acc) I' hN hix (.inl hx) rfl (fun s'' I'' hch=>?_) (.inr hx))
 obtain ⟨a,sb1,ha⟩:=hch
 have ne:C ≠ a:=by
  rcases ha with e | e
  ·rw [e];exact f'.2.1
  ·exact fun z=>f'.2.2.2.2.1 x a e z.symm
 refine ⟨m,nm.sameBut sb1 ne,fun h' sb=>⟨_,H',?_,q⟩⟩
 exact I''.turned (t':=s''.toks) (fun b o hb e=>(sb.2 b hb).trans e) f'.1 f'.2.1 f'.2.2.2.1 f'.2.2.2.2.1 f'.2.2.2.2.2
end
end L2
namespace HT
open PySem PyProof.Rows
section
variable {prog:Program} {w:World} {A:Around} {E:Value->Shared->Prop} {s:Shared}
theorem wz {t b:Addr} {ws:List Value} {Q:Value->Shared->Prop} (ht:IsTup s.heap t ([]:List Value).toArray) (hb:IsTup s.heap b ws.toArray) (h:Q (.ref b) s):wpAny (model prog w) A (binaryOp .Add (.ref t) (.ref b)) Q E s:=by
 obtain ⟨⟨cls,dd,data,sl⟩,ho,hc,n,hd⟩:=id ht
 obtain ⟨⟨cls2,dd2,data2,sl2⟩,ho2,hc2,n2,hd2⟩:=id hb
 simp only at hc hd hc2 hd2
 subst hc hd hc2 hd2
 exact concat_meets ⟨_,ho,rfl⟩ ⟨_,ho2,rfl⟩ noFill_tuple_add seq_tuple_add PySem.F.slot_tuple_add PySem.F.entry_tuple_add (PySem.F.args_tuple_add_2 _ _)
   (tuple_addW0 t b _ ws.toArray n n2 dd dd2 sl sl2 (by simp)) ⟨ho,ho2,h⟩
theorem f7 {t sl:Addr} {items:Array Value} {vl vu:Value} {lo hi:Option Int} {Q:Value->Shared->Prop} (ht:IsTup s.heap t items) (hs:s.heap.IsSliceOf sl vl vu .none) (pl:IsPart vl lo) (pu:IsPart vu hi)
  (hw:sIx items.size 0 lo=0/\sIx items.size items.size hi=items.size) (h:Q (.ref t) s):wpAny (model prog w) A (getItem (.ref t) (.ref sl)) Q E s:=by
 obtain ⟨os,hos,hcs,hds⟩:=id hs
 have hTs:s.TypeIs (.ref sl) "slice" := ⟨os,hos,hcs⟩
 obtain ⟨o,ho,hc,n,hd⟩:=id ht
 unfold getItem
 try with_reducible refine wpAny_holding ?_
 first | refine wpAny_bind (wpAny_pure ?_) | skip
 refine wpAny_bind (wpAny_sequenceKey ht.typeIs (by decide) ?_)
 refine wpAny_bind (wpAny_callSpecial?_slot (name:=Str.ofString "__getitem__") ht.typeIs PyProof.Rows.slot_tuple_getitem
  (wpAny_call_entry PyProof.Rows.slot_tuple_getitem ht.typeIs entry_tuple_getitem ?_ (args_tuple_getitem _ _)))
 show wpAny _ _ (Builtin.Tuple.tupleItemsOf (.ref t) >>= _) _ _ s
 refine wpAny_bind (tupleItemsOf_ ht ?_)
 refine wpAny_bind (wpAny_typeOf hTs ?_)
 rw [if_pos (by decide)]
 refine wpAny_bind (dE hs pl pu ?_)
 have hyes:((((sIx items.size 0 lo:Nat):Int) == 0 && (1:Int) == 1 && (sIx items.size items.size hi - sIx items.size 0 lo) == items.size)=true):=by
  rw [hw.1,hw.2];simp
 show wpAny _ _ (if (((sIx items.size 0 lo:Nat):Int) == 0 && (1:Int) == 1 && (sIx items.size items.size hi - sIx items.size 0 lo) == items.size)=true then _ else _) _ _ s
 rw [if_pos hyes]
 have hT:s.TypeIs (.ref t) "tuple" := ht.typeIs
 first
  | (refine wpAny_bind (m:=Builtin.Tuple.tupleIsExact _) ?_
     unfold Builtin.Tuple.tupleIsExact
     refine wpAny_bind (wpAny_typeOf hT (wpAny_pure ?_))
     rw [if_pos (by decide)]
     exact wpAny_bind (wpAny_rule (wpAny_pure ⟨_,rfl,wpAny_pure h⟩)))
end
end HT
namespace L2
open PySem PySem.Spec PyProof.Rows
theorem wD {s:Shared} {h':Heap} {o:Obj} (hk:∀ b x,b ∉ [s.heap.objs.size]->(s.heap.push o).get? b=some x->h'.get? b=some x):∀ b x,s.heap.get? b=some x->h'.get? b=some x:=
 fun b x e=>hk b x (fun hm=>by rw [List.mem_singleton.mp hm] at e;exact Nat.lt_irrefl _ (Heap.lt_size e)) (Heap.get?_push_of_some _ e)
section
variable {X:Cx}
noncomputable def IZ (K:PySem.W.Frag):R2:=fun x y H Q=>∃ a b xs ys,x = .ref a/\y = .ref b/\SqT K H a xs/\SqT K H b ys/\xs.length+ys.length<=sizeLine ∧
 (xs=[]->Q (.ref b) H)/\(xs ≠ []->ys=[]->Q (.ref a) H)/\(xs ≠ []->ys ≠ []->∀ p,H p=none->Q (.ref p) (upd H p (.tup (xs++ys))))
theorem Aa:OpR X (binaryOp .Add) (IZ X.K):=by
 intro pins s σ H x y v u Q I rx ry h
 obtain ⟨a,b,xs,ys,rfl,rfl,ha,hb,hz,q0,q1,q2⟩:=h
 by_cases hx:xs=[]
 ·subst hx
  cases rx
  cases ry
  obtain ⟨its,r1,p1,_⟩:=I.tuple ha
  obtain ⟨its2,r2,p2,_⟩:=I.tuple hb
  cases r1
  exact HT.wz p1 p2 ⟨.ref b,H,I,rfl,q0 rfl⟩
 ·exact zV pins s σ H _ _ v u Q I rx ry ⟨a,b,xs,ys,rfl,rfl,ha,hb,hx,hz,q1 hx,q2 hx⟩
noncomputable def K6 (K:PySem.W.Frag):V->Option Int->Option Int->Hp->VK->Prop:=fun x lo hi H Q=>∃ a xs,x = .ref a/\SqT K H a xs ∧
 ((HT.sIx xs.length 0 lo=0/\HT.sIx xs.length xs.length hi=xs.length)->Q (.ref a) H) ∧
 (¬ (HT.sIx xs.length 0 lo=0/\HT.sIx xs.length xs.length hi=xs.length)->∀ p,H p=none->Q (.ref p) (upd H p (.tup (j9 xs lo hi))))
theorem Ab:SlR X (K6 X.K):=by
 intro pins s σ H x v vl vu lo hi sl Q I rx hs pl pu h
 obtain ⟨a,xs,rfl,hx,q1,q2⟩:=h
 by_cases hw:(HT.sIx xs.length 0 lo=0/\HT.sIx xs.length xs.length hi=xs.length)
 ·cases rx
  obtain ⟨its,r,ht,hz⟩:=I.tuple hx
  have hlen:its.toArray.size=xs.length:=by rw [List.size_toArray];exact r.length.symm
  refine ⟨"tuple", _,PyProof.Rows.slot_tuple_getitem.lookup,ht.typeIs,?_⟩
  exact HT.f7 ht hs pl pu (by rw [hlen];exact hw) ⟨.ref a,H,I,rfl,q1 hw⟩
 ·exact Eh pins s σ H _ v vl vu lo hi sl Q I rx hs pl pu ⟨a,xs,rfl,hx,hw,q2 hw⟩
theorem oJ:a8 X (.builtin "isinstance") (fun xs H Q=>∃ x n t b,xs=[x,.ty n]/\TyOf X.K H x t/\PySem.W.kitOne X.K t (.type n)=some b/\Q (.bl b) H):=by
 intro pins s σ H xs us Q I r h
 obtain ⟨x,n,t,b,rfl,ty,e,q⟩:=h
 obtain ⟨u,w',rfl,rx,ry⟩:=sE r
 cases ry
 exact ur I rx ty e fun tk=>⟨.bl b,H,I.tok tk,rfl,q⟩
theorem kc:∀ {bs:List Bool} {us:List Value},aP (bs.map V.bl) us->us=bs.map Value.bool
 | [],_,.nil=>rfl
 | _::_,_,.cons r t=>by rw [List.map_cons,kc t];cases r;rfl
theorem uz (hc:X.calm=true):a8 X (.builtin "all") (fun xs H Q=>∃ (l:Addr) (bs:List Bool),xs=[.ref l]/\SqL X.K H l (bs.map V.bl)/\Q (.bl (bs.all id)) H):=by
 intro pins s σ H xs us Q I r h
 obtain ⟨l,bs,rfl,hl,q⟩:=h
 obtain ⟨u,rfl,ru⟩:=cJ r
 cases ru
 obtain ⟨its,rv,p,hz⟩:=I.list hl
 have e:=kc rv
 subst e
 have hL:=p.isList
 have hlt:l < s.heap.objs.size:=by obtain ⟨_,e,_⟩:=hL;exact Heap.lt_size e
 refine call_all_walk (wpAny_pyIter_list hL ?_)
 refine ⟨s.heap.objs.size,[s.heap.objs.size,l],[s.heap.objs.size],_,_,_,fun i=>(bs[i]?).getD true,rfl,Walks.list (A:=X.A.in1) (I.ok.hd hc) _ l (Nat.ne_of_lt hlt) _,
  ⟨⟨_,Heap.get?_push_size _ rfl,rfl,rfl⟩,hL.push _⟩,fun i v s' Q' E' hP hQ=>?_,fun h' tk hk=>?_⟩
 ·have hP':(bs.map Value.bool)[i]?=some v:=by simpa using hP
  rw [List.getElem?_map] at hP'
  cases hb:bs[i]? with
  | none=>rw [hb] at hP';cases hP'
  | some b=>
   rw [hb] at hP'
   have ev:Value.bool b=v:=Option.some.inj hP'
   subst ev
   simp only [hb,Option.getD_some] at hQ
   exact wpAny_truthy_bool hQ
 ·have e:((List.range (bs.map Value.bool).toArray.size).all fun i=>(bs[i]?).getD true)=bs.all id:=by
   rw [List.size_toArray,List.length_map,Bool.eq_iff_iff]
   simp only [List.all_eq_true,List.mem_range,id]
   constructor
   ·intro h b hb
    obtain ⟨i,hi,rfl⟩:=List.mem_iff_getElem.mp hb
    have:=h i hi
    rwa [gEG hi,Option.getD_some] at this
   ·intro h i hi
    rw [gEG hi,Option.getD_some]
    exact h _ (List.getElem_mem hi)
  rw [e]
  exact ⟨.bl (bs.all id),H,I.kept (t':=tk) (wD hk),rfl,q⟩
theorem Eo:OpR X (compareOp .Is) (fun x y H Q=>∃ b c,x = .bl b/\y = .bl c/\Q (.bl (b == c)) H):=by
 intro pins s σ H x y v u Q I rx ry h
 obtain ⟨b,c,rfl,rfl,q⟩:=h
 cases rx;cases ry
 exact is_bool ⟨.bl _,H,I,rfl,q⟩
theorem uA:OpR X (compareOp .IsNot) (fun x y H Q=>∃ b c,x = .bl b/\y = .bl c/\Q (.bl (b != c)) H):=by
 intro pins s σ H x y v u Q I rx ry h
 obtain ⟨b,c,rfl,rfl,q⟩:=h
 cases rx;cases ry
 exact isnot_bool ⟨.bl _,H,I,rfl,q⟩
theorem kf (hc:X.calm=true):∀ {pins:List (Addr × Obj)} {s:Shared} {σ:St} {H:Hp} {Q:VK} {r:Addr} {n:Nat} {t u v:Tok},Inv X pins σ H s->IsRange s.heap r 0 n 1 t u v->n<=1000->(∀ l,H l=none->Q (.ref l) (upd H l (.lst ((List.range n).map fun (i:Nat)=>V.int i)))) ->
  wpAny (model X.prog X.w) X.A (call (.type "list") [.ref r]) (EP X pins σ Q) X.xe s:=by
 intro pins s σ H Q r n t u v I hr hn q
 have hsm:Builtin.Range.small 0 n 1=true:=small_one (by omega) (by omega) (by omega) (by omega)
 refine call_list_range (n:=n) (I.ok.hd hc) hr hsm (by rw [rangeSize_one];split <;> omega) (by omega) fun h' tk acc' c' hk hS' hacc=>?_
 refine ⟨.ref s.heap.objs.size,_,I.laid (t':=tk) (o:=.lst ((List.range n).map fun (i:Nat)=>V.int i)) hk (Nat.le_refl _) ?_,rfl,q _ (I.hok.fresh (Nat.le_refl _))⟩
 have hsz:acc'.size=n:=hacc.1
 refine ⟨by rw [List.length_map,List.length_range];exact Nat.le_of_lt (ux hn),acc'.toList,c',?_,by simpa using hS'⟩
 have go:∀ (m:Nat) (k:Nat) (l:List Value),l.length=m->(∀ j x,l[j]?=some x->∃ tk,x=Value.int (((k+j:Nat):Nat):Int) tk)->aP ((List.range' k m).map fun (i:Nat)=>V.int i) l:=by
  intro m
  induction m with
  | zero=>intro k l hl _;cases l with | nil=>exact .nil | cons _ _=>cases hl
  | succ m ih=>
   intro k l hl hx
   cases l with
   | nil=>cases hl
   | cons x l=>
    rw [List.range'_succ,List.map_cons]
    obtain ⟨t,e⟩:=hx 0 x rfl
    refine .cons ⟨t,by simpa using e⟩ (ih (k+1) l (by simpa using hl) fun j y hy=>?_)
    obtain ⟨t',e'⟩:=hx (j+1) y (by simpa using hy)
    exact ⟨t',by rw [e',show ((k+(j+1):Nat):Int)=((k+1+j:Nat):Int) from by omega]⟩
 rw [List.range_eq_range']
 refine go n 0 acc'.toList (by simpa using hsz) fun j x hx=>?_
 obtain ⟨tk',e⟩:=hacc.2 j x (by simpa using hx)
 exact ⟨tk',by rw [e,show (0:Int)+(j:Nat) * 1=((0+j:Nat):Int) from by omega]⟩
end
end L2
namespace HT
open PySem PyProof.Rows
open AutoSeq1 (wpAny_loadPart')
section
variable {prog:Program} {w:World} {A:Around} {E:Value->Shared->Prop} {s:Shared}
theorem jI {it t:Addr} {i:Nat} {items:Array Value} {x:Value} {Q:Value->Shared->Prop} (hit:s.heap.IsTupleIter it t i) (ht:s.heap.IsTuple t items) (hx:items[i]?=some x)
  (hQ:∀ h',h'.IsTupleIter it t (i+1)->Heap.SameBut it s.heap h'->Q x { s with heap:=h' }):wpAny (model prog w) A (Builtin.SmallTypes.nextOf (.ref it)) Q E s:=by
 obtain ⟨o,ho,hc,hd⟩:=id hit
 obtain ⟨ol,hol,_,nl,hdl⟩:=ht
 unfold Builtin.SmallTypes.nextOf
 refine wpAny_bind (wpAny_callSpecial?_slot (name:=Str.ofString "__next__") hit.typeIs PySem.F.slot_tuple_iterator_next
  (wpAny_call_entry PySem.F.slot_tuple_iterator_next hit.typeIs PySem.F.entry_tuple_iterator_next ?_ (PySem.F.args_tuple_iterator_next_1 _)))
 show wpAny _ _ (field (.ref it) 0 >>= _) _ _ s
 refine wpAny_bind (wpAny_field ho hd (x:=.ref t) rfl ?_)
 show wpAny _ _ (if (Value.ref t == Value.none)=true then _ else _) _ _ s
 rw [if_neg (show ¬ ((Value.ref t == Value.none)=true) from Bool.false_ne_true)]
 show wpAny _ _ (field (.ref it) 1 >>= _) _ _ s
 refine wpAny_bind (wpAny_field ho hd (x:=.int i 0) rfl ?_)
 show wpAny _ _ (seqItems? (.ref t) >>= _) _ _ s
 refine wpAny_bind (wpAny_seqItems hol hdl ?_)
 simp only [Int.toNat_natCast,hx]
 refine wpAny_bind (wpAny_setField ho hd (by simp) (wpAny_pure ⟨x,rfl,wpAny_pure (hQ _ ?_ (Heap.SameBut.update ..))⟩))
 exact ⟨_,Heap.get?_update_self _ ho (Obj.isFreed_of_fields (Obj.data_mapFields hd _)),(Obj.cls_mapFields ..).trans hc,by
  rw [Obj.data_mapFields hd];simp [rawInt]⟩
theorem kg {it t:Addr} {i:Nat} {items:Array Value} {Q:Value->Shared->Prop} (hh:A.handled=none) (hit:s.heap.IsTupleIter it t i) (ht:s.heap.IsTuple t items) (hx:items[i]?=none)
  (hE:∀ h' e,Heap.ExtBut it s.heap h'->(∃ o,h'.get? e=some o/\o.cls = .type "StopIteration")->E (.ref e) { s with heap:=h' }):wpAny (model prog w) A (Builtin.SmallTypes.nextOf (.ref it)) Q E s:=by
 obtain ⟨o,ho,hc,hd⟩:=id hit
 obtain ⟨ol,hol,_,nl,hdl⟩:=ht
 unfold Builtin.SmallTypes.nextOf
 refine wpAny_bind (wpAny_callSpecial?_slot (name:=Str.ofString "__next__") hit.typeIs PySem.F.slot_tuple_iterator_next
  (wpAny_call_entry PySem.F.slot_tuple_iterator_next hit.typeIs PySem.F.entry_tuple_iterator_next ?_ (PySem.F.args_tuple_iterator_next_1 _)))
 show wpAny _ _ (field (.ref it) 0 >>= _) _ _ s
 refine wpAny_bind (wpAny_field ho hd (x:=.ref t) rfl ?_)
 show wpAny _ _ (if (Value.ref t == Value.none)=true then _ else _) _ _ s
 rw [if_neg (show ¬ ((Value.ref t == Value.none)=true) from Bool.false_ne_true)]
 show wpAny _ _ (field (.ref it) 1 >>= _) _ _ s
 refine wpAny_bind (wpAny_field ho hd (x:=.int i 0) rfl ?_)
 show wpAny _ _ (seqItems? (.ref t) >>= _) _ _ s
 refine wpAny_bind (wpAny_seqItems hol hdl ?_)
 simp only [Int.toNat_natCast,hx]
 refine wpAny_bind (wpAny_rule (wpAny_bind (wpAny_setField ho hd (by simp) ?_)))
 show wpAny _ _ (newExc (.type "StopIteration") [] >>= _) _ _ _
 refine wpAny_bind ?_
 simp only [newExc,newTuple]
 refine wpAny_bind (wpAny_newObj_type ?_ (by size_fits))
 refine wpAny_bind (m:=firstArgMember _ _) (wpAny_of_eq (a:=Value.none) (by first | rfl | (simp only [firstArgMember];rfl)) ?_)
 refine wpAny_newObj_type ?_ (by size_fits)
 simp only [raiseNew]
 refine wpAny_bind (wpAny_handled ?_)
 first | rw [show A.in1.handled=none from hh] | rw [hh]
 refine wpAny_bind (wpAny_pure (wpAny_throw ?_))
 exact hE _ _ (((Heap.SameBut.update ..).extBut.push _).push _) ⟨_,Heap.get?_push_size _ rfl,rfl⟩
end
theorem wG {prog:Program} {w:World} {A:Around} (hh:A.handled=none) (it l:Addr) (hne:l ≠ it) (items:Array Value) :
  Draws prog w A it [it,l] items.size (fun i v=>items[i]?=some v) (fun i h=>h.IsTupleIter it l i/\h.IsTuple l items) where
 live:=fun _ _ st=>let ⟨o,ho,_⟩:=st.1;⟨o,ho⟩
 frame:=fun _ _ _ st hk=>⟨st.1.at fun o e=>hk it (by simp) o e,let ⟨o,e,r⟩:=st.2;⟨o,hk l (by simp) o e,r⟩⟩
 item:=fun i s Q E hi st hQ=>by
  refine jI st.1 st.2 (x:=items[i]) (by simp [hi]) fun h' hit' hs'=>?_
  exact hQ _ h' s.toks (by simp [hi]) ⟨hit',let ⟨o,e,r⟩:=st.2;⟨o,hs'.extBut l o hne e,r⟩⟩ hs'
 done:=fun s Q E st hE=>kg hh st.1 st.2 (by simp) hE
theorem oK (l:Addr) (items:Array Value) (n:Nat) (dct:Option Addr) (sl:Array (Option Value)) :
  Meets (Builtin.«enumerate.__new__» ⟨[.type "enumerate", .ref l],[]⟩) (fun _ R s=>s.heap.get? l=some { cls:=.type "tuple", dict:=dct,data:=.seq items n,slots:=sl } ∧
   R (.ok (.ret (.ref (s.heap.push { cls:=.type "tuple_iterator", data:=.fields #[.ref l,.int 0 0] }).objs.size)))
    { s with heap:=(s.heap.push { cls:=.type "tuple_iterator", data:=.fields #[.ref l,.int 0 0] }).push { cls:=.type "enumerate", data:=.fields #[.none,.bool false,.ref s.heap.objs.size,rawInt 0,.none,.none] } }):=
 .of_wp fun prog w A R s h=>by
  obtain ⟨hp,g,d,tk,os⟩:=s;obtain ⟨hl,h⟩:=h
  have hsub:=sub_enumerate
  have hL:Heap.IsTuple (Shared.heap ⟨hp,g,d,tk,os⟩) l items:=⟨_,hl,rfl,n,rfl⟩
  wp_walk using wpAny_loadPart' hl
  refine wpAny_stack_any fun st=>wpAny_pure ?_
  split
  ·rename_i c _ _ _ _ _
   cases (c == Value.type "enumerate")
   ·wp_walk using wpAny_loadPart' hl,wpAny_pyIter_tuple hL
    exact ⟨_,rfl,h⟩
   ·wp_walk using wpAny_loadPart' hl,wpAny_pyIter_tuple hL
    exact ⟨_,rfl,h⟩
  ·wp_walk using wpAny_loadPart' hl,wpAny_pyIter_tuple hL
   exact ⟨_,rfl,h⟩
theorem qF {prog:Program} {w:World} {A:Around} {E:Value->Shared->Prop} {s:Shared} {l:Addr} {items:Array Value} {Q:Value->Shared->Prop} (hL:IsTup s.heap l items)
  (h:∀ h',IsEnum h' (s.heap.objs.size+1) s.heap.objs.size 0 .none->h'.IsTupleIter s.heap.objs.size l 0->h'.objs.size=s.heap.objs.size+2 ->
   (∀ b o,s.heap.get? b=some o->h'.get? b=some o)->Q (.ref (s.heap.objs.size+1)) { s with heap:=h' }) :
  wpAny (model prog w) A (call (.type "enumerate") [.ref l]) Q E s:=by
 obtain ⟨⟨c,dct,dt,sl⟩,hl,hc,n,hd⟩:=hL
 replace hc:c = .type "tuple" := hc
 replace hd:dt = .seq items n:=hd
 subst hc hd
 refine callType_new PySem.F.called_enumerate (by decide) (PySem.F.typeCall_enumerate_1 _) (PySem.F.newCall_enumerate_1 _) (fun obj=>PySem.F.args_object_init_2 obj _) PySem.F.entry_enumerate_new
  (oK l items n dct sl) ⟨hl,?_⟩
 have hz:(s.heap.push { cls:=.type "tuple_iterator", data:=.fields #[.ref l,.int 0 0] }).objs.size=s.heap.objs.size+1:=Heap.size_push ..
 show _/\_
 rw [hz]
 have he:IsEnum ((s.heap.push { cls:=.type "tuple_iterator", data:=.fields #[.ref l,.int 0 0] }).push
   { cls:=.type "enumerate", data:=.fields #[.none,.bool false,.ref s.heap.objs.size,rawInt 0,.none,.none] }) (s.heap.objs.size+1) s.heap.objs.size 0 .none:=by
  have:=Heap.get?_push_size (s.heap.push { cls:=.type "tuple_iterator", data:=.fields #[.ref l,.int 0 0] })
   (o:={ cls:=.type "enumerate", data:=.fields #[.none,.bool false,.ref s.heap.objs.size,rawInt 0,.none,.none] }) rfl
  rw [hz] at this;exact this
 exact ⟨⟨_,he,rfl⟩,h _ he ⟨_,Heap.get?_push_of_some _ (Heap.get?_push_size _ rfl),rfl,rfl⟩ (by rw [Heap.size_push,hz]) fun b o x=>Heap.get?_push_of_some _ (Heap.get?_push_of_some _ x)⟩
end HT
namespace L2
open PySem PySem.Spec PyProof.Rows
noncomputable def Ite (K:PySem.W.Frag) (a:Addr) (sq:PySem.W.Frag->Hp->Addr->List V->Prop):It:=
 ⟨fun i H=>∃ xs x,sq K H a xs/\xs[i]?=some x,fun i H x H'=>∃ T,H T=none/\x = .ref T/\∀ xs v,sq K H a xs->xs[i]?=some v->H'=upd H T (.tup [.int i,v]),fun i H=>∃ xs,sq K H a xs/\xs.length=i⟩
theorem Inv.turnedLaid {X:Cx} {pins:List (Addr × Obj)} {σ:St} {H:Hp} {s:Shared} {h':Heap} {T:Addr} {o:HO} {t':Nat} {ch:List Addr} (I:Inv X pins σ H s) (hf:∀ b ∈ ch,fZ X pins H b)
  (k:∀ b ob,b ∉ ch->s.heap.get? b=some ob->h'.get? b=some ob) (hp:s.heap.objs.size<=T) (new:bO X.prog X.w (upd H T o) h' T o):Inv X pins σ (upd H T o) { s with heap:=h',toks:=t' }:=by
 have fr:=I.hok.fresh hp
 have neT:∀ b ob,s.heap.get? b=some ob->b ≠ T:=fun b ob e=>Nat.ne_of_lt (Nat.lt_of_lt_of_le (Heap.lt_size e) hp)
 refine I.step (g':=s.gens) (d':=s.drawn) (ch:=ch) (fun b hb=>⟨(hf b hb).2.2.2.1,(hf b hb).2.1,(hf b hb).2.2.2.2.1,(hf b hb).2.2.2.2.2⟩) (fun b ob _ _ hc e _=>k b ob hc e) (fun b ob _ _ hc e _=>⟨ob.slots,k b ob hc e⟩)
  (fun b ob _ e n=>by rw [aC (neT b ob e)];exact n) (fun b ob hc e=>⟨ob,k b ob hc e⟩) (fun b xs q=>by rw [aC (aR q fr)];exact q) (fun b u xs q=>by rw [aC (aR q fr)];exact q)
  (fun b ps q=>⟨#[],by rw [aC (aR q fr),q];simp⟩) (fun m hm=>?_) (fun b u q=>?_) I.bare
 ·obtain ⟨ob,es,ep,ho',r'⟩:=hm
  exact ⟨ob,es,ep,k _ ob (fun z=>(hf _ z).2.1 rfl) ho',r'⟩
 ·by_cases hb:b=T
  ·subst hb;rw [bx] at q;cases q;exact new
  ·rw [aC hb] at q
   refine (I.hok b u q).stay (fun c v hc q'=>k c v (fun z=>?_) q') (fun c q=>by rw [aC (aR q fr)];exact q) fun c xs q=>by rw [aC (aR q fr)];exact q
   have n:=(hf c z).1
   rcases hc with w | w
   ·rw [w,q] at n;cases n
   ·rw [w] at n;cases n
theorem Inv.turnedAll {X:Cx} {pins:List (Addr × Obj)} {σ:St} {H:Hp} {s:Shared} {h':Heap} {t':Nat} {ch:List Addr} (I:Inv X pins σ H s) (hf:∀ b ∈ ch,fZ X pins H b)
  (k:∀ b ob,b ∉ ch->s.heap.get? b=some ob->h'.get? b=some ob):Inv X pins σ H { s with heap:=h',toks:=t' }:=by
 refine I.step (g':=s.gens) (d':=s.drawn) (ch:=ch) (fun b hb=>⟨(hf b hb).2.2.2.1,(hf b hb).2.1,(hf b hb).2.2.2.2.1,(hf b hb).2.2.2.2.2⟩) (fun b ob _ _ hc e _=>k b ob hc e) (fun b ob _ _ hc e _=>⟨ob.slots,k b ob hc e⟩)
  (fun b ob _ e n=>n) (fun b ob hc e=>⟨ob,k b ob hc e⟩) (fun b xs q=>q) (fun b u xs q=>q)
  (fun b ps q=>⟨#[],by rw [q];simp⟩) (fun m hm=>?_) (fun b u q=>?_) I.bare
 ·obtain ⟨ob,es,ep,ho',r'⟩:=hm
  exact ⟨ob,es,ep,k _ ob (fun z=>(hf _ z).2.1 rfl) ho',r'⟩
 ·refine (I.hok b u q).stay (fun c v hc q'=>k c v (fun z=>?_) q') (fun c q=>q) fun c xs q=>q
  have n:=(hf c z).1
  rcases hc with w | w
  ·rw [w,q] at n;cases n
  ·rw [w] at n;cases n
theorem qG {P:Program} {w:World} {K:PySem.W.Frag} {elts:List Expr} {x1:Nat} {tp:Pos} (a e it:Addr) (hei:e ≠ it) :
  jM P w K (.Tuple elts x1 tp) (Ite K a SqL) [e,it] e (fun i h=>(∃ old,IsEnum h e it i old)/\h.IsListIter it a i) where
 mem:=by simp
 obj:=fun i h st b hb=>by
  obtain ⟨⟨old,he⟩,o,eo,c,d⟩:=st
  rcases List.mem_cons.mp hb with z | z
  ·subst z;exact ⟨_,he,fun v z=>by have z':Data.fields _=Data.cell v:=z;cases z'⟩
  ·have z':=List.mem_singleton.mp z;subst z';exact ⟨o,eo,fun v z=>by rw [d] at z;cases z⟩
 keep:=fun i h h' st k=>⟨let ⟨old,he⟩:=st.1;⟨old,k e (by simp) _ he⟩,st.2.at fun o eo=>k it (by simp) o eo⟩
 item:=by
  intro X hP hw hK hc i pins s σ H E I hf st hg
  subst hP hw hK
  obtain ⟨xs,x,hq,hx⟩:=hg
  obtain ⟨its,rv,p,hz⟩:=I.list hq
  obtain ⟨u,hu,ru⟩:=rv.get hx
  obtain ⟨⟨old,he⟩,hit⟩:=st
  have hL:s.heap.IsList a its.toArray:=p.isList
  have hae:e ≠ a:=fun z=>by
   subst z
   obtain ⟨o,ho,hc',n,hd'⟩:=id hL
   rw [he] at ho;cases ho
   have z':Data.fields _=Data.seq its.toArray n:=hd'
   cases z'
  have hai:a ≠ it:=fun z=>by
   subst z
   obtain ⟨o,ho,hc',n,hd'⟩:=id hL
   obtain ⟨o',ho',c',d'⟩:=id hit
   rw [ho'] at ho;cases ho;rw [d'] at hd';cases hd'
  have hi:i < its.toArray.size:=by
   have:=(List.getElem?_eq_some_iff.mp hu).1
   simpa using this
  refine wpAny_pyNext_enum_itemD (Draws.list (A:=X.A.in1) (I.ok.hd hc) it a hai its.toArray) he ⟨hit,hL⟩ hi hei (by simp [hei,hae]) fun y h' tk hP ho hs' hT hsz hk=>?_
  have ey:y=u:=by
   have z:its.toArray[i]?=some u:=by simpa using hu
   rw [z] at hP;exact (Option.some.inj hP).symm
  subst ey
  refine ⟨_,rfl,?_⟩
  refine wpAny_letOwnedTupleGo_enum ho fun h2 he2 hs2=>?_
  have helt:e < s.heap.objs.size:=Heap.lt_size he
  have hilt:it < s.heap.objs.size:=by obtain ⟨o,eo,_⟩:=hit;exact Heap.lt_size eo
  have hT2:h2.get? s.heap.objs.size=some { cls:=.type "tuple", data:=.seq #[.int i tk,y] }:=(hs2.2 _ (Nat.ne_of_gt helt)).trans hT
  have fresh:=I.hok.fresh (Nat.le_refl s.heap.objs.size)
  refine ⟨.ref s.heap.objs.size,upd H s.heap.objs.size (.tup [.int i,x]),?_,rfl,⟨_,fresh,rfl,fun ys v hy hv=>?_⟩,⟨⟨y,by simpa using he2⟩,hs'.1.at fun o eo=>(hs2.2 it (Ne.symm hei)).trans eo⟩,fun b hb=>?_⟩
  ·exact I.turnedLaid (t':=tk+1) hf (fun b ob hb eb=>(hs2.2 b fun z=>hb (by simp [z])).trans (hk b ob (fun z=>hb (by simp [z])) (fun z=>hb (by simp [z])) eb)) (Nat.le_refl _)
    ⟨by show 2<=sizeLine;decide,[.int i tk,y],.cons ⟨tk,rfl⟩ (.cons ru .nil),⟨_,hT2,rfl,_,rfl,rfl⟩⟩
  ·rw [I.list_inj hy hq,hx] at hv;cases hv;rfl
  ·rcases List.mem_cons.mp hb with z | z
   ·rw [z,aC (Nat.ne_of_lt helt)];exact (hf e (by simp)).1
   ·rw [List.mem_singleton.mp z,aC (Nat.ne_of_lt hilt)];exact (hf it (by simp)).1
 done:=by
  intro X hP hw hK hc i pins s σ H E I hf st hg
  subst hP hw hK
  obtain ⟨xs,hq,hx⟩:=hg
  obtain ⟨its,rv,p,hz⟩:=I.list hq
  obtain ⟨⟨old,he⟩,hit⟩:=st
  have hL:s.heap.IsList a its.toArray:=p.isList
  have hai:a ≠ it:=fun z=>by
   subst z
   obtain ⟨o,ho,hc',n,hd'⟩:=id hL
   obtain ⟨o',ho',c',d'⟩:=id hit
   rw [ho'] at ho;cases ho;rw [d'] at hd';cases hd'
  have hn:its.toArray.size=i:=by rw [List.size_toArray,<-rv.length,hx]
  subst hn
  refine wpAny_pyNext_enum_endD (Draws.list (A:=X.A.in1) (I.ok.hd hc) it a hai its.toArray) he ⟨hit,hL⟩ fun h' eb=>⟨rfl,?_⟩
  exact I.turnedAll (t':=s.toks) hf fun b ob hb q=>eb b ob (fun z=>hb (by simp [z])) q
 self:=fun _ _ _ _ _ st h=>let ⟨⟨old,he⟩,_⟩:=st;wpAny_pyIter_enum he h
theorem qH {P:Program} {w:World} {K:PySem.W.Frag} {elts:List Expr} {x1:Nat} {tp:Pos} (a e it:Addr) (hei:e ≠ it) :
  jM P w K (.Tuple elts x1 tp) (Ite K a SqT) [e,it] e (fun i h=>(∃ old,IsEnum h e it i old)/\h.IsTupleIter it a i) where
 mem:=by simp
 obj:=fun i h st b hb=>by
  obtain ⟨⟨old,he⟩,o,eo,c,d⟩:=st
  rcases List.mem_cons.mp hb with z | z
  ·subst z;exact ⟨_,he,fun v z=>by have z':Data.fields _=Data.cell v:=z;cases z'⟩
  ·have z':=List.mem_singleton.mp z;subst z';exact ⟨o,eo,fun v z=>by rw [d] at z;cases z⟩
 keep:=fun i h h' st k=>⟨let ⟨old,he⟩:=st.1;⟨old,k e (by simp) _ he⟩,st.2.at fun o eo=>k it (by simp) o eo⟩
 item:=by
  intro X hP hw hK hc i pins s σ H E I hf st hg
  subst hP hw hK
  obtain ⟨xs,x,hq,hx⟩:=hg
  obtain ⟨its,rv,p,hz⟩:=I.tuple hq
  obtain ⟨u,hu,ru⟩:=rv.get hx
  obtain ⟨⟨old,he⟩,hit⟩:=st
  have hL:s.heap.IsTuple a its.toArray:=p
  have hae:e ≠ a:=fun z=>by
   subst z
   obtain ⟨o,ho,hc',n,hd'⟩:=id hL
   rw [he] at ho;cases ho
   have z':Data.fields _=Data.seq its.toArray n:=hd'
   cases z'
  have hai:a ≠ it:=fun z=>by
   subst z
   obtain ⟨o,ho,hc',n,hd'⟩:=id hL
   obtain ⟨o',ho',c',d'⟩:=id hit
   rw [ho'] at ho;cases ho;rw [d'] at hd';cases hd'
  have hi:i < its.toArray.size:=by
   have:=(List.getElem?_eq_some_iff.mp hu).1
   simpa using this
  refine wpAny_pyNext_enum_itemD (HT.wG (A:=X.A.in1) (I.ok.hd hc) it a hai its.toArray) he ⟨hit,hL⟩ hi hei (by simp [hei,hae]) fun y h' tk hP ho hs' hT hsz hk=>?_
  have ey:y=u:=by
   have z:its.toArray[i]?=some u:=by simpa using hu
   rw [z] at hP;exact (Option.some.inj hP).symm
  subst ey
  refine ⟨_,rfl,?_⟩
  refine wpAny_letOwnedTupleGo_enum ho fun h2 he2 hs2=>?_
  have helt:e < s.heap.objs.size:=Heap.lt_size he
  have hilt:it < s.heap.objs.size:=by obtain ⟨o,eo,_⟩:=hit;exact Heap.lt_size eo
  have hT2:h2.get? s.heap.objs.size=some { cls:=.type "tuple", data:=.seq #[.int i tk,y] }:=(hs2.2 _ (Nat.ne_of_gt helt)).trans hT
  have fresh:=I.hok.fresh (Nat.le_refl s.heap.objs.size)
  refine ⟨.ref s.heap.objs.size,upd H s.heap.objs.size (.tup [.int i,x]),?_,rfl,⟨_,fresh,rfl,fun ys v hy hv=>?_⟩,⟨⟨y,by simpa using he2⟩,hs'.1.at fun o eo=>(hs2.2 it (Ne.symm hei)).trans eo⟩,fun b hb=>?_⟩
  ·exact I.turnedLaid (t':=tk+1) hf (fun b ob hb eb=>(hs2.2 b fun z=>hb (by simp [z])).trans (hk b ob (fun z=>hb (by simp [z])) (fun z=>hb (by simp [z])) eb)) (Nat.le_refl _)
    ⟨by show 2<=sizeLine;decide,[.int i tk,y],.cons ⟨tk,rfl⟩ (.cons ru .nil),⟨_,hT2,rfl,_,rfl,rfl⟩⟩
  ·rw [I.tuple_inj hy hq,hx] at hv;cases hv;rfl
  ·rcases List.mem_cons.mp hb with z | z
   ·rw [z,aC (Nat.ne_of_lt helt)];exact (hf e (by simp)).1
   ·rw [List.mem_singleton.mp z,aC (Nat.ne_of_lt hilt)];exact (hf it (by simp)).1
 done:=by
  intro X hP hw hK hc i pins s σ H E I hf st hg
  subst hP hw hK
  obtain ⟨xs,hq,hx⟩:=hg
  obtain ⟨its,rv,p,hz⟩:=I.tuple hq
  obtain ⟨⟨old,he⟩,hit⟩:=st
  have hL:s.heap.IsTuple a its.toArray:=p
  have hai:a ≠ it:=fun z=>by
   subst z
   obtain ⟨o,ho,hc',n,hd'⟩:=id hL
   obtain ⟨o',ho',c',d'⟩:=id hit
   rw [ho'] at ho;cases ho;rw [d'] at hd';cases hd'
  have hn:its.toArray.size=i:=by rw [List.size_toArray,<-rv.length,hx]
  subst hn
  refine wpAny_pyNext_enum_endD (HT.wG (A:=X.A.in1) (I.ok.hd hc) it a hai its.toArray) he ⟨hit,hL⟩ fun h' eb=>⟨rfl,?_⟩
  exact I.turnedAll (t':=s.toks) hf fun b ob hb q=>eb b ob (fun z=>hb (by simp [z])) q
 self:=fun _ _ _ _ _ st h=>let ⟨⟨old,he⟩,_⟩:=st;wpAny_pyIter_enum he h
noncomputable def Ep (K:PySem.W.Frag) (ta:TA):TI:=fun σ H R=>ta σ H fun vs H1=>∃ a xs,vs=[.ref a]/\SqL K H1 a xs/\R (Ite K a SqL) H1
noncomputable def I0 (K:PySem.W.Frag) (ta:TA):TI:=fun σ H R=>ta σ H fun vs H1=>∃ a xs,vs=[.ref a]/\SqT K H1 a xs/\R (Ite K a SqT) H1
section
variable {X:Cx} {elts:List Expr} {x1:Nat} {tp:Pos}
theorem wH {a:Expr} {ta:TA} {p pos:Pos} (hg:Gl X "enumerate") (hm:X.mg "enumerate" = none) (ha:PA X [a] ta) (hs:starEach [a] X.env=[(false,eval a X.env)]:=by rfl):PI X (.Tuple elts x1 tp) (.Call (.Name "enumerate" p) [a] [] pos) (Ep X.K ta):=by
 intro pins s σ H R I h
 refine Call_ (e9 I hg hm PyProof.Rows.boot_enumerate (PyProof.Rows.callWith_type1 (thn (ha pos pins s σ H _ I h) fun us s1 ⟨vs,H1,I1,r1,q1⟩=>?_) hs rfl))
 obtain ⟨l,xs,e,hl,q⟩:=q1
 subst e
 obtain ⟨u,rfl,ru⟩:=cJ r1
 cases ru
 obtain ⟨its,rv,pl,hz⟩:=I1.list hl
 refine call_enumerate_list pl.isList fun h' he hit hsz hk=>wpAny_pyIter_enum he ?_
 have I2:Inv X pins σ H1 { s1 with heap:=h' }:=I1.kept (t':=s1.toks) hk
 have fr:∀ b,s1.heap.objs.size<=b->fZ X pins H1 b:=fun b hb=>I1.fpOk hb (I1.hok.fresh hb)
 refine ⟨_,[s1.heap.objs.size+1,s1.heap.objs.size],_,_,H1,rfl,I2,qG l _ _ (Nat.succ_ne_self _),⟨⟨_,he⟩,hit⟩,fun b hb=>?_,q⟩
 rcases List.mem_cons.mp hb with z | z
 ·rw [z];exact fr _ (Nat.le_succ _)
 ·rw [List.mem_singleton.mp z];exact fr _ (Nat.le_refl _)
theorem Er {a:Expr} {ta:TA} {p pos:Pos} (hg:Gl X "enumerate") (hm:X.mg "enumerate" = none) (ha:PA X [a] ta) (hs:starEach [a] X.env=[(false,eval a X.env)]:=by rfl):PI X (.Tuple elts x1 tp) (.Call (.Name "enumerate" p) [a] [] pos) (I0 X.K ta):=by
 intro pins s σ H R I h
 refine Call_ (e9 I hg hm PyProof.Rows.boot_enumerate (PyProof.Rows.callWith_type1 (thn (ha pos pins s σ H _ I h) fun us s1 ⟨vs,H1,I1,r1,q1⟩=>?_) hs rfl))
 obtain ⟨l,xs,e,hl,q⟩:=q1
 subst e
 obtain ⟨u,rfl,ru⟩:=cJ r1
 cases ru
 obtain ⟨its,rv,pl,hz⟩:=I1.tuple hl
 refine HT.qF pl fun h' he hit hsz hk=>wpAny_pyIter_enum he ?_
 have I2:Inv X pins σ H1 { s1 with heap:=h' }:=I1.kept (t':=s1.toks) hk
 have fr:∀ b,s1.heap.objs.size<=b->fZ X pins H1 b:=fun b hb=>I1.fpOk hb (I1.hok.fresh hb)
 refine ⟨_,[s1.heap.objs.size+1,s1.heap.objs.size],_,_,H1,rfl,I2,qH l _ _ (Nat.succ_ne_self _),⟨⟨_,he⟩,hit⟩,fun b hb=>?_,q⟩
 rcases List.mem_cons.mp hb with z | z
 ·rw [z];exact fr _ (Nat.le_succ _)
 ·rw [List.mem_singleton.mp z];exact fr _ (Nat.le_refl _)
end
section
variable {X:Cx}
theorem oM:a8 X (.type "range") (fun xs H Q=>∃ j:Int,xs=[.int j]/\∀ p,H p=none->Q (.ref p) (upd H p (.rng 0 j))):=by
 intro pins s σ H xs us Q I r h
 obtain ⟨j,rfl,q⟩:=h
 obtain ⟨u,rfl,ru⟩:=cJ r
 obtain ⟨t,rfl⟩:=ru
 exact call_range_1 ⟨.ref s.heap.objs.size,_,I.laid (t':=s.toks+1+1) (o:=.rng 0 j) (fun b o e=>Heap.get?_push_of_some _ e) (Nat.le_refl _) ⟨_,_,_,Heap.get?_push_size _ rfl⟩,rfl,q _ (I.hok.fresh (Nat.le_refl _))⟩
theorem ng (hc:X.calm=true):a8 X (.type "list") (fun xs H Q=>∃ (p:Addr) (n:Nat),xs=[.ref p]/\H p=some (.rng 0 n)/\n<=1000/\∀ l,H l=none->Q (.ref l) (upd H l (.lst ((List.range n).map fun (i:Nat)=>V.int i)))):=by
 intro pins s σ H xs us Q I r h
 obtain ⟨p,n,rfl,hp,hn,q⟩:=h
 obtain ⟨u,rfl,ru⟩:=cJ r
 cases ru
 obtain ⟨t,u,v,e⟩:=(show bO X.prog X.w H s.heap p (.rng 0 n) from I.hok p _ hp)
 exact kf hc I e hn q
end
end L2
namespace L2
open PySem PySem.Spec PyProof.Rows
section
variable {X:Cx}
noncomputable def De (i j k:Nat) (ta:TA):TS:=fun D σ H=>ta σ H fun vs H1=>∃ v w z,vs=[v,w,z]/\D.nx (((σ.set i (some v)).set j (some w)).set k (some z)) H1
theorem Ac {i j k:Nat} {x y z:Str} {a b c:Expr} {ta:TA} {px py pz pt pos:Pos} {kt k2 pt2} (hc:X.calm=true) (hN:X.N.Nodup) (hi:X.N[i]?=some x) (hj:X.N[j]?=some y) (hk:X.N[k]?=some z) (hij:i ≠ j) (hik:i ≠ k) (hjk:j ≠ k)
  (hx:X.env.scope.names.lookup x=some .local) (hy:X.env.scope.names.lookup y=some .local) (hz:X.env.scope.names.lookup z=some .local) (ha:PA X [a,b,c] ta)
  (hw:swappedStores [.Tuple [.Name x px,.Name y py,.Name z pz] kt pt] (.Tuple [a,b,c] k2 pt2) X.env=pure (some [x,y,z]))
  (hs:swapsWithSole [.Tuple [.Name x px,.Name y py,.Name z pz] kt pt] (.Tuple [a,b,c] k2 pt2) pos.line X.env=pure false:=by rfl) :
  PS X (.Assign [.Tuple [.Name x px,.Name y py,.Name z pz] kt pt] (.Tuple [a,b,c] k2 pt2) pos) (De i j k ta):=by
 intro pins s σ H D I h
 rw [exec_Assign_arm]
 refine wpAny_bind (wpAny_standAt ?_)
 rw [hs]
 refine wpAny_bind (wpAny_pure ?_)
 rw [if_neg (by decide)]
 refine wpAny_bind (Tuple_ (thn (ha _ pins s σ H _ I h) fun us s1 ⟨vs,H1,I1,r1,q1⟩=>?_))
 obtain ⟨v,w,z',e1,q1⟩:=q1
 subst e1
 obtain ⟨u1,u2,u3,rfl,rv,rw',rz⟩:∃ u1 u2 u3,us=[u1,u2,u3]/\aN v u1/\aN w u2/\aN z' u3:=by
  cases r1 with
  | cons p q=>
   cases q with
   | cons p' q'=>
    cases q' with
    | cons p'' q''=>
     cases q''
     exact ⟨_,_,_,rfl,p,p',p''⟩
 refine wpAny_newObj_type ?_ (by show 3<=sizeLine;decide)
 have I2:Inv X pins σ H1 { s1 with heap:=s1.heap.push { cls:=.type "tuple", data:=.seq [u1,u2,u3].toArray } }:=I1.kept (t':=s1.toks) fun b o e=>Heap.get?_push_of_some _ e
 rw [hw]
 refine wpAny_bind (wpAny_pure ?_)
 show wpAny (model X.prog X.w) X.A (do rule "assign.swapped-stores"; let items <-unpackItems (.ref s1.heap.objs.size) 3 none;assignInOrder [fun v=>bindName X.env z v,fun v=>bindName X.env y v,fun v=>bindName X.env x v] items.reverse;pure Flow.next) _ _ _
 refine wpAny_bind (wpAny_rule (wpAny_bind (unpackItems_tuple (items:=#[u1,u2,u3]) (I.ok.hd hc) (IsTup.new s1.heap _) fun h' hx'=>?_)))
 have I3:=I2.kept (h':=h') (t':=s1.toks) fun b o e=>hx' b o (Nat.ne_of_lt (Heap.lt_size e)) e
 show wpAny _ _ (assignInOrder [fun v=>bindName X.env z v,fun v=>bindName X.env y v,fun v=>bindName X.env x v] [u3,u2,u1] >>= fun _=>pure Flow.next) _ _ _
 refine wpAny_bind (assignInOrder_cons (wpAny_bindName (cI I3 hN hk (.inl hz) rz (fun s2 I4=>?_) (.inr hz))))
 refine assignInOrder_cons (wpAny_bindName (cI I4 hN hj (.inl hy) rw' (fun s3 I5=>?_) (.inr hy)))
 refine assignInOrder_cons (wpAny_bindName (cI I5 hN hi (.inl hx) rv (fun s4 I6=>assignInOrder_nil (wpAny_pure ?_)) (.inr hx)))
 refine ⟨_,H1,?_,q1⟩
 rw [List.set_comm _ _ (Ne.symm hjk),List.set_comm _ _ (Ne.symm hik),List.set_comm (some w) (some v) (Ne.symm hij)] at I6
 exact I6
end
noncomputable def iT:List Str->Bool
 | []=>true
 | x::r=>!r.contains x && iT r
theorem hY:∀ {l:List Str},iT l=true->l.Nodup
 | [],_=>List.nodup_nil
 | x::r,h=>by
  unfold iT at h
  rw [bAE] at h
  refine List.nodup_cons.mpr ⟨fun m=>?_,hY h.2⟩
  have:=h.1
  simp [m] at this
noncomputable def cmB (own:List Str) (hs:List Nat) (N:List Str) (scope sc:Scope):Bool:=
 (scope.kind == .function) && iT (cK hs N++own) && iT (scope.names.map (·.1)) && ((cK hs N).all fun x=>scope.names.lookup x != some .local && scope.names.lookup x != some .cell) &&
 (scope.names.all fun y=>y.2 != .free || (sc.names.lookup y.1 == some .cell || sc.names.lookup y.1 == some .free)) && hs.all fun i=>(scope.names.lookup (wu i)).isNone
theorem wJ {own:List Str} (hs:List Nat) {N:List Str} {scope sc:Scope} (h:cmB own hs N scope sc=true):CmScope own hs N scope sc:=by
 unfold cmB at h
 simp only [bAE,List.all_eq_true] at h
 obtain ⟨⟨⟨⟨⟨h1,h2⟩,h3⟩,h4⟩,h5⟩,h6⟩:=h
 refine ⟨by simpa using h1,hY h2,hY h3,fun x hx=>?_,fun y hy hk=>?_,fun i hi=>by simpa using h6 i hi⟩
 ·have:=h4 x hx
  simpa using this
 ·have:=h5 y hy
  rw [hk] at this
  simpa using this
end L2
namespace L2
open PySem PySem.Spec PyProof.Rows
section
variable {X:Cx} {tg l a:Expr} {tl:TE} {ta:TA} {es:List Expr} {t:TGs} {p pos:Pos} {n k:Nat} {elts:List Expr} {x1:Nat} {tp:Pos} {o e:Expr} {to:TE} {tt:TA} {name:Str} {apos cpos:Pos}
noncomputable def Df (K:PySem.W.Frag):List V->Hp->VK->Prop:=fun xs H Q=>∃ x n t b,xs=[x,.ty n]/\TyOf K H x t/\PySem.W.kitOne K t (.type n)=some b/\Q (.bl b) H
theorem nh (K:PySem.W.Frag) (hK:X.K=K:=by rfl):a8 X (.builtin "isinstance") (Df K):=hK ▸ oJ
end
end L2
namespace L2
open PySem PySem.Spec PyProof.Rows
theorem kh {x:V}:∀ {xs:List V} {us:List Value},aP xs us->xs.all dF=true->us.countP (eqU x)=xs.countP fun y=>eqV y x
 | _,_,.nil,_=>rfl
 | y::xs,u::us,.cons r t,f=>by
  rw [List.all_cons,bAE] at f
  rw [List.countP_cons,List.countP_cons,qD r f.1,kh t f.2]
section
variable {X:Cx}
noncomputable def Ad (K:PySem.W.Frag):V->List V->Hp->VK->Prop:=fun x vs H Q=>∃ p xs y,x = .ref p/\vs=[y]/\SqT K H p xs/\dF y=true/\xs.all dF=true/\Q (.int ((xs.countP fun z=>eqV z y:Nat):Int)) H
theorem uB (K:PySem.W.Frag) (hK:X.K=K:=by rfl):MtR X "tuple.count" (Ad K):=by
 subst hK
 intro pins s σ H x vs v us Q I rx rv h
 obtain ⟨p,xs,y,rfl,rfl,hq,fy,fs,q⟩:=h
 cases rx
 obtain ⟨u,rfl,ru⟩:=rv.one
 obtain ⟨its,r,⟨⟨cls,dd,data,sl⟩,e,hc,n,hd⟩,hz⟩:=I.tuple hq
 simp only at hc hd
 subst hc hd
 refine call_meets F.slot_tuple_count ⟨_,e,rfl⟩ F.entry_tuple_count (F.args_tuple_count_2 _ _) (SeqAt.tuple_countAt p its.toArray n dd sl u (eqU y)) ⟨e,fun w hw=>dG ru fy r fs w (by simpa using hw),?_⟩
 refine ⟨.int _,H,I.tok _,⟨_,rfl⟩,?_⟩
 have z:(its.toArray.toList.countP (eqU y))=xs.countP fun z=>eqV z y:=by
  rw [List.toList_toArray];exact kh r fs
 rw [z]
 exact q
end
end L2
namespace Dw
open PySem PySem.Spec PyProof.Rows L2
inductive D where
 | non | bl (b:Bool) | int (i:Int) | str (x:Str) | tup (ds:List D) | lst (ds:List D) | dic (ks:List Key) (ds:List D)
mutual
noncomputable def Br (N:List Addr) (H:Hp):D->V->Prop
 | .non,v=>v = .non
 | .bl b,v=>v = .bl b
 | .int i,v=>v = .int i
 | .str x,v=>v = .str x
 | .tup ds,v=>∃ a xs,v = .ref a/\H a=some (.tup xs)/\BrL N H ds xs
 | .lst ds,v=>∃ a xs,v = .ref a/\a ∉ N/\H a=some (.lst xs)/\BrL N H ds xs
 | .dic ks ds,v=>∃ a xs,v = .ref a/\a ∉ N/\H a=some (.dK (ks.zip xs))/\ks.length=ds.length/\BrL N H ds xs
noncomputable def BrL (N:List Addr) (H:Hp):List D->List V->Prop
 | [],xs=>xs=[]
 | d::ds,xs=>∃ x r,xs=x::r/\Br N H d x/\BrL N H ds r
end
mutual
noncomputable def dep:D->Nat
 | .tup ds=>hZ ds+1
 | .lst ds=>hZ ds+1
 | .dic _ ds=>hZ ds+1
 | _=>0
noncomputable def hZ:List D->Nat
 | []=>0
 | d::ds=>max (dep d) (hZ ds)
end
mutual
noncomputable def wid:D->Nat
 | .tup ds=>max ds.length (ni ds)
 | .lst ds=>max ds.length (ni ds)
 | .dic _ ds=>max ds.length (ni ds)
 | _=>0
noncomputable def ni:List D->Nat
 | []=>0
 | d::ds=>max (wid d) (ni ds)
end
theorem BrL.len {N:List Addr} {H:Hp}:∀ {ds:List D} {xs:List V},BrL N H ds xs->xs.length=ds.length
 | [],_,h=>by simp only [BrL] at h;rw [h];rfl
 | d::ds,_,h=>by
  simp only [BrL] at h
  obtain ⟨x,r,rfl,_,h2⟩:=h
  rw [List.length_cons,List.length_cons,BrL.len h2]
noncomputable def isB:D->Bool | .bl _=>true | _=>false
end Dw
namespace Dw
open PySem PySem.Spec PyProof.Rows L2
noncomputable def isW (d:D):Bool:=match d with | .int _=>true | _=>false
noncomputable def az (d:D) (a b:Int):Bool:=match d with | .int i=>decide (a<=i) && decide (i<=b) | _=>false
noncomputable def isT (d:D) (a b:Int):Bool:=match d with | .tup ds=>decide (a<=(ds.length:Int)) && decide ((ds.length:Int)<=b) | _=>false
noncomputable def ga (n:Nat) (d:D):Bool:=match d with | .tup ds=>decide (ds.length=n) && ds.all (fun e=>az e 1 99) | _=>false
noncomputable def ki (rows:List D) (a b:Nat):Int:=match rows[a]? with
 | some (.tup r)=>(match r[b]? with | some (.int i)=>i | _=>0)
 | _=>0
noncomputable def qI (rows:List D) (a b c:Nat):Bool:=decide (ki rows a b<=ki rows a c+ki rows c b)
noncomputable def uC (rows:List D) (n:Nat):List Bool:=(List.range n).flatMap fun a=>(List.range n).flatMap fun b=>(List.range n).map fun c=>qI rows a b c
noncomputable def bQ (d:D):Bool:=match d with
 | .tup rows=>(decide (1<=rows.length) && decide (rows.length<=4)) && (rows.all (ga rows.length) && (uC rows rows.length).all id)
 | _=>false
noncomputable def ltD (x y:D):Bool:=match x,y with | .int i,.int j=>decide (i < j) | _,_=>false
noncomputable def ba (d:D):Bool:=match d with | .tup [b,e]=>az b 0 9999 && (az e 0 9999 && ltD b e) | _=>false
noncomputable def jg (ds:List D) (i:Nat):Int:=match ds[i]? with | some (.tup [.int b,_])=>b | _=>0
noncomputable def jh (ds:List D) (i:Nat):Int:=match ds[i]? with | some (.tup [_,.int e])=>e | _=>0
noncomputable def nj (ds:List D):List Bool:=(List.range (ds.length - 1)).map fun i=>decide (jh ds i < jg ds (i+1))
noncomputable def bA (d:D):Bool:=match d with | .tup ds=>decide (ds.length<=4) && (ds.all ba && (nj ds).all id) | _=>false
noncomputable def bH (d:D):Bool:=match d with
 | .tup [r,s,g,h]=>az r 0 8 && (az s 0 60 && (bQ g && bA h))
 | _=>false
theorem nk (ds:List D) (n:Nat):isT (.tup ds) n n=decide (ds.length=n):=by
 unfold isT
 rw [Bool.eq_iff_iff];simp;omega
theorem aA {d:D} {a b:Int} (h:az d a b=true):∃ i,d = .int i/\a<=i/\i<=b:=by
 cases d with
 | int i=>simp [az] at h;exact ⟨i,rfl,h.1,h.2⟩
 | _=>simp [az] at h
theorem nq {rows:List D} {n a b:Nat} (h:rows.all (ga n)=true) (ha:a < rows.length) (hb:b < n):∃ r i,rows[a]?=some (.tup r)/\r[b]?=some (.int i)/\ki rows a b=i/\1<=i/\i<=99:=by
 have h1:=List.all_eq_true.mp h rows[a] (List.getElem_mem ha)
 have e1:rows[a]?=some rows[a]:=gEG ha
 generalize hd:rows[a]=d at h1 e1
 cases d with
 | tup r=>
  simp only [ga,bAE,decide_eq_true_eq] at h1
  have hb':b < r.length:=by omega
  obtain ⟨i,e2,l,u⟩:=aA (List.all_eq_true.mp h1.2 r[b] (List.getElem_mem hb'))
  have e3:r[b]?=some (.int i):=by rw [gEG hb',e2]
  exact ⟨r,i,e1,e3,by unfold ki;rw [e1];dsimp only;rw [e3],l,u⟩
 | _=>simp [ga] at h1
theorem mj {α:Type} (n:Nat) (f:Nat->List α):(List.range (n+1)).flatMap f=(List.range n).flatMap f++f n:=by
 rw [List.range_succ,List.flatMap_append];simp
theorem sK {α:Type} {n m:Nat} {f:Nat->List α} (h:∀ i,i < n->(f i).length<=m):((List.range n).flatMap f).length<=n * m:=by
 induction n with
 | zero=>simp
 | succ n ih=>
  rw [mj,List.length_append]
  have:=ih fun i hi=>h i (by omega)
  have:=h n (by omega)
  rw [Nat.succ_mul];omega
theorem Es (ds:List D):isT (.tup ds) 1 4=(decide (1<=ds.length) && decide (ds.length<=4)):=by
 unfold isT
 rw [Bool.eq_iff_iff];simp;omega
theorem Et (ds:List D):isT (.tup ds) 0 4=decide (ds.length<=4):=by
 unfold isT
 rw [Bool.eq_iff_iff];simp;omega
theorem wK (ds:List D):isT (.tup ds) 2 2=decide (ds.length=2):=nk ds 2
theorem wL (ds:List D):isT (.tup ds) 4 4=decide (ds.length=4):=nk ds 4
theorem wM {ds:List D} (h:ds.length=2):∃ b e,ds=[b,e]:=by
 match ds,h with
 | [b,e],_=>exact ⟨b,e,rfl⟩
theorem sL {ds:List D} (h:ds.length=4):∃ a b c d,ds=[a,b,c,d]:=by
 match ds,h with
 | [a,b,c,d],_=>exact ⟨a,b,c,d,rfl⟩
theorem qJ {d:D} (h:ba d=true):∃ b e,d = .tup [.int b,.int e]/\0<=b/\b<=9999/\0<=e/\e<=9999/\b < e:=by
 unfold ba at h
 split at h
 ·rename_i b e
  simp only [bAE] at h
  obtain ⟨h1,h2,h3⟩:=h
  obtain ⟨i,rfl,l1,u1⟩:=aA h1
  obtain ⟨j,rfl,l2,u2⟩:=aA h2
  simp [ltD] at h3
  exact ⟨i,j,rfl,l1,u1,l2,u2,h3⟩
 ·cases h
theorem sM {ds:List D} {i:Nat} (h:ds.all ba=true) (hi:i < ds.length):∃ b e,ds[i]?=some (.tup [.int b,.int e])/\jg ds i=b/\jh ds i=e:=by
 obtain ⟨b,e,q,_⟩:=qJ (List.all_eq_true.mp h ds[i] (List.getElem_mem hi))
 have e1:ds[i]?=some (.tup [.int b,.int e]):=by rw [gEG hi,q]
 exact ⟨b,e,e1,by unfold jg;rw [e1],by unfold jh;rw [e1]⟩
noncomputable def cC (ds:List D) (lo hi:Option Int):List D:=(ds.drop (HT.sIx ds.length 0 lo)).take (HT.sIx ds.length ds.length hi - HT.sIx ds.length 0 lo)
theorem oO {d:D}:∀ {ds:List D},d ∈ ds->dep d<=hZ ds
 | e::ds,h=>by
  rw [hZ]
  rcases List.mem_cons.mp h with z | z
  ·rw [z];omega
  ·have:=oO z;omega
theorem oP {d:D}:∀ {ds:List D},d ∈ ds->wid d<=ni ds
 | e::ds,h=>by
  rw [ni]
  rcases List.mem_cons.mp h with z | z
  ·rw [z];omega
  ·have:=oP z;omega
theorem sN {n:Nat}:∀ {ds:List D},(∀ d ∈ ds,dep d<=n)->hZ ds<=n
 | [],_=>by rw [hZ];omega
 | e::ds,h=>by
  rw [hZ]
  have:=h e List.mem_cons_self
  have:=sN (ds:=ds) fun d hd=>h d (List.mem_cons_of_mem _ hd)
  omega
theorem sO {n:Nat}:∀ {ds:List D},(∀ d ∈ ds,wid d<=n)->ni ds<=n
 | [],_=>by rw [ni];omega
 | e::ds,h=>by
  rw [ni]
  have:=h e List.mem_cons_self
  have:=sO (ds:=ds) fun d hd=>h d (List.mem_cons_of_mem _ hd)
  omega
structure Fit (n m:Nat) (d:D):Prop where
 de:dep d<=n
 wi:wid d<=m
theorem Fit.tup {n m:Nat} {ds:List D} (hl:ds.length<=m) (h:∀ d ∈ ds,Fit n m d):Fit (n+1) m (.tup ds):=by
 refine ⟨?_,?_⟩
 ·rw [dep];have:=sN (n:=n) fun d hd=>(h d hd).de;omega
 ·rw [wid];have:=sO (n:=m) fun d hd=>(h d hd).wi;omega
theorem Fit.len {n m:Nat} {ds:List D} (h:Fit n m (.tup ds)):ds.length<=m:=by have:=h.wi;rw [wid] at this;omega
theorem Fit.mem {n m:Nat} {ds:List D} {d:D} (h:Fit (n+1) m (.tup ds)) (hd:d ∈ ds):Fit n m d:=by
 have h1:=h.de;have h2:=h.wi
 rw [dep] at h1;rw [wid] at h2
 have:=oO hd;have:=oP hd
 exact ⟨by omega,by omega⟩
theorem Eu (n:Nat) (a:Int) (h0:0<=a):HT.sIx n 0 (some a)=min a.toNat n:=by
 show (if a < 0 then (a+(n:Int)).toNat else min a.toNat n)=_
 rw [if_neg (by omega)]
theorem qK (n:Nat) (a:Int) (h0:0<=a):HT.sIx n n (some a)=min a.toNat n:=by
 show (if a < 0 then (a+(n:Int)).toNat else min a.toNat n)=_
 rw [if_neg (by omega)]
theorem Fit.lst {n m:Nat} {ds:List D} (h:Fit n m (.tup ds)):Fit n m (.lst ds):=⟨by have:=h.de;simp only [dep] at this ⊢;exact this,by have:=h.wi;simp only [wid] at this ⊢;exact this⟩
noncomputable def ci (q:Int × Int):D:=.tup [.int q.1,.int q.2]
structure Good (es:List (Int × Int)) (b:Int):Prop where
 each:∀ q ∈ es,0<=q.1/\q.1 < q.2/\q.2<=b
 rise:∀ (i:Nat) q q',es[i]?=some q->es[i+1]?=some q'->q.2 < q'.1
theorem Good.shuts {es:List (Int × Int)} {b:Int} (h:Good es b) (hb:b<=9999) (hl:es.length<=4):bA (.tup (es.map ci))=true:=by
 have hs:(es.map ci).all ba=true:=by
  rw [List.all_map,List.all_eq_true]
  intro q hq
  have:=h.each q hq
  show ba (ci q)=true
  simp only [ci,ba,az,ltD,bAE,decide_eq_true_eq]
  omega
 unfold bA
 rw [bAE,bAE]
 refine ⟨decide_eq_true (by rw [List.length_map];exact hl),hs,?_⟩
 rw [List.all_eq_true]
 intro x hx
 unfold nj at hx
 obtain ⟨i,hi,rfl⟩:=List.mem_map.mp hx
 rw [List.mem_range,List.length_map] at hi
 have e1:es[i]?=some es[i]:=gEG (by omega)
 have e2:es[i+1]?=some es[i+1]:=gEG (by omega)
 have r:=h.rise i _ _ e1 e2
 have f1:jh (es.map ci) i=es[i].2:=by unfold jh;rw [List.getElem?_map,e1];rfl
 have f2:jg (es.map ci) (i+1)=es[i+1].1:=by unfold jg;rw [List.getElem?_map,e2];rfl
 show decide (jh (es.map ci) i < jg (es.map ci) (i+1))=true
 rw [f1,f2]
 exact decide_eq_true r
noncomputable def mg2 (M:List (List Int)) (i j:Nat):Int:=(((M[i]?).getD [])[j]?).getD 0
structure Mat (n:Nat) (M:List (List Int)):Prop where
 len:M.length=n
 row:∀ r ∈ M,r.length=n
 ent:∀ r ∈ M,∀ x ∈ r,1<=x/\x<=99
theorem Mat.at {n:Nat} {M:List (List Int)} (h:Mat n M) {i j:Nat} (hi:i < n) (hj:j < n):∃ r,M[i]?=some r/\r.length=n/\r[j]?=some (mg2 M i j)/\1<=mg2 M i j/\mg2 M i j<=99:=by
 have hi':i < M.length:=by rw [h.len];exact hi
 have e1:M[i]?=some M[i]:=gEG hi'
 have hr:=h.row _ (List.getElem_mem hi')
 have hj':j < M[i].length:=by omega
 have e2:mg2 M i j=M[i][j]:=by unfold mg2;rw [e1,Option.getD_some,gEG hj',Option.getD_some]
 have:=h.ent _ (List.getElem_mem hi') _ (List.getElem_mem hj')
 exact ⟨M[i],e1,hr,by rw [e2,gEG hj'],by omega,by omega⟩
noncomputable def mq (n k:Nat) (M:List (List Int)):Prop:=∀ a b q,a < n->b < n->q < k->mg2 M a b<=mg2 M a q+mg2 M q b
theorem wN {n k:Nat} {M M':List (List Int)} (h:Mat n M) (hk:k < n) (ht:mq n k M) (hm:∀ i j,i < n->j < n->mg2 M' i j=min (mg2 M i j) (mg2 M i k+mg2 M k j)):mq n (k+1) M':=by
 intro a b q ha hb hq
 have hqn:q < n:=by omega
 obtain ⟨_,_,_,_,p1,_⟩:=h.at ha hb
 obtain ⟨_,_,_,_,p2,_⟩:=h.at ha hk
 obtain ⟨_,_,_,_,p3,_⟩:=h.at hk hb
 obtain ⟨_,_,_,_,p4,_⟩:=h.at hk hk
 obtain ⟨_,_,_,_,p5,_⟩:=h.at ha hqn
 obtain ⟨_,_,_,_,p6,_⟩:=h.at hqn hb
 obtain ⟨_,_,_,_,p7,_⟩:=h.at hk hqn
 obtain ⟨_,_,_,_,p8,_⟩:=h.at hqn hk
 rw [hm a b ha hb,hm a q ha hqn,hm q b hqn hb]
 by_cases e:q=k
 ·subst e;omega
 ·have hq':q < k:=by omega
  have t1:=ht a b q ha hb hq'
  have t2:=ht k b q hk hb hq'
  have t3:=ht a k q ha hk hq'
  omega
noncomputable def dU (M:List (List Int)):List D:=M.map fun r=>.tup (r.map .int)
theorem nt {n:Nat} {M:List (List Int)} (h:Mat n M) {i j:Nat} (hi:i < n) (hj:j < n):ki (dU M) i j=mg2 M i j:=by
 obtain ⟨r,e1,_,e2,_,_⟩:=h.at hi hj
 unfold ki dU
 rw [List.getElem?_map,e1]
 show (match (r.map D.int)[j]? with | some (.int i)=>i | _=>0)=_
 rw [List.getElem?_map,e2]
 rfl
theorem wP {n:Nat} {M:List (List Int)} (h:Mat n M) (h1:1<=n) (h4:n<=4) (ht:mq n n M):bQ (.tup (dU M))=true:=by
 have hl:(dU M).length=n:=by unfold dU;rw [List.length_map,h.len]
 unfold bQ
 dsimp only
 rw [hl]
 simp only [bAE,decide_eq_true_eq]
 refine ⟨⟨h1,h4⟩,?_,?_⟩
 ·rw [List.all_eq_true]
  intro d hd
  obtain ⟨r,hr,rfl⟩:=List.mem_map.mp hd
  unfold ga
  dsimp only
  rw [bAE]
  refine ⟨decide_eq_true (by rw [List.length_map];exact h.row r hr),?_⟩
  rw [List.all_map,List.all_eq_true]
  intro x hx
  have:=h.ent r hr x hx
  show az (.int x) 1 99=true
  simp only [az,bAE,decide_eq_true_eq]
  omega
 ·rw [List.all_eq_true]
  intro x hx
  unfold uC at hx
  obtain ⟨a,ha,hx⟩:=List.mem_flatMap.mp hx
  obtain ⟨b,hb,hx⟩:=List.mem_flatMap.mp hx
  obtain ⟨c,hc,rfl⟩:=List.mem_map.mp hx
  rw [List.mem_range] at ha hb hc
  show qI (dU M) a b c=true
  unfold qI
  rw [nt h ha hb,nt h ha hc,nt h hc hb]
  exact decide_eq_true (ht a b c ha hb hc)
noncomputable def aW (M:List (List Int)) (n c i:Nat):List Int:=(List.range n).map fun j=>if mg2 M i c+mg2 M c j < mg2 M i j then mg2 M i c+mg2 M c j else mg2 M i j
theorem oQ (M:List (List Int)) (n c i:Nat):(aW M n c i).length=n:=by unfold aW;rw [List.length_map,List.length_range]
theorem oS (M:List (List Int)) {n c i j:Nat} (hj:j < n):(aW M n c i)[j]?=some (if mg2 M i c+mg2 M c j < mg2 M i j then mg2 M i c+mg2 M c j else mg2 M i j):=by
 unfold aW;rw [List.getElem?_map,List.getElem?_range hj];rfl
theorem Ae {n c:Nat} {M:List (List Int)} (h:Mat n M) (hc:c < n):∀ i j,i < n->j < n->mg2 ((List.range n).map (aW M n c)) i j=min (mg2 M i j) (mg2 M i c+mg2 M c j):=fun i j hi hj=>by
 have e:mg2 ((List.range n).map (aW M n c)) i j=if mg2 M i c+mg2 M c j < mg2 M i j then mg2 M i c+mg2 M c j else mg2 M i j:=by
  show ((((List.range n).map (aW M n c))[i]?.getD [])[j]?).getD 0=_
  rw [List.getElem?_map,List.getElem?_range hi]
  show ((aW M n c i)[j]?).getD 0=_
  rw [oS M hj];rfl
 rw [e];split <;> omega
theorem wQ {n c:Nat} {M:List (List Int)} (h:Mat n M) (hc:c < n):Mat n ((List.range n).map (aW M n c)):=by
 refine ⟨by rw [List.length_map,List.length_range],fun r hr=>?_,fun r hr x hx=>?_⟩
 ·obtain ⟨u,_,rfl⟩:=List.mem_map.mp hr
  exact oQ M n c u
 ·obtain ⟨u,hu,rfl⟩:=List.mem_map.mp hr
  rw [List.mem_range] at hu
  unfold aW at hx
  obtain ⟨j,hj,rfl⟩:=List.mem_map.mp hx
  rw [List.mem_range] at hj
  obtain ⟨_,_,_,_,p1,q1⟩:=h.at hu hj
  obtain ⟨_,_,_,_,p2,q2⟩:=h.at hu hc
  obtain ⟨_,_,_,_,p3,q3⟩:=h.at hc hj
  split <;> omega
theorem Dg (r s g h:D):bH (.tup [r,s,g,h])=(az r 0 8 && (az s 0 60 && (bQ g && bA h))):=rfl
theorem qL {ds:List D} (h:¬ ds.length=2):ba (.tup ds)=false:=by
 unfold ba
 split
 ·rename_i b e heq
  cases heq
  exact absurd rfl h
 ·rfl
end Dw
namespace Dw
open PySem PySem.Spec PyProof.Rows L2
noncomputable def intOf (d:D):Int:=match d with | .int i=>i | _=>0
noncomputable def bv (fs:List D):List Int:=fs.map intOf
theorem qM (fs:List D):(bv fs).length=fs.length:=by unfold bv;rw [List.length_map]
theorem ff:∀ (n:Nat) (l:List Int),l.Nodup->(∀ x ∈ l,0<=x/\x < (n:Int))->l.length<=n
 | 0,l,_,h=>by
  cases l with
  | nil=>exact Nat.le_refl _
  | cons x l=>have:=h x List.mem_cons_self;omega
 | n+1,l,nd,h=>by
  by_cases hm:(n:Int) ∈ l
  ·have ih:=ff n (l.erase n) (nd.erase _) fun x hx=>by
    have h1:=h x (List.mem_of_mem_erase hx)
    have h2:x ≠ (n:Int):=fun e=>(List.Nodup.not_mem_erase nd) (e ▸ hx)
    omega
   rw [List.length_erase_of_mem hm] at ih
   have:=List.length_pos_of_mem hm
   omega
  ·have ih:=ff n l nd fun x hx=>by
    have h1:=h x hx
    have h2:x ≠ (n:Int):=fun e=>hm (e ▸ hx)
    omega
   omega
noncomputable def ia (is:List Int):Bool:=decide is.Nodup
theorem oT (is:List Int):(is.map fun i=>decide (((is.count i:Nat):Int)=1)).all id=ia is:=by
 rw [Bool.eq_iff_iff,List.all_map]
 unfold ia
 rw [List.all_eq_true,decide_eq_true_eq,List.nodup_iff_count]
 constructor
 ·intro h a
  by_cases hm:a ∈ is
  ·have:=of_decide_eq_true (h a hm)
   omega
  ·rw [List.count_eq_zero_of_not_mem hm];omega
 ·intro h a ha
  have h1:=h a
  have h2:=List.count_pos_iff.mpr ha
  exact decide_eq_true (by omega)
noncomputable def cq (n:Nat) (d:D):Bool:=match d with
 | .tup fs=>decide (fs.length<=n) && (fs.all (fun e=>az e 0 ((n:Int) - 1)) && ia (bv fs))
 | _=>false
noncomputable def cD (n:Nat) (d:D):Bool:=match d with
 | .non=>true
 | .tup [k,m]=>az k 0 ((n:Int) - 1) && az m 0 9999
 | _=>false
noncomputable def leD (j:D) (s:Int) (f:D):Bool:=match j,f with | .int a,.int b=>decide (a+s<=b) | _,_=>false
noncomputable def bp (n:Nat) (r s:Int) (d:D):Bool:=match d with
 | .tup [k,j,f,l,u,w,g]=>[j,f,l,u].all (fun e=>az e 0 9999) && ((leD j s f && leD f 0 l) && (az k 0 ((n:Int) - 1) && (az w 0 99 && az g 0 r)))
 | _=>false
noncomputable def bw (n:Nat) (r s:Int) (d:D):Bool:=match d with
 | .tup gs=>decide (gs.length<=7) && gs.all (bp n r s)
 | _=>false
noncomputable def Ew (d:D):Int:=match d with | .tup [_,_,_,_,_,_,.int g]=>g | _=>0
noncomputable def fg (gs:List D) (i:Nat):Int:=match gs[i]? with | some d=>Ew d | _=>0
noncomputable def Af (gs:List D) (is:List Int):List Bool:=(List.range gs.length).map fun (i:Nat)=>decide (fg gs i=0) || decide (((i:Nat):Int) ∈ is)
noncomputable def cL (gs:List D) (d:D):Bool:=match d with
 | .tup fs=>cq gs.length (.tup fs) && (Af gs (bv fs)).all id
 | _=>false
noncomputable def tupOf (d:D):List D:=match d with | .tup ds=>ds | _=>[]
noncomputable def fK (m:D):Nat:=match m with | .tup [_,_,.tup rows,_]=>rows.length | _=>0
noncomputable def jN (m:D):Int:=match m with | .tup [.int r,_,_,_]=>r | _=>0
noncomputable def nu (m:D):Int:=match m with | .tup [_,.int s,_,_]=>s | _=>0
noncomputable def kj (d:D):Bool:=match d with
 | .tup [m,a,g,f]=>bH m && (cD (fK m) a && (bw (fK m) (jN m) (nu m) g && cL (tupOf g) f))
 | _=>false
theorem uD {m:D} (h:bH m=true):∃ r s rows hs,m = .tup [.int r,.int s,.tup rows,.tup hs]/\0<=r/\r<=8/\0<=s/\s<=60/\bQ (.tup rows)=true/\bA (.tup hs)=true:=by
 unfold bH at h
 split at h
 ·rename_i r s g hh
  simp only [bAE] at h
  obtain ⟨h1,h2,h3,h4⟩:=h
  obtain ⟨r,rfl,r0,r1⟩:=aA h1
  obtain ⟨s,rfl,s0,s1⟩:=aA h2
  cases g with
  | tup rows=>
   cases hh with
   | tup hs=>exact ⟨r,s,rows,hs,rfl,r0,r1,s0,s1,h3,h4⟩
   | _=>simp [bA] at h4
  | _=>simp [bQ] at h3
 ·cases h
theorem wR {ds:List D} (h:ds.length=7):∃ a b c d e f g,ds=[a,b,c,d,e,f,g]:=by
 match ds,h with
 | [a,b,c,d,e,f,g],_=>exact ⟨a,b,c,d,e,f,g,rfl⟩
theorem uE {n:Nat} {r s:Int} {d:D} (h:bp n r s d=true):∃ k j f l u w g:Int,d = .tup [.int k,.int j,.int f,.int l,.int u,.int w,.int g]/\0<=k/\k < n/\0<=j/\j<=9999/\0<=f/\f<=9999/\0<=l/\l<=9999/\0<=u/\u<=9999/\j+s<=f/\f<=l/\0<=w/\w<=99/\0<=g/\g<=r:=by
 unfold bp at h
 split at h
 ·rename_i k j f l u w g
  simp only [bAE,List.all_cons,List.all_nil,Bool.and_true] at h
  obtain ⟨⟨a1,a2,a3,a4⟩,⟨b1,b2⟩,c1,c2,c3⟩:=h
  obtain ⟨j,rfl,j0,j1⟩:=aA a1
  obtain ⟨f,rfl,f0,f1⟩:=aA a2
  obtain ⟨l,rfl,l0,l1⟩:=aA a3
  obtain ⟨u,rfl,u0,u1⟩:=aA a4
  obtain ⟨k,rfl,k0,k1⟩:=aA c1
  obtain ⟨w,rfl,w0,w1⟩:=aA c2
  obtain ⟨g,rfl,g0,g1⟩:=aA c3
  simp only [leD,decide_eq_true_eq] at b1 b2
  exact ⟨k,j,f,l,u,w,g,rfl,k0,by omega,j0,j1,f0,f1,l0,l1,u0,u1,b1,by omega,w0,w1,g0,g1⟩
 ·cases h
theorem uF {n:Nat} {r s:Int} {ds:List D} (h:¬ ds.length=7):bp n r s (.tup ds)=false:=by
 unfold bp
 split
 ·rename_i heq;cases heq;exact absurd rfl h
 ·rfl
theorem wU {n:Nat} {ds:List D} (h:¬ ds.length=2):cD n (.tup ds)=false:=by
 unfold cD
 split
 ·rename_i heq;cases heq
 ·rename_i heq;cases heq;exact absurd rfl h
 ·rfl
theorem Ex {ds:List D} (h:¬ ds.length=4):kj (.tup ds)=false:=by
 unfold kj
 split
 ·rename_i heq;cases heq;exact absurd rfl h
 ·rfl
theorem Ey (ds:List D):isT (.tup ds) 7 7=decide (ds.length=7):=nk ds 7
theorem wV (ds:List D) (n:Nat):isT (.tup ds) 0 n=decide (ds.length<=n):=by
 unfold isT
 rw [Bool.eq_iff_iff];simp
theorem wW (m a g f:D):kj (.tup [m,a,g,f])=(bH m && (cD (fK m) a && (bw (fK m) (jN m) (nu m) g && cL (tupOf g) f))):=rfl
end Dw
namespace Dw
open PySem PySem.Spec PyProof.Rows L2
theorem uG {n:Nat} {d:D}:az d 0 ((n:Int) - 1)=true->∃ i,d = .int i/\0<=i/\i < n:=fun h=>by
 obtain ⟨i,e,h0,h1⟩:=aA h
 exact ⟨i,e,h0,by omega⟩
theorem ji {n:Nat} {fs:List D} (h:fs.all (fun e=>az e 0 ((n:Int) - 1))=true) (nd:(bv fs).Nodup):cq n (.tup fs)=true:=by
 have hl:fs.length<=n:=by
  have:=ff n (bv fs) nd fun x hx=>by
   obtain ⟨d,hd,rfl⟩:=List.mem_map.mp hx
   obtain ⟨i,rfl,h0,h1⟩:=uG (List.all_eq_true.mp h d hd)
   exact ⟨h0,h1⟩
  rwa [qM] at this
 have:ia (bv fs)=true:=decide_eq_true nd
 simp only [cq,this,h,decide_eq_true hl,Bool.and_true]
theorem Ag {n:Nat} {r s:Int} {gs:List D} (h:gs.all (bp n r s)=true) {i:Nat} {d:D} (hi:gs[i]?=some d):∃ k j f l u w g:Int,d = .tup [.int k,.int j,.int f,.int l,.int u,.int w,.int g]/\fg gs i=g/\0<=g:=by
 obtain ⟨k,j,f,l,u,w,g,rfl,h1⟩:=uE (List.all_eq_true.mp h d (List.mem_of_getElem? hi))
 exact ⟨k,j,f,l,u,w,g,rfl,by unfold fg;rw [hi];rfl,by omega⟩
theorem ib (ds:List D) (k:Nat) (hk:k<=ds.length):cC ds none (some (k:Int))=ds.take k:=by
 unfold cC
 rw [qK _ _ (by omega)]
 show (ds.drop 0).take (min ((k:Int).toNat) ds.length - 0)=_
 rw [List.drop_zero,Nat.sub_zero,Int.toNat_natCast,Nat.min_eq_left hk]
end Dw
namespace Dw
open PySem PySem.Spec PyProof.Rows L2
noncomputable def aY:Key->PyData
 | .inl i=>.int i
 | .inr x=>.str x
mutual
noncomputable def aX:D->PyData
 | .non=>.none
 | .bl b=>.bool b
 | .int i=>.int i
 | .str x=>.str x
 | .tup ds=>.tuple (aF ds)
 | .lst ds=>.list (aF ds)
 | .dic ks ds=>.dict ((ks.map aY).zip (aF ds))
noncomputable def aF:List D->List PyData
 | []=>[]
 | d::ds=>aX d::aF ds
end
theorem bX:∀ ds:List D,(aF ds).length=ds.length
 | []=>by simp [aF]
 | d::ds=>by simp [aF,bX ds]
theorem fL {α β:Type}:∀ (ks:List α) (ds:List β),ks.length=ds.length->(ks.zip ds).map (·.1)=ks
 | [],[],_=>rfl
 | k::ks,d::ds,h=>by simp [fL ks ds (by simpa using h)]
 | [],_::_,h=>by simp at h
 | _::_,[],h=>by simp at h
theorem fM {α β:Type}:∀ (ks:List α) (ds:List β),ks.length=ds.length->(ks.zip ds).map (·.2)=ds
 | [],[],_=>rfl
 | k::ks,d::ds,h=>by simp [fM ks ds (by simpa using h)]
 | [],_::_,h=>by simp at h
 | _::_,[],h=>by simp at h
mutual
noncomputable def shw:D->Prop
 | .int i=>i.natAbs.log2 < 1920
 | .tup ds=>nv ds
 | .lst ds=>nv ds
 | .dic ks ds=>(∀ k ∈ ks,∀ i,k=Sum.inl i->i.natAbs.log2 < 1920)/\nv ds
 | _=>True
noncomputable def nv:List D->Prop
 | []=>True
 | d::ds=>shw d/\nv ds
end
section
variable {P:Program} {w:World} {N:List Addr} {H:Hp} {h:Heap}
theorem mt:∀ {ks:List Key} {kvs:List (Key × Value)} {es:List DictEntry},Pairs (fI P w) es kvs->kvs.map (·.1)=ks->ReadsAll h (es.map (·.key)) (ks.map aY) []
 | [],[],_,.nil,_=>.nil
 | k::ks,_::_,_,.cons (e:=e) hk hv r,eq=>by
  simp only [List.map_cons,List.cons.injEq] at eq
  obtain ⟨e1,e2⟩:=eq
  have z:=mt (ks:=ks) r e2
  have hk':sy k e.key=true:=by rw [<-e1];exact hk
  have one:Reads h e.key (aY k) []:=by
   rcases aV hk' with ⟨i,t,rfl,q⟩ | ⟨x,t,rfl,q⟩
   ·rw [q];exact .int _ _
   ·rw [q];exact .str _ _
  exact ReadsAll.cons one z
theorem cb:∀ {kvs:List (Key × Value)} {es:List DictEntry},Pairs (fI P w) es kvs->es.map (·.val)=kvs.map (·.2)
 | [],_,.nil=>rfl
 | _::_,_,.cons _ hv r=>by rw [List.map_cons,List.map_cons,hv,cb r]
theorem jO:∀ {ks:List Key} {xs:List V} {kvs:List (Key × Value)},ks.length=xs.length->KV (ks.zip xs) kvs->aP xs (kvs.map (·.2))/\kvs.map (·.1)=ks
 | [],[],_,_,.nil=>⟨.nil,rfl⟩
 | k::ks,x::xs,_,hl,.cons r t=>by
  obtain ⟨h1,h2⟩:=jO (ks:=ks) (xs:=xs) (by simpa using hl) t
  exact ⟨.cons r.2 h1,by rw [List.map_cons,h2,<-r.1]⟩
 | [],_::_,_,hl,_=>by simp at hl
 | _::_,[],_,hl,_=>by simp at hl
mutual
theorem cM (ok:HOk P w H h):∀ (d:D) {v:V} {u:Value},Br N H d v->aN v u->∃ as,Reads h u (aX d) as
 | .non,v,u,b,r=>by simp only [Br] at b;subst b;cases r;exact ⟨_,by simp only [aX];exact .none⟩
 | .bl x,v,u,b,r=>by simp only [Br] at b;subst b;cases r;exact ⟨_,by simp only [aX];exact .bool _⟩
 | .int i,v,u,b,r=>by simp only [Br] at b;subst b;obtain ⟨t,rfl⟩:=r;exact ⟨_,by simp only [aX];exact .int _ _⟩
 | .str x,v,u,b,r=>by simp only [Br] at b;subst b;obtain ⟨t,rfl⟩:=r;exact ⟨_,by simp only [aX];exact .str _ _⟩
 | .tup ds,v,u,b,r=>by
  simp only [Br] at b
  obtain ⟨a,xs,rfl,ha,hx⟩:=b
  cases r
  obtain ⟨_,its,rv,o,e,c,n,q,_⟩:=ok a _ ha
  obtain ⟨as,z⟩:=fN ok ds hx rv
  simp only [aX]
  exact ⟨_,.tuple e c q (by simpa using z)⟩
 | .lst ds,v,u,b,r=>by
  simp only [Br] at b
  obtain ⟨a,xs,rfl,_,ha,hx⟩:=b
  cases r
  obtain ⟨_,its,n,rv,e⟩:=ok a _ ha
  obtain ⟨as,z⟩:=fN ok ds hx rv
  simp only [aX]
  exact ⟨_,.list e rfl rfl (by simpa using z)⟩
 | .dic ks ds,v,u,b,r=>by
  simp only [Br] at b
  obtain ⟨a,xs,rfl,_,ha,hl,hx⟩:=b
  cases r
  obtain ⟨_,_,kvs,rk,o,es,ep,e,ex,q,_,pr,_⟩:=ok a _ ha
  obtain ⟨rv,k1⟩:=jO (by rw [hl,hx.len]) rk
  obtain ⟨as,z⟩:=fN ok ds hx rv
  simp only [aX]
  refine ⟨_,.dict e ex.1 q (kvs:=(ks.map aY).zip (aF ds)) (as:=[]) (bs:=as) ?_ ?_⟩
  ·rw [fL _ _ (by rw [List.length_map,bX,hl])]
   exact mt pr k1
  ·rw [fM _ _ (by rw [List.length_map,bX,hl]),cb pr]
   exact z
theorem fN (ok:HOk P w H h):∀ (ds:List D) {xs:List V} {us:List Value},BrL N H ds xs->aP xs us->∃ as,ReadsAll h us (aF ds) as
 | [],xs,us,b,r=>by simp only [BrL] at b;subst b;cases r;exact ⟨_,by simp only [aF];exact .nil⟩
 | d::ds,xs,us,b,r=>by
  simp only [BrL] at b
  obtain ⟨x,l,rfl,h1,h2⟩:=b
  cases r with
  | cons r1 r2=>
   obtain ⟨as,z1⟩:=cM ok d h1 r1
   obtain ⟨bs,z2⟩:=fN ok ds h2 r2
   simp only [aF]
   exact ⟨_,.cons z1 z2⟩
end
theorem kl {es:List DictEntry}:∀ {ks:List Key} {kvs:List (Key × Value)} {es:List DictEntry} {d:Nat} {bs:List Addr},Pairs (fI P w) es kvs->kvs.map (·.1)=ks->(∀ k ∈ ks,∀ i,k=Sum.inl i->i.natAbs.log2 < 1920)->(∀ t ∈ PyData.shownAll (ks.map aY),t.length<=sizeLine)->ReprAllK P w bs h d (es.map (·.key)) (PyData.shownAll (ks.map aY))
 | [],[],_,_,_,.nil,_,_,_=>by simp only [List.map_nil,PyData.shownAll];exact .nil
 | k::ks,_::_,_,d,bs,.cons (e:=e) hk hv r,eq,hi,hz=>by
  simp only [List.map_cons,List.cons.injEq] at eq
  obtain ⟨e1,e2⟩:=eq
  have hk':sy k e.key=true:=by rw [<-e1];exact hk
  simp only [List.map_cons,PyData.shownAll] at hz ⊢
  refine .cons ?_ (kl (es:=[]) r e2 (fun k' m=>hi k' (List.mem_cons_of_mem _ m)) fun t m=>hz t (List.mem_cons_of_mem _ m))
  rcases aV hk' with ⟨i,t,rfl,q⟩ | ⟨x,t,rfl,q⟩
  ·rw [q]
   simp only [aY,PyData.shown]
   exact .of_is (ReprIs.int t (hi _ List.mem_cons_self i rfl)) _ _ _
  ·rw [q]
   have hs:=hz _ List.mem_cons_self
   simp only [aY,PyData.shown] at hs ⊢
   exact .of_is (ReprIs.str x t hs) _ _ _
mutual
theorem Ah (ok:HOk P w H h):∀ (d:D) {v:V} {u:Value},Br N H d v->aN v u->shw d->(aX d).shown.length<=sizeLine->∃ bs,ReadAtMost h (aX d).depth bs/\ReprK P w bs h (aX d).depth u (aX d).shown
 | .non,v,u,b,r,_,_=>by simp only [Br] at b;subst b;cases r;exact ⟨[],(fun _ m=>nomatch m),by simp only [aX,PyData.shown];exact .of_is ReprIs.none _ _ _⟩
 | .bl x,v,u,b,r,_,_=>by simp only [Br] at b;subst b;cases r;exact ⟨[],(fun _ m=>nomatch m),by simp only [aX,PyData.shown];exact .of_is (ReprIs.bool _) _ _ _⟩
 | .int i,v,u,b,r,hs,_=>by simp only [Br] at b;subst b;obtain ⟨t,rfl⟩:=r;exact ⟨[],(fun _ m=>nomatch m),by simp only [aX,PyData.shown];exact .of_is (ReprIs.int t (by simpa only [shw] using hs)) _ _ _⟩
 | .str x,v,u,b,r,_,hz=>by simp only [Br] at b;subst b;obtain ⟨t,rfl⟩:=r;exact ⟨[],(fun _ m=>nomatch m),by simp only [aX,PyData.shown] at hz ⊢;exact .of_is (ReprIs.str x t hz) _ _ _⟩
 | .tup ds,v,u,b,r,hs,hz=>by
  obtain ⟨as,whole⟩:=cM ok (.tup ds) b r
  simp only [Br] at b
  obtain ⟨a,xs,rfl,ha,hx⟩:=b
  cases r
  obtain ⟨_,its,rv,o,e,c,n,q,_⟩:=ok a _ ha
  simp only [aX,PyData.shown,PyData.depth] at hz whole ⊢
  obtain ⟨bs,m,k⟩:=cN ok ds hx rv (by simpa only [shw] using hs) fun t ht=>Nat.le_trans (tupleText_mem_le ht) hz
  have out:a ∉ bs:=not_mem_of_deeper whole (by simp only [PyData.depth];omega) m
  have mm:=ReadAtMost.cons whole (by simp only [PyData.depth];omega) m
  simp only [PyData.depth] at mm
  exact ⟨a::bs,mm,ReprK.tuple e c q out (by simpa using k)⟩
 | .lst ds,v,u,b,r,hs,hz=>by
  obtain ⟨as,whole⟩:=cM ok (.lst ds) b r
  simp only [Br] at b
  obtain ⟨a,xs,rfl,_,ha,hx⟩:=b
  cases r
  obtain ⟨_,its,n,rv,e⟩:=ok a _ ha
  simp only [aX,PyData.shown,PyData.depth] at hz whole ⊢
  obtain ⟨bs,m,k⟩:=cN ok ds hx rv (by simpa only [shw] using hs) fun t ht=>Nat.le_trans (listText_mem_le ht) hz
  have out:a ∉ bs:=not_mem_of_deeper whole (by simp only [PyData.depth];omega) m
  have mm:=ReadAtMost.cons whole (by simp only [PyData.depth];omega) m
  simp only [PyData.depth] at mm
  refine ⟨a::bs,mm,?_⟩
  cases its with
  | nil=>
   cases k':PyData.shownAll (aF ds) with
   | nil=>simp only [listText_nil];exact ReprK.listEmpty e rfl rfl
   | cons _ _=>rw [k'] at k;cases k
  | cons y l=>exact ReprK.list e rfl rfl out (by simpa using k.length_eq) (fun i y' q'=>k.item i y' (by simpa using q'))
 | .dic ks ds,v,u,b,r,hs,hz=>by
  obtain ⟨as,whole⟩:=cM ok (.dic ks ds) b r
  simp only [Br] at b
  obtain ⟨a,xs,rfl,_,ha,hl,hx⟩:=b
  cases r
  obtain ⟨_,sys,kvs,rk,o,es,ep,e,ex,q,_,pr,_⟩:=ok a _ ha
  obtain ⟨rv,k1⟩:=jO (by rw [hl,hx.len]) rk
  simp only [shw] at hs
  have lz:(ks.map aY).length=(aF ds).length:=by rw [List.length_map,bX,hl]
  simp only [aX,PyData.shown,PyData.depth] at hz whole ⊢
  have f1:=fL (ks.map aY) (aF ds) lz
  have f2:=fM (ks.map aY) (aF ds) lz
  have dk:=PyData.depthAll_keys_le ((ks.map aY).zip (aF ds))
  have dv:=PyData.depthAll_vals_le ((ks.map aY).zip (aF ds))
  rw [f1] at dk
  rw [f2] at dv
  obtain ⟨bs,m,k⟩:=cN ok ds hx rv hs.2 fun t ht=>by
   obtain ⟨p,hp,hlen⟩:=PyData.shownKv_val_le ((ks.map aY).zip (aF ds)) t (by rw [f2];exact ht)
   exact Nat.le_trans hlen (Nat.le_trans (dictText_mem_le hp) hz)
  have kk:=kl (h:=h) (es:=[]) (d:=PyData.depthAll (ks.map aY)) (bs:=bs) pr k1 hs.1 fun t ht=>by
   obtain ⟨p,hp,hlen⟩:=PyData.shownKv_key_le ((ks.map aY).zip (aF ds)) t (by rw [f1];exact ht)
   exact Nat.le_trans hlen (Nat.le_trans (dictText_mem_le hp) hz)
  have m':=m.mono dv
  have out:a ∉ bs:=not_mem_of_deeper whole (by simp only [PyData.depth];omega) m'
  have mm:=ReadAtMost.cons whole (by simp only [PyData.depth];omega) m'
  simp only [PyData.depth] at mm
  refine ⟨a::bs,mm,?_⟩
  rw [PyData.shownKv_eq,f1,f2]
  refine ReprK.dict e ex.1 q sys out (ReprEntriesK.of_two es.toList _ _ (kk.more_le (fun _ z=>z) dk) ?_)
  rw [cb pr]
  exact k.more_le (fun _ z=>z) dv
theorem cN (ok:HOk P w H h):∀ (ds:List D) {xs:List V} {us:List Value},BrL N H ds xs->aP xs us->nv ds->(∀ t ∈ PyData.shownAll (aF ds),t.length<=sizeLine)->∃ bs,ReadAtMost h (PyData.depthAll (aF ds)) bs/\ReprAllK P w bs h (PyData.depthAll (aF ds)) us (PyData.shownAll (aF ds))
 | [],xs,us,b,r,_,_=>by simp only [BrL] at b;subst b;cases r;exact ⟨[],(fun _ m=>nomatch m),by simp only [aF,PyData.shownAll];exact .nil⟩
 | d::ds,xs,us,b,r,hs,hz=>by
  simp only [BrL] at b
  obtain ⟨x,l,rfl,h1,h2⟩:=b
  cases r with
  | cons r1 r2=>
   simp only [aF,PyData.shownAll,PyData.depthAll,nv] at hz hs ⊢
   obtain ⟨b1,m1,k1⟩:=Ah ok d h1 r1 hs.1 (hz _ List.mem_cons_self)
   obtain ⟨b2,m2,k2⟩:=cN ok ds h2 r2 hs.2 fun t ht=>hz t (List.mem_cons_of_mem _ ht)
   refine ⟨b1++b2,(m1.mono (Nat.le_max_left _ _)).append (m2.mono (Nat.le_max_right _ _)),?_⟩
   exact .cons ((k1.more fun b z=>List.mem_append_left _ z).level_le (Nat.le_max_left _ _)) (k2.more_le (fun b z=>List.mem_append_right _ z) (Nat.le_max_right _ _))
end
end
end Dw
namespace Dw
open PySem PySem.Spec PyProof.Rows L2
section
variable {X:Cx}
structure Shn (d:D):Prop where
 sh:shw d
 sz:(aX d).shown.length<=sizeLine
 dp:(aX d).depth<=100
noncomputable def Ez:List V->Hp->VK->Prop:=fun xs H Q=>∃ x N d,xs=[x]/\Br N H d x/\Shn d/\Q (.str (aX d).shown) H
theorem qN {k:Nat} (hr:Room k X.A):a8 X (.builtin "repr") Ez:=by
 intro pins s σ H xs us Q I r h
 obtain ⟨x,N,d,rfl,b,⟨hs,hz,hd⟩,q⟩:=h
 obtain ⟨u,rfl,ru⟩:=cJ r
 have hun:=hr.un
 have hu1:X.A.units+1 < cLine:=by omega
 have gd1:X.A.in1.guards=some []:=hr.gd
 have fin:∀ h' t tk,(∀ b o,s.heap.get? b=some o->h'.get? b=some o)->∃ x' t',Value.str (aX d).shown t=Value.str x' t'/\EP X pins σ Q (Value.str (aX d).shown t) { s with heap:=h',toks:=tk }:=fun h' t tk hk=>⟨_,_,rfl,.str _,H,I.kept (t':=tk) hk,⟨t,rfl⟩,q⟩
 cases d with
 | non=>
  simp only [Br] at b;subst b;cases ru
  exact P.repr_of_none ⟨.str _,H,I.tok _,⟨_,rfl⟩,by simpa only [aX,PyData.shown] using q⟩
 | bl y=>
  simp only [Br] at b;subst b;cases ru
  exact P.repr_of_bool ⟨.str _,H,I.tok _,⟨_,rfl⟩,by simpa only [aX,PyData.shown] using q⟩
 | int i=>
  simp only [Br] at b;subst b;obtain ⟨t,rfl⟩:=ru
  exact P.repr_of_int (by simpa only [shw] using hs) ⟨.str _,H,I.tok _,⟨_,rfl⟩,by simpa only [aX,PyData.shown] using q⟩
 | str y=>
  simp only [Br] at b;subst b;obtain ⟨t,rfl⟩:=ru
  exact P.repr_of_str ⟨.str _,H,I.tok _,⟨_,rfl⟩,by simpa only [aX,PyData.shown] using q⟩ (by simpa only [aX,PyData.shown] using hz)
 | tup ds=>
  obtain ⟨as,whole⟩:=cM I.hok (.tup ds) b ru
  simp only [Br] at b
  obtain ⟨a,ys,rfl,ha,hx⟩:=b
  cases ru
  obtain ⟨_,its,rv,o,e,c,n,q',_⟩:=I.hok a _ ha
  simp only [aX,PyData.shown,PyData.depth] at hz whole hd fin
  obtain ⟨bs,m,k'⟩:=cN I.hok ds hx rv (by simpa only [shw] using hs) fun t ht=>Nat.le_trans (tupleText_mem_le ht) hz
  have out:a ∉ bs:=not_mem_of_deeper whole (by simp only [PyData.depth];omega) m
  refine call_repr_slot hu1 ⟨o,e,c⟩ F.slot_tuple_repr ?_
  exact call_tuple_reprK e c q' out (by simpa using k') gd1 (fun b _=>Clear.nil b) (by show X.A.units+1+(_+1) < cLine;omega) (fun _ _ z=>z) (fun h' t tk hk=>fin h' t tk hk) hz
 | lst ds=>
  obtain ⟨as,whole⟩:=cM I.hok (.lst ds) b ru
  simp only [Br] at b
  obtain ⟨a,ys,rfl,_,ha,hx⟩:=b
  cases ru
  obtain ⟨_,its,n,rv,e⟩:=I.hok a _ ha
  simp only [aX,PyData.shown,PyData.depth] at hz whole hd fin
  obtain ⟨bs,m,k'⟩:=cN I.hok ds hx rv (by simpa only [shw] using hs) fun t ht=>Nat.le_trans (listText_mem_le ht) hz
  have out:a ∉ bs:=not_mem_of_deeper whole (by simp only [PyData.depth];omega) m
  refine call_repr_slot hu1 ⟨_,e,rfl⟩ F.slot_list_repr.toG ?_
  cases its with
  | nil=>
   cases k2:PyData.shownAll (aF ds) with
   | nil=>
    rw [k2] at fin
    simp only [listText_nil] at fin
    exact call_list_repr_empty ⟨_,e,rfl⟩ e rfl (fin s.heap _ _ fun _ _ z=>z)
   | cons _ _=>rw [k2] at k';cases k'
  | cons y l=>
   exact call_list_reprK e rfl rfl out (by simpa using k'.length_eq) (fun i y' q2=>k'.item i y' (by simpa using q2)) gd1 (fun b _=>Clear.nil b) (by show X.A.units+1+(_+1) < cLine;omega) (fun _ _ z=>z) (fun h' t tk hk=>fin h' t tk hk) hz
 | dic ks ds=>
  have bb:=b
  obtain ⟨as,whole⟩:=cM I.hok (.dic ks ds) b ru
  simp only [Br] at b
  obtain ⟨a,ys,rfl,_,ha,hl,hx⟩:=b
  cases ru
  obtain ⟨_,sys,kvs,rk,o,es,ep,e,ex,q',_,pr,_⟩:=I.hok a _ ha
  obtain ⟨rv,k1⟩:=jO (by rw [hl,hx.len]) rk
  simp only [shw] at hs
  have lz:(ks.map aY).length=(aF ds).length:=by rw [List.length_map,bX,hl]
  simp only [aX,PyData.shown,PyData.depth] at hz whole hd fin
  have f1:=fL (ks.map aY) (aF ds) lz
  have f2:=fM (ks.map aY) (aF ds) lz
  have dk:=PyData.depthAll_keys_le ((ks.map aY).zip (aF ds))
  have dv:=PyData.depthAll_vals_le ((ks.map aY).zip (aF ds))
  rw [f1] at dk
  rw [f2] at dv
  obtain ⟨bs,m,k'⟩:=cN I.hok ds hx rv hs.2 fun t ht=>by
   obtain ⟨p,hp,hlen⟩:=PyData.shownKv_val_le ((ks.map aY).zip (aF ds)) t (by rw [f2];exact ht)
   exact Nat.le_trans hlen (Nat.le_trans (dictText_mem_le hp) hz)
  have kk:=kl (h:=s.heap) (es:=[]) (d:=PyData.depthAll (ks.map aY)) (bs:=bs) pr k1 hs.1 fun t ht=>by
   obtain ⟨p,hp,hlen⟩:=PyData.shownKv_key_le ((ks.map aY).zip (aF ds)) t (by rw [f1];exact ht)
   exact Nat.le_trans hlen (Nat.le_trans (dictText_mem_le hp) hz)
  have m':=m.mono dv
  have out:a ∉ bs:=not_mem_of_deeper whole (by simp only [PyData.depth];omega) m'
  refine call_repr_slot hu1 ⟨o,e,ex.1⟩ F.slot_dict_repr ?_
  have hE:ReprEntriesK X.prog X.w bs s.heap (PyData.depthKv ((ks.map aY).zip (aF ds))) es.toList (PyData.shownKv ((ks.map aY).zip (aF ds))):=by
   rw [PyData.shownKv_eq,f1,f2]
   refine ReprEntriesK.of_two es.toList _ _ (kk.more_le (fun _ z=>z) dk) ?_
   rw [cb pr]
   exact k'.more_le (fun _ z=>z) dv
  exact call_dict_reprK e ex.1 q' sys out hE gd1 (fun b _=>Clear.nil b) (by show X.A.units+1+(_+1) < cLine;omega) (fun _ _ z=>z) (fun h' t tk hk=>fin h' t tk hk) hz
end
mutual
noncomputable def sz:D->Nat
 | .non=>10
 | .bl _=>10
 | .int _=>60
 | .str x=>(reprText x).length
 | .tup ds=>szL ds+4
 | .lst ds=>szL ds+4
 | .dic ks ds=>szL ds+62 * ks.length+4
noncomputable def szL:List D->Nat
 | []=>0
 | d::ds=>sz d+2+szL ds
end
mutual
noncomputable def bnd (B:Nat):D->Prop
 | .int i=>i.natAbs < B
 | .tup ds=>gA B ds
 | .lst ds=>gA B ds
 | .dic ks ds=>(∀ k ∈ ks,∃ i,k=Sum.inl i/\i.natAbs < B)/\ks.length=ds.length/\gA B ds
 | _=>True
noncomputable def gA (B:Nat):List D->Prop
 | []=>True
 | d::ds=>bnd B d/\gA B ds
end
theorem wX {i:Int} (h:i.natAbs < 10 ^ 50):i.natAbs.log2 < 1920:=by
 by_cases z:i.natAbs=0
 ·rw [z];decide
 ·have:i.natAbs.log2 < 167:=(Nat.log2_lt z).mpr (Nat.lt_of_lt_of_le h (by decide))
  omega
mutual
theorem sP:∀ (d:D),bnd (10 ^ 50) d->shw d
 | .non,_=>by simp only [shw]
 | .bl _,_=>by simp only [shw]
 | .str _,_=>by simp only [shw]
 | .int i,h=>by simp only [shw,bnd] at h ⊢;exact wX h
 | .tup ds,h=>by simp only [shw,bnd] at h ⊢;exact ic ds h
 | .lst ds,h=>by simp only [shw,bnd] at h ⊢;exact ic ds h
 | .dic ks ds,h=>by
  simp only [shw,bnd] at h ⊢
  refine ⟨fun k hk i e=>?_,ic ds h.2.2⟩
  obtain ⟨j,e2,hj⟩:=h.1 k hk
  rw [e] at e2;cases e2
  exact wX hj
theorem ic:∀ (ds:List D),gA (10 ^ 50) ds->nv ds
 | [],_=>by simp only [nv]
 | d::ds,h=>by simp only [nv,gA] at h ⊢;exact ⟨sP d h.1,ic ds h.2⟩
end
end Dw
namespace Dw
open PySem PySem.Spec PyProof.Rows L2
theorem sQ:∀ (ts:List Str) (k:Nat) (acc:Str),(textFrom k acc ts).length<=acc.length+piled ts
 | [],k,acc=>by show acc.length<=_;omega
 | t::r,k,acc=>by
  have ih:=sQ r (k+1) (acc++(if k > 0 then ", " else "" : String)++t)
  show (textFrom (k+1) (acc++(if k > 0 then ", " else "" : String)++t) r).length<=_
  rw [piled_cons]
  have e:(acc++(if k > 0 then ", " else "" : String)++t).length<=acc.length+2+t.length:=by
   rw [strLen_append,strLen_append]
   have:(Str.ofString (if k > 0 then ", " else "" : String)).length<=2:=by split <;> decide
   omega
  omega
theorem sR (ts:List Str):(Str.join ", " ts).length<=piled ts:=by
 cases ts with
 | nil=>decide
 | cons t r=>have:=join_length_add (t::r) (by simp);omega
theorem Ai (ts:List Str):(listText ts).length<=piled ts+4:=by
 unfold listText
 rw [strLen_append]
 have h1:=sQ ts 0 "["
 have h2:(Str.ofString "[").length=1:=by decide
 have h3:(Str.ofString "]").length=1:=by decide
 have h1':(textFrom 0 (Str.ofString "[") ts).length<=(Str.ofString "[").length+piled ts:=h1
 show (textFrom 0 (Str.ofString "[") ts).length+(Str.ofString "]").length<=_
 omega
theorem wY (ts:List Str):(tupleText ts).length<=piled ts+4:=by
 unfold tupleText
 rw [strLen_append,strLen_append]
 have h1:=sR ts
 have h2:(Str.ofString "(").length=1:=by decide
 have h3:(Str.ofString (if ts.length == 1 then ",)" else ")" : String)).length<=2:=by split <;> decide
 show (Str.ofString "(").length+_+(Str.ofString (if ts.length == 1 then ",)" else ")" : String)).length<=_
 omega
theorem Aj (ts:List Str):(dictText ts).length<=piled ts+4:=by
 unfold dictText
 rw [strLen_append,strLen_append]
 have h1:=sR ts
 have h2:(Str.ofString "{").length=1:=by decide
 have h3:(Str.ofString "}").length=1:=by decide
 show (Str.ofString "{").length+_+(Str.ofString "}").length<=_
 omega
theorem wZ {i:Int} (h:i.natAbs < 10 ^ 50):(Str.ofString (toString i)).length<=51:=by
 rw [ofString_len]
 exact int_text_length_le10 (by decide) h
theorem Dh:∀ (ks:List Key) (ts:List Str) (hk:∀ k ∈ ks,∃ i,k=Sum.inl i/\i.natAbs < 10 ^ 50),ks.length=ts.length->piled (List.zipWith (fun k v:Str=>k ++ ": " ++ v) (PyData.shownAll (ks.map aY)) ts)<=piled ts+53 * ks.length
 | [],[],_,_=>by simp [PyData.shownAll,piled]
 | k::ks,t::ts,hk,hl=>by
  have ih:=Dh ks ts (fun k' m=>hk k' (List.mem_cons_of_mem _ m)) (by simpa using hl)
  obtain ⟨i,rfl,hi⟩:=hk _ List.mem_cons_self
  simp only [List.map_cons,PyData.shownAll,List.zipWith_cons_cons,piled_cons,List.length_cons,aY,PyData.shown]
  have h1:=wZ hi
  rw [strLen_append,strLen_append]
  have h2:(Str.ofString ": ").length=2:=by decide
  show (Str.ofString (toString i)).length+(Str.ofString ": ").length+t.length+2+_<=_
  omega
 | [],_::_,_,hl=>by simp at hl
 | _::_,[],_,hl=>by simp at hl
theorem ie:∀ ds:List PyData,(PyData.shownAll ds).length=ds.length
 | []=>by simp [PyData.shownAll]
 | d::ds=>by simp [PyData.shownAll,ie ds]
mutual
theorem oU:∀ (d:D),bnd (10 ^ 50) d->(aX d).shown.length<=sz d
 | .non,_=>by simp only [aX,PyData.shown,sz];decide
 | .bl b,_=>by simp only [aX,PyData.shown,sz];cases b <;> decide
 | .int i,h=>by
  simp only [aX,PyData.shown,sz,bnd] at h ⊢
  have:=wZ h
  show (Str.ofString (toString i)).length<=60
  omega
 | .str x,_=>by simp only [aX,PyData.shown,sz];exact Nat.le_refl _
 | .tup ds,h=>by
  simp only [aX,PyData.shown,sz,bnd] at h ⊢
  have:=fO ds h
  have:=wY (PyData.shownAll (aF ds))
  omega
 | .lst ds,h=>by
  simp only [aX,PyData.shown,sz,bnd] at h ⊢
  have:=fO ds h
  have:=Ai (PyData.shownAll (aF ds))
  omega
 | .dic ks ds,h=>by
  simp only [aX,PyData.shown,sz,bnd] at h ⊢
  have h1:=fO ds h.2.2
  have lz:(ks.map aY).length=(aF ds).length:=by rw [List.length_map,bX,h.2.1]
  have h2:=Aj (PyData.shownKv ((ks.map aY).zip (aF ds)))
  rw [PyData.shownKv_eq,fL _ _ lz,fM _ _ lz] at h2
  have h3:=Dh ks (PyData.shownAll (aF ds)) h.1 (by rw [ie,bX,h.2.1])
  rw [PyData.shownKv_eq,fL _ _ lz,fM _ _ lz]
  omega
theorem fO:∀ (ds:List D),gA (10 ^ 50) ds->piled (PyData.shownAll (aF ds))<=szL ds
 | [],_=>by simp [aF,PyData.shownAll,piled,szL]
 | d::ds,h=>by
  simp only [aF,PyData.shownAll,szL,gA,piled_cons] at h ⊢
  have h1:=oU d h.1
  have h2:=fO ds h.2
  omega
end
theorem oV:∀ (ks:List Key) (ds:List PyData),PyData.depthKv ((ks.map aY).zip ds)<=PyData.depthAll ds
 | [],ds=>by simp [PyData.depthKv]
 | k::ks,[]=>by simp [PyData.depthKv]
 | k::ks,d::ds=>by
  have ih:=oV ks ds
  simp only [List.map_cons,List.zip_cons_cons,PyData.depthKv,PyData.depthAll]
  have:(aY k).depth=0:=by cases k <;> simp [aY,PyData.depth]
  rw [this]
  omega
mutual
theorem oW:∀ (d:D),(aX d).depth<=dep d
 | .non=>by simp [aX,PyData.depth]
 | .bl _=>by simp [aX,PyData.depth]
 | .int _=>by simp [aX,PyData.depth]
 | .str _=>by simp [aX,PyData.depth]
 | .tup ds=>by simp only [aX,PyData.depth,dep];have:=fP ds;omega
 | .lst ds=>by simp only [aX,PyData.depth,dep];have:=fP ds;omega
 | .dic ks ds=>by
  simp only [aX,PyData.depth,dep]
  have:=fP ds
  have:=oV ks (aF ds)
  omega
theorem fP:∀ (ds:List D),PyData.depthAll (aF ds)<=hZ ds
 | []=>by simp [aF,PyData.depthAll,hZ]
 | d::ds=>by
  simp only [aF,PyData.depthAll,hZ]
  have:=oW d
  have:=fP ds
  omega
end
structure Bd (B s:Nat) (d:D):Prop where
 bn:bnd B d
 sz:sz d<=s
mutual
theorem w4 {B B':Nat} (h:B<=B'):∀ (d:D),bnd B d->bnd B' d
 | .non,_=>by simp only [bnd]
 | .bl _,_=>by simp only [bnd]
 | .str _,_=>by simp only [bnd]
 | .int i,z=>by simp only [bnd] at z ⊢;omega
 | .tup ds,z=>by simp only [bnd] at z ⊢;exact jP h ds z
 | .lst ds,z=>by simp only [bnd] at z ⊢;exact jP h ds z
 | .dic ks ds,z=>by
  simp only [bnd] at z ⊢
  exact ⟨fun k hk=>let ⟨i,e,q⟩:=z.1 k hk;⟨i,e,by omega⟩,z.2.1,jP h ds z.2.2⟩
theorem jP {B B':Nat} (h:B<=B'):∀ (ds:List D),gA B ds->gA B' ds
 | [],_=>by simp only [gA]
 | d::ds,z=>by simp only [gA] at z ⊢;exact ⟨w4 h d z.1,jP h ds z.2⟩
end
theorem Bd.shn {B s:Nat} {d:D} (h:Bd B s d) (hB:B<=10 ^ 50) (hs:s<=sizeLine) (hd:dep d<=100):Shn d:=
 have b:=w4 hB d h.bn
 ⟨sP d b,Nat.le_trans (oU d b) (Nat.le_trans h.sz hs),Nat.le_trans (oW d) hd⟩
theorem sS {B:Nat}:∀ {ds:List D},(∀ d ∈ ds,bnd B d)->gA B ds
 | [],_=>by simp only [gA]
 | d::ds,h=>by simp only [gA];exact ⟨h d List.mem_cons_self,sS fun e m=>h e (List.mem_cons_of_mem _ m)⟩
end Dw
namespace Dw
open PySem PySem.Spec PyProof.Rows L2
theorem qO {B s:Nat} {ds:List D} (h:∀ d ∈ ds,bnd B d) (hs:szL ds+4<=s):Bd B s (.tup ds):=⟨by simp only [bnd];exact sS h,by simp only [sz];exact hs⟩
theorem EA {B s:Nat} {ds:List D} (h:Bd B s (.tup ds)):Bd B s (.lst ds):=by
 have h1:=h.bn;have h2:=h.sz
 exact ⟨by simp only [bnd] at h1 ⊢;exact h1,by simp only [sz] at h2 ⊢;exact h2⟩
end Dw
namespace Ev
open PySem PySem.Spec PyProof.Rows L2
inductive D where
 | non | bl (b:Bool) | int (i:Int) | str (x:Str) | tup (ds:List D) | ref (n:Nat)
inductive Ob where
 | lst (ds:List D) | frz (ds:List D) | dic (ks:List Key) (ds:List D)
noncomputable abbrev Sto:=List Ob
noncomputable abbrev Rho:=List (Option D)
mutual
noncomputable def VD (K:PySem.W.Frag) (m:List Addr) (H:Hp):D->V->Prop
 | .non,v=>v = .non
 | .bl b,v=>v = .bl b
 | .int i,v=>v = .int i
 | .str x,v=>v = .str x
 | .tup ds,v=>∃ a xs,v = .ref a/\H a=some (.tup xs)/\VDs K m H ds xs
 | .ref n,v=>∃ a,m[n]?=some a/\v = .ref a
noncomputable def VDs (K:PySem.W.Frag) (m:List Addr) (H:Hp):List D->List V->Prop
 | [],xs=>xs=[]
 | d::ds,xs=>∃ x r,xs=x::r/\VD K m H d x/\VDs K m H ds r
end
structure Ext (m:List Addr) (H:Hp) (m':List Addr) (H':Hp):Prop where
 pre:m <+: m'
 keep:∀ a o,H a=some o->a ∉ m->H' a=some o
 new:∀ a,a ∈ m'->a ∉ m->H a=none
noncomputable def ObR (K:PySem.W.Frag) (m:List Addr) (H:Hp) (a:Addr):Ob->Prop
 | .lst ds=>∃ vs,H a=some (.lst vs)/\VDs K m H ds vs
 | .frz ds=>∃ o vs,H a=some (.frz o (.lst vs))/\VDs K m H ds vs
 | .dic ks ds=>∃ vs,H a=some (.dK (ks.zip vs))/\ks.length=ds.length/\VDs K m H ds vs
structure Rel (K:PySem.W.Frag) (m:List Addr) (S:Sto) (H:Hp):Prop where
 len:m.length=S.length
 nd:m.Nodup
 ob:∀ (i:Nat) (o:Ob),S[i]?=some o->∃ a,m[i]?=some a/\ObR K m H a o
structure EnvR (K:PySem.W.Frag) (m:List Addr) (H:Hp) (ρ:Rho) (σ:L2.St):Prop where
 len:ρ.length=σ.length
 at_:∀ (i:Nat) (d:D),ρ[i]?=some (some d)->∃ v,σ[i]?=some (some v)/\VD K m H d v
theorem Ext.refl (m:List Addr) (H:Hp):Ext m H m H:=⟨List.prefix_refl m,fun _ _ h _=>h,fun _ h n=>absurd h n⟩
theorem Ext.trans {m m1 m2:List Addr} {H H1 H2:Hp} (x:Ext m H m1 H1) (y:Ext m1 H1 m2 H2):Ext m H m2 H2:=by
 refine ⟨x.pre.trans y.pre,fun a o h n=>?_,fun a h n=>?_⟩
 ·have n1:a ∉ m1:=fun z=>by have:=x.new a z n;rw [this] at h;cases h
  exact y.keep a o (x.keep a o h n) n1
 ·by_cases h1:a ∈ m1
  ·exact x.new a h1 n
  ·cases e:H a with
   | none=>rfl
   | some o=>
    have:=x.keep a o e n
    rw [y.new a h h1] at this;cases this
section
variable {K:PySem.W.Frag} {m m':List Addr} {S S':Sto} {H H':Hp} {a:Addr}
theorem Rel.ex (R:Rel K m S H) (ha:a ∈ m):∃ o ob,H a=some o/\ObR K m H a ob:=by
 obtain ⟨i,hi,e⟩:=List.getElem_of_mem ha
 have hi':i < S.length:=by rw [<-R.len];exact hi
 obtain ⟨b,hb,r⟩:=R.ob i S[i] (gEG hi')
 have:b=a:=by rw [gEG hi] at hb;rw [<-e];exact (Option.some.inj hb).symm
 subst this
 cases hS:S[i] with
 | lst ds=>rw [hS] at r;obtain ⟨vs,h,q⟩:=r;exact ⟨_,.lst ds,h,vs,h,q⟩
 | frz ds=>rw [hS] at r;obtain ⟨o,vs,h,q⟩:=r;exact ⟨_,.frz ds,h,o,vs,h,q⟩
 | dic ks ds=>rw [hS] at r;obtain ⟨vs,h,q⟩:=r;exact ⟨_,.dic ks ds,h,vs,h,q⟩
theorem Rel.no (R:Rel K m S H) (h:H a=none):a ∉ m:=fun z=>by
 obtain ⟨o,_,e,_⟩:=R.ex z
 rw [h] at e;cases e
theorem Rel.notTup (R:Rel K m S H) {xs:List V} (h:H a=some (.tup xs)):a ∉ m:=fun z=>by
 obtain ⟨o,ob,e,r⟩:=R.ex z
 cases ob with
 | lst ds=>obtain ⟨vs,q,_⟩:=r;rw [q] at h;cases h
 | frz ds=>obtain ⟨o,vs,q,_⟩:=r;rw [q] at h;cases h
 | dic ks ds=>obtain ⟨vs,q,_⟩:=r;rw [q] at h;cases h
theorem Tup.ext {xs:List V} (R:Rel K m S H) (x:Ext m H m' H') (h:H a=some (.tup xs)):H' a=some (.tup xs):=x.keep _ _ h (R.notTup h)
theorem nw {i:Nat} (h:m <+: m') (e:m[i]?=some a):m'[i]?=some a:=by
 obtain ⟨t,rfl⟩:=h
 have hi:i < m.length:=(List.getElem?_eq_some_iff.mp e).1
 rw [List.getElem?_append_left hi];exact e
mutual
theorem VD.mono0 (pre:m <+: m') (tk:∀ a xs,H a=some (.tup xs)->H' a=some (.tup xs)):∀ {d:D} {v:V},VD K m H d v->VD K m' H' d v
 | .non,v,h=>by rw [VD] at h ⊢;exact h
 | .bl _,v,h=>by rw [VD] at h ⊢;exact h
 | .int _,v,h=>by rw [VD] at h ⊢;exact h
 | .str _,v,h=>by rw [VD] at h ⊢;exact h
 | .tup ds,v,h=>by
  rw [VD] at h ⊢
  obtain ⟨a,xs,e,q,r⟩:=h
  exact ⟨a,xs,e,tk a xs q,VDs.mono0 pre tk r⟩
 | .ref n,v,h=>by
  rw [VD] at h ⊢
  obtain ⟨a,q,e⟩:=h
  exact ⟨a,nw pre q,e⟩
theorem VDs.mono0 (pre:m <+: m') (tk:∀ a xs,H a=some (.tup xs)->H' a=some (.tup xs)):∀ {ds:List D} {vs:List V},VDs K m H ds vs->VDs K m' H' ds vs
 | [],vs,h=>by rw [VDs] at h ⊢;exact h
 | d::ds,vs,h=>by
  rw [VDs] at h ⊢
  obtain ⟨y,r,e,p,q⟩:=h
  exact ⟨y,r,e,VD.mono0 pre tk p,VDs.mono0 pre tk q⟩
end
theorem VD.mono (R:Rel K m S H) (x:Ext m H m' H') {d:D} {v:V} (h:VD K m H d v):VD K m' H' d v:=VD.mono0 x.pre (fun _ _=>Tup.ext R x) h
theorem VDs.mono (R:Rel K m S H) (x:Ext m H m' H') {ds:List D} {vs:List V} (h:VDs K m H ds vs):VDs K m' H' ds vs:=VDs.mono0 x.pre (fun _ _=>Tup.ext R x) h
theorem EnvR.mono {ρ:Rho} {σ:L2.St} (R:Rel K m S H) (x:Ext m H m' H') (h:EnvR K m H ρ σ):EnvR K m' H' ρ σ:=
 ⟨h.len,fun i d e=>let ⟨v,p,q⟩:=h.at_ i d e;⟨v,p,VD.mono R x q⟩⟩
theorem VDs.length:∀ {ds:List D} {vs:List V},VDs K m H ds vs->ds.length=vs.length
 | [],vs,h=>by rw [VDs] at h;rw [h];rfl
 | d::ds,vs,h=>by
  rw [VDs] at h
  obtain ⟨y,r,e,_,q⟩:=h
  rw [e,List.length_cons,List.length_cons,VDs.length q]
theorem VDs.nil:VDs K m H [] []:=by rw [VDs]
theorem VDs.cons {d:D} {v:V} {ds:List D} {vs:List V} (h:VD K m H d v) (t:VDs K m H ds vs):VDs K m H (d::ds) (v::vs):=by rw [VDs];exact ⟨v,vs,rfl,h,t⟩
theorem VDs.get:∀ {ds:List D} {vs:List V} {i:Nat} {d:D},VDs K m H ds vs->ds[i]?=some d->∃ v,vs[i]?=some v/\VD K m H d v
 | [],_,_,_,_,e=>by simp at e
 | d::ds,vs,0,d',h,e=>by
  rw [VDs] at h
  obtain ⟨y,r,rfl,p,q⟩:=h
  simp at e;subst e
  exact ⟨y,rfl,p⟩
 | d::ds,vs,i+1,d',h,e=>by
  rw [VDs] at h
  obtain ⟨y,r,rfl,p,q⟩:=h
  obtain ⟨v,p1,p2⟩:=VDs.get (i:=i) q (by simpa using e)
  exact ⟨v,by simpa using p1,p2⟩
theorem VDs.append:∀ {ds es:List D} {vs ws:List V},VDs K m H ds vs->VDs K m H es ws->VDs K m H (ds++es) (vs++ws)
 | [],_,vs,_,h,t=>by rw [VDs] at h;subst h;exact t
 | d::ds,es,vs,ws,h,t=>by
  rw [VDs] at h
  obtain ⟨y,r,rfl,p,q⟩:=h
  exact .cons p (VDs.append q t)
theorem VDs.drop:∀ {ds:List D} {vs:List V} (n:Nat),VDs K m H ds vs->VDs K m H (ds.drop n) (vs.drop n)
 | ds,vs,0,h=>h
 | [],vs,n+1,h=>by rw [VDs] at h;subst h;exact .nil
 | d::ds,vs,n+1,h=>by
  rw [VDs] at h
  obtain ⟨y,r,rfl,p,q⟩:=h
  exact VDs.drop n q
theorem VDs.take:∀ {ds:List D} {vs:List V} (n:Nat),VDs K m H ds vs->VDs K m H (ds.take n) (vs.take n)
 | ds,vs,0,h=>by simp only [List.take_zero];exact .nil
 | [],vs,n+1,h=>by rw [VDs] at h;subst h;exact .nil
 | d::ds,vs,n+1,h=>by
  rw [VDs] at h
  obtain ⟨y,r,rfl,p,q⟩:=h
  exact .cons p (VDs.take n q)
theorem VDs.set:∀ {ds:List D} {vs:List V} {i:Nat} {d:D} {v:V},VDs K m H ds vs->VD K m H d v->VDs K m H (ds.set i d) (vs.set i v)
 | [],vs,_,_,_,h,_=>by rw [VDs] at h;subst h;exact .nil
 | _::ds,vs,0,d,v,h,p=>by
  rw [VDs] at h
  obtain ⟨y,r,rfl,_,q⟩:=h
  exact .cons p q
 | _::ds,vs,i+1,d,v,h,p=>by
  rw [VDs] at h
  obtain ⟨y,r,rfl,p',q⟩:=h
  exact .cons p' (VDs.set q p)
theorem Ext.beside (R:Rel K m S H) (h:H a=none) (o:HO):Ext m H m (upd H a o):=
 ⟨List.prefix_refl m,fun b u e _=>by rw [aC (aR e h)];exact e,fun b z n=>absurd z n⟩
theorem Rel.ext_keep (R:Rel K m S H) (x:Ext m H m H') (k:∀ b ∈ m,H' b=H b):Rel K m S H':=by
 refine ⟨R.len,R.nd,fun i o e=>?_⟩
 obtain ⟨b,hb,r⟩:=R.ob i o e
 have hm:b ∈ m:=List.mem_of_getElem? hb
 refine ⟨b,hb,?_⟩
 cases o with
 | lst ds=>obtain ⟨vs,p,q⟩:=r;exact ⟨vs,(k b hm).trans p,VDs.mono R x q⟩
 | frz ds=>obtain ⟨o,vs,p,q⟩:=r;exact ⟨o,vs,(k b hm).trans p,VDs.mono R x q⟩
 | dic ks ds=>obtain ⟨vs,p,l,q⟩:=r;exact ⟨vs,(k b hm).trans p,l,VDs.mono R x q⟩
theorem Rel.beside (R:Rel K m S H) (h:H a=none) (o:HO):Rel K m S (upd H a o):=
 R.ext_keep (Ext.beside R h o) fun b hb=>aC fun z=>R.no h (z ▸ hb)
theorem Rel.adopt (R:Rel K m S H) (n:a ∉ m) {vs:List V} {ds:List D} (h:H a=some (.lst vs)) (q:VDs K m H ds vs):Rel K (m++[a]) (S++[.lst ds]) H:=by
 have p:=List.prefix_append m [a]
 have g:∀ {es:List D} {ws:List V},VDs K m H es ws->VDs K (m++[a]) H es ws:=fun z=>VDs.mono0 p (fun _ _ t=>t) z
 refine ⟨by simp [R.len],List.nodup_append.mpr ⟨R.nd,by simp,fun x hx y hy=>by simp at hy;subst hy;exact fun z=>n (z ▸ hx)⟩,fun i o e=>?_⟩
 by_cases hi:i < S.length
 ·rw [List.getElem?_append_left hi] at e
  obtain ⟨b,hb,r⟩:=R.ob i o e
  refine ⟨b,nw p hb,?_⟩
  cases o with
  | lst ds=>obtain ⟨vs,p,q⟩:=r;exact ⟨vs,p,g q⟩
  | frz ds=>obtain ⟨o,vs,p,q⟩:=r;exact ⟨o,vs,p,g q⟩
  | dic ks ds=>obtain ⟨vs,p,l,q⟩:=r;exact ⟨vs,p,l,g q⟩
 ·rw [List.getElem?_append_right (by omega)] at e
  have hz:i - S.length=0:=by
   have:=(List.getElem?_eq_some_iff.mp e).1
   simp at this;omega
  rw [hz] at e
  have e':Ob.lst ds=o:=by simpa using e
  subst e'
  refine ⟨a,?_,vs,h,g q⟩
  rw [List.getElem?_append_right (by rw [R.len];omega),R.len,hz];rfl
theorem Ext.adopt (x:Ext m H m H') (h:H a=none):Ext m H (m++[a]) H':=
 ⟨List.prefix_append m [a],x.keep,fun b hb nb=>by
  rcases List.mem_append.mp hb with z | z
  ·exact absurd z nb
  ·simp at z;subst z;exact h⟩
theorem Rel.write (R:Rel K m S H) {i:Nat} (hi:m[i]?=some a) {vs:List V} {ds:List D} (q:VDs K m H ds vs):Ext m H m (upd H a (.lst vs))/\Rel K m (S.set i (.lst ds)) (upd H a (.lst vs)):=by
 have hm:a ∈ m:=List.mem_of_getElem? hi
 have x:Ext m H m (upd H a (.lst vs)):=⟨List.prefix_refl m,fun b u e n=>by rw [aC (show b ≠ a from fun z=>n (by rw [z];exact hm))];exact e,fun b z n=>absurd z n⟩
 refine ⟨x,by simp [R.len],R.nd,fun j o e=>?_⟩
 rw [List.getElem?_set] at e
 by_cases hj:i=j
 ·subst hj
  rw [if_pos rfl] at e
  split at e
  ·have e':=Option.some.inj e
   subst e'
   exact ⟨a,hi,vs,bx,VDs.mono R x q⟩
  ·cases e
 ·rw [if_neg hj] at e
  obtain ⟨b,hb,r⟩:=R.ob j o e
  have ne:b ≠ a:=fun z=>by
   subst z
   have h1:=List.getElem?_eq_some_iff.mp hi
   have h2:=List.getElem?_eq_some_iff.mp hb
   exact hj ((List.getElem_inj R.nd).mp (h1.2.trans h2.2.symm))
  refine ⟨b,hb,?_⟩
  cases o with
  | lst es=>obtain ⟨ws,p,q⟩:=r;exact ⟨ws,by rw [aC ne];exact p,VDs.mono R x q⟩
  | frz es=>obtain ⟨o,ws,p,q⟩:=r;exact ⟨o,ws,by rw [aC ne];exact p,VDs.mono R x q⟩
  | dic ks es=>obtain ⟨ws,p,l,q⟩:=r;exact ⟨ws,by rw [aC ne];exact p,l,VDs.mono R x q⟩
theorem Rel.lst (R:Rel K m S H) {i:Nat} {ds:List D} (e:S[i]?=some (.lst ds)):∃ a vs,m[i]?=some a/\H a=some (.lst vs)/\VDs K m H ds vs:=by
 obtain ⟨a,ha,vs,p,q⟩:=R.ob i _ e
 exact ⟨a,vs,ha,p,q⟩
end
noncomputable def au (S:Sto) (n:Nat):Option (List D):=match S[n]? with
 | some (.lst ds)=>some ds
 | some (.frz ds)=>some ds
 | _=>none
theorem Rel.seq {K:PySem.W.Frag} {m:List Addr} {S:Sto} {H:Hp} (R:Rel K m S H) {i:Nat} {ds:List D} (e:au S i=some ds):∃ a vs,m[i]?=some a/\SqL K H a vs/\VDs K m H ds vs:=by
 unfold au at e
 cases h:S[i]? with
 | none=>rw [h] at e;cases e
 | some o=>
  rw [h] at e
  cases o with
  | lst es=>cases e;obtain ⟨a,ha,vs,p,q⟩:=R.ob i _ h;exact ⟨a,vs,ha,.inl (.inl p),q⟩
  | frz es=>cases e;obtain ⟨a,ha,o,vs,p,q⟩:=R.ob i _ h;exact ⟨a,vs,ha,.inl (.inr ⟨o,p⟩),q⟩
  | dic ks es=>cases e
end Ev
namespace Ev
open PySem PySem.Spec PyProof.Rows L2
noncomputable abbrev XE:=Rho->Sto->Option (D × Sto)
noncomputable abbrev XT:=Rho->Sto->Option (Bool × Sto)
noncomputable abbrev XA:=Rho->Sto->Option (List D × Sto)
noncomputable def bnd {α β:Type} (x:Option (α × Sto)) (f:α->Sto->Option (β × Sto)):Option (β × Sto):=match x with
 | none=>none
 | some (a,S)=>f a S
theorem ab {α β:Type} {x:Option (α × Sto)} {f:α->Sto->Option (β × Sto)} {r:β × Sto} (h:bnd x f=some r):∃ a S,x=some (a,S)/\f a S=some r:=by
 unfold bnd at h
 cases x with
 | none=>cases h
 | some p=>exact ⟨p.1,p.2,rfl,h⟩
structure Aft (K:PySem.W.Frag) (m:List Addr) (H:Hp) (S':Sto) (m':List Addr) (H':Hp):Prop where
 ext:Ext m H m' H'
 rel:Rel K m' S' H'
noncomputable def tE (K:PySem.W.Frag) (x:XE):TE:=fun σ H Q=>∃ m ρ S d S',EnvR K m H ρ σ/\Rel K m S H/\x ρ S=some (d,S')/\∀ m' H' v,Aft K m H S' m' H'->VD K m' H' d v->Q v H'
noncomputable def tT (K:PySem.W.Frag) (x:XT):TT:=fun σ H Q=>∃ m ρ S b S',EnvR K m H ρ σ/\Rel K m S H/\x ρ S=some (b,S')/\∀ m' H',Aft K m H S' m' H'->Q b H'
noncomputable def tAr (K:PySem.W.Frag) (x:XA):TA:=fun σ H Q=>∃ m ρ S ds S',EnvR K m H ρ σ/\Rel K m S H/\x ρ S=some (ds,S')/\∀ m' H' vs,Aft K m H S' m' H'->VDs K m' H' ds vs->Q vs H'
noncomputable def SqB (K:PySem.W.Frag) (tu:Bool) (H:Hp) (a:Addr) (vs:List V):Prop:=if tu=true then H a=some (.tup vs) else SqL K H a vs
noncomputable def gB (K:PySem.W.Frag) (x:XA):TE:=fun σ H Q=>∃ m ρ S ds S',EnvR K m H ρ σ/\Rel K m S H/\x ρ S=some (ds,S')/\∀ m' H' a vs,Aft K m H S' m' H'->H' a=some (.lst vs)->a ∉ m'->(∀ b,b ∈ m->b ≠ a)->H a=none->VDs K m' H' ds vs->Q (.ref a) H'
section
variable {X:Cx} {e:Expr} {K:PySem.W.Frag} {m m1 m2:List Addr} {H H1 H2:Hp} {S S1 S2:Sto}
theorem PE.imp {t t':TE} (h:PE X e t) (f:∀ σ H Q,t' σ H Q->t σ H Q):PE X e t':=fun pins s σ H Q I q=>h pins s σ H Q I (f σ H Q q)
theorem PT.imp {t t':TT} (h:PT X e t) (f:∀ σ H Q,t' σ H Q->t σ H Q):PT X e t':=fun pins s σ H Q I q=>h pins s σ H Q I (f σ H Q q)
theorem PA.imp {es:List Expr} {t t':TA} (h:PA X es t) (f:∀ σ H Q,t' σ H Q->t σ H Q):PA X es t':=fun p pins s σ H Q I q=>h p pins s σ H Q I (f σ H Q q)
theorem PS.imp {st:Stmt} {t t':TS} (h:PS X st t) (f:∀ D σ H,t' D σ H->t D σ H):PS X st t':=fun pins s σ H D I q=>h pins s σ H D I (f D σ H q)
theorem PSs.imp {st:List Stmt} {t t':TS} (h:PSs X st t) (f:∀ D σ H,t' D σ H->t D σ H):PSs X st t':=fun pins s σ H D I q=>h pins s σ H D I (f D σ H q)
theorem PI.imp {tg it:Expr} {t t':TI} (h:PI X tg it t) (f:∀ σ H Q,t' σ H Q->t σ H Q):PI X tg it t':=fun pins s σ H Q I q=>h pins s σ H Q I (f σ H Q q)
theorem PI.or {tg it:Expr} {t t':TI} (h:PI X tg it t) (h':PI X tg it t'):PI X tg it (fun σ H Q=>t σ H Q\/t' σ H Q):=fun pins s σ H Q I q=>q.elim (h pins s σ H Q I) (h' pins s σ H Q I)
theorem OpR.imp {f:Value->Value->Sem Value} {r r':R2} (h:OpR X f r) (g:∀ x y H Q,r' x y H Q->r x y H Q):OpR X f r':=fun pins s σ H x y v u Q I rx ry q=>h pins s σ H x y v u Q I rx ry (g _ _ _ _ q)
theorem OpR.or {f:Value->Value->Sem Value} {r r':R2} (h:OpR X f r) (h':OpR X f r'):OpR X f (fun x y H Q=>r x y H Q\/r' x y H Q):=fun pins s σ H x y v u Q I rx ry q=>
 q.elim (h pins s σ H x y v u Q I rx ry) (h' pins s σ H x y v u Q I rx ry)
theorem a8.imp {f:Value} {r r':List V->Hp->VK->Prop} (h:a8 X f r) (g:∀ x H Q,r' x H Q->r x H Q):a8 X f r':=fun pins s σ H xs us Q I rx q=>h pins s σ H xs us Q I rx (g _ _ _ q)
theorem a8.or {f:Value} {r r':List V->Hp->VK->Prop} (h:a8 X f r) (h':a8 X f r'):a8 X f (fun x H Q=>r x H Q\/r' x H Q):=fun pins s σ H xs us Q I rx q=>
 q.elim (h pins s σ H xs us Q I rx) (h' pins s σ H xs us Q I rx)
theorem Aft.refl (R:Rel K m S H):Aft K m H S m H:=⟨Ext.refl m H,R⟩
theorem Aft.trans (x:Aft K m H S1 m1 H1) (y:Aft K m1 H1 S2 m2 H2):Aft K m H S2 m2 H2:=⟨x.ext.trans y.ext,y.rel⟩
noncomputable def rS (K:PySem.W.Frag) (f:D->D->Sto->Option (D × Sto)):R2:=fun v w H Q=>∃ m S a b d S',Rel K m S H/\VD K m H a v/\VD K m H b w/\f a b S=some (d,S')/\∀ m' H' u,Aft K m H S' m' H'->VD K m' H' d u->Q u H'
noncomputable def rS1 (K:PySem.W.Frag) (f:D->Sto->Option (D × Sto)):V->Hp->VK->Prop:=fun v H Q=>∃ m S a d S',Rel K m S H/\VD K m H a v/\f a S=some (d,S')/\∀ m' H' u,Aft K m H S' m' H'->VD K m' H' d u->Q u H'
noncomputable def rSA (K:PySem.W.Frag) (f:List D->Sto->Option (D × Sto)):List V->Hp->VK->Prop:=fun vs H Q=>∃ m S as d S',Rel K m S H/\VDs K m H as vs/\f as S=some (d,S')/\∀ m' H' u,Aft K m H S' m' H'->VD K m' H' d u->Q u H'
noncomputable def rSq (K:PySem.W.Frag) (f:Bool->List D->Sto->Option (D × Sto)):V->Hp->VK->Prop:=fun v H Q=>∃ m S tu ds a vs d S',Rel K m S H/\v = .ref a/\SqB K tu H a vs/\VDs K m H ds vs/\f tu ds S=some (d,S')/\∀ m' H' u,Aft K m H S' m' H'->VD K m' H' d u->Q u H'
noncomputable def oX (f:D->D->Sto->Option (D × Sto)) (x y:XE):XE:=fun ρ S=>bnd (x ρ S) fun a S1=>bnd (y ρ S1) fun b S2=>f a b S2
noncomputable def xUn (f:D->Sto->Option (D × Sto)) (x:XE):XE:=fun ρ S=>bnd (x ρ S) fun a S1=>f a S1
noncomputable def jJ (f:List D->Sto->Option (D × Sto)) (x:XA):XE:=fun ρ S=>bnd (x ρ S) fun a S1=>f a S1
noncomputable def oY (f:Bool->List D->Sto->Option (D × Sto)) (x:XA):XE:=fun ρ S=>bnd (x ρ S) fun ds S1=>f false ds S1
noncomputable def aq (d:D) (S:Sto):Option (Bool × List D):=match d with
 | .tup ds=>some (true,ds)
 | .ref n=>(au S n).map fun ds=>(false,ds)
 | _=>none
noncomputable def ag (f:Bool->List D->Sto->Option (D × Sto)) (d:D) (S:Sto):Option (D × Sto):=match aq d S with
 | some r=>f r.1 r.2 S
 | none=>none
noncomputable def oZ (f:Bool->List D->Sto->Option (D × Sto)) (x:XE):XE:=fun ρ S=>bnd (x ρ S) fun d S1=>ag f d S1
theorem ny {f:D->D->Sto->Option (D × Sto)} {x y:XE} {σ:L2.St} {H:Hp} {Q:VK} (h:tE K (oX f x y) σ H Q):tOp (rS K f) (tE K x) (tE K y) σ H Q:=by
 obtain ⟨m,ρ,S,d,S',E,R,e,q⟩:=h
 obtain ⟨a,S1,e1,e⟩:=ab e
 obtain ⟨b,S2,e2,e⟩:=ab e
 refine ⟨m,ρ,S,a,S1,E,R,e1,fun m1 H1 v A1 va=>⟨m1,ρ,S1,b,S2,E.mono R A1.ext,A1.rel,e2,fun m2 H2 w A2 vb=>?_⟩⟩
 exact ⟨m2,S2,a,b,d,S',A2.rel,va.mono A1.rel A2.ext,vb,e,fun m3 H3 u A3 vd=>q m3 H3 u ((A1.trans A2).trans A3) vd⟩
theorem w5 {f:D->Sto->Option (D × Sto)} {x:XE} {σ:L2.St} {H:Hp} {Q:VK} (h:tE K (xUn f x) σ H Q):tUn (rS1 K f) (tE K x) σ H Q:=by
 obtain ⟨m,ρ,S,d,S',E,R,e,q⟩:=h
 obtain ⟨a,S1,e1,e⟩:=ab e
 exact ⟨m,ρ,S,a,S1,E,R,e1,fun m1 H1 v A1 va=>⟨m1,S1,a,d,S',A1.rel,va,e,fun m3 H3 u A3 vd=>q m3 H3 u (A1.trans A3) vd⟩⟩
theorem w6 {f:List D->Sto->Option (D × Sto)} {x:XA} {σ:L2.St} {H:Hp} {Q:VK} (h:tE K (jJ f x) σ H Q):tCB (rSA K f) (tAr K x) σ H Q:=by
 obtain ⟨m,ρ,S,d,S',E,R,e,q⟩:=h
 obtain ⟨a,S1,e1,e⟩:=ab e
 exact ⟨m,ρ,S,a,S1,E,R,e1,fun m1 H1 v A1 va=>⟨m1,S1,a,d,S',A1.rel,va,e,fun m3 H3 u A3 vd=>q m3 H3 u (A1.trans A3) vd⟩⟩
theorem EB {f:Bool->List D->Sto->Option (D × Sto)} {x:XA} {σ:L2.St} {H:Hp} {Q:VK} (h:tE K (oY f x) σ H Q):tUn (rSq K f) (gB K x) σ H Q:=by
 obtain ⟨m,ρ,S,d,S',E,R,e,q⟩:=h
 obtain ⟨ds,S1,e1,e⟩:=ab e
 exact ⟨m,ρ,S,ds,S1,E,R,e1,fun m1 H1 a vs A1 sq _ _ _ vd=>⟨m1,S1,false,ds,a,vs,d,S',A1.rel,rfl,show SqL K H1 a vs from SqL.of sq,vd,e,fun m3 H3 u A3 vd=>q m3 H3 u (A1.trans A3) vd⟩⟩
noncomputable def uH (i:Nat):XE:=fun ρ S=>match ρ[i]? with
 | some (some d)=>some (d,S)
 | _=>none
noncomputable def xC (d:D):XE:=fun _ S=>some (d,S)
theorem EC {i:Nat} {σ:L2.St} {H:Hp} {Q:VK} (h:tE K (uH i) σ H Q):Im i σ H Q:=by
 obtain ⟨m,ρ,S,d,S',E,R,e,q⟩:=h
 unfold uH at e
 cases hr:ρ[i]? with
 | none=>rw [hr] at e;cases e
 | some o=>
  rw [hr] at e
  cases o with
  | none=>cases e
  | some d'=>
   cases e
   obtain ⟨v,e1,vd⟩:=E.at_ i d hr
   exact ⟨v,e1,q m H v (Aft.refl R) vd⟩
theorem w8 {v:V} {d:D} {σ:L2.St} {H:Hp} {Q:VK} (hv:∀ m H,VD K m H d v) (h:tE K (xC d) σ H Q):tC v σ H Q:=by
 obtain ⟨m,ρ,S,d',S',E,R,e,q⟩:=h
 cases e
 exact q m H v (Aft.refl R) (hv m H)
theorem qP:VD K m H .non .non:=by rw [VD]
theorem cz {b:Bool}:VD K m H (.bl b) (.bl b):=by rw [VD]
theorem bq {i:Int}:VD K m H (.int i) (.int i):=by rw [VD]
theorem nz {x:Str}:VD K m H (.str x) (.str x):=by rw [VD]
theorem nA {a:Addr} {vs:List V} {ds:List D} (h:H a=some (.tup vs)) (q:VDs K m H ds vs):VD K m H (.tup ds) (.ref a):=by rw [VD];exact ⟨a,vs,rfl,h,q⟩
theorem VD.ints {i:Int} {v:V} (h:VD K m H (.int i) v):v = .int i:=by rw [VD] at h;exact h
theorem VD.bls {i:Bool} {v:V} (h:VD K m H (.bl i) v):v = .bl i:=by rw [VD] at h;exact h
theorem VD.strs {i:Str} {v:V} (h:VD K m H (.str i) v):v = .str i:=by rw [VD] at h;exact h
theorem VD.nons {v:V} (h:VD K m H .non v):v = .non:=by rw [VD] at h;exact h
theorem VD.tups {ds:List D} {v:V} (h:VD K m H (.tup ds) v):∃ a vs,v = .ref a/\H a=some (.tup vs)/\VDs K m H ds vs:=by rw [VD] at h;exact h
theorem VD.refs {n:Nat} {v:V} (h:VD K m H (.ref n) v):∃ a,m[n]?=some a/\v = .ref a:=by rw [VD] at h;exact h
noncomputable def Ak:XA:=fun _ S=>some ([],S)
noncomputable def sT (x:XE) (y:XA):XA:=fun ρ S=>bnd (x ρ S) fun a S1=>bnd (y ρ S1) fun as S2=>some (a::as,S2)
theorem ED {σ:L2.St} {H:Hp} {Q:List V->Hp->Prop} (h:tAr K Ak σ H Q):j7 σ H Q:=by
 obtain ⟨m,ρ,S,d',S',E,R,e,q⟩:=h
 cases e
 exact q m H [] (Aft.refl R) .nil
theorem Al {x:XE} {y:XA} {σ:L2.St} {H:Hp} {Q:List V->Hp->Prop} (h:tAr K (sT x y) σ H Q):cW (tE K x) (tAr K y) σ H Q:=by
 obtain ⟨m,ρ,S,d',S',E,R,e,q⟩:=h
 obtain ⟨a,S1,e1,e⟩:=ab e
 obtain ⟨b,S2,e2,e⟩:=ab e
 cases e
 refine ⟨m,ρ,S,a,S1,E,R,e1,fun m1 H1 v A1 va=>⟨m1,ρ,S1,b,_,E.mono R A1.ext,A1.rel,e2,fun m2 H2 w A2 vb=>?_⟩⟩
 exact q m2 H2 _ (A1.trans A2) (.cons (va.mono A1.rel A2.ext) vb)
noncomputable def jK (ds:List D) (S:Sto):Option (D × Sto):=if ds.length<=1000 then some (.tup ds,S) else none
theorem km {n:Nat} (h:n<=1000):n<=sizeLine:=by rw [sizeLine_eq];omega
theorem jQ {ds:List D} {vs:List V} {Q:VK} (R:Rel K m S H) (vd:VDs K m H ds vs) (q:∀ m' H' u,Aft K m H S m' H'->VD K m' H' (.tup ds) u->Q u H'):∀ p,H p=none->Q (.ref p) (upd H p (.tup vs)):=fun p hp=>
 q m _ _ ⟨Ext.beside R hp _,R.beside hp _⟩ (nA bx (vd.mono R (Ext.beside R hp _)))
theorem sU {ds:List D} {vs:List V} {Q:VK} (R:Rel K m S H) (vd:VDs K m H ds vs) (q:∀ m' H' u,Aft K m H (S++[.lst ds]) m' H'->VD K m' H' (.ref S.length) u->Q u H'):∀ p,H p=none->Q (.ref p) (upd H p (.lst vs)):=fun p hp=>by
 have x:=Ext.beside R hp (.lst vs)
 refine q (m++[p]) _ _ ⟨x.adopt hp,(R.beside hp _).adopt (R.no hp) bx (vd.mono R x)⟩ ?_
 rw [VD]
 exact ⟨p,by rw [List.getElem?_append_right (by rw [R.len];exact Nat.le_refl _),R.len,Nat.sub_self];rfl,rfl⟩
theorem nB {ds:List D} {vs:List V} {Q:VK} (R:Rel K m S H) (vd:VDs K m H ds vs) (q:∀ m' H' a vs,Aft K m H S m' H'->H' a=some (.lst vs)->a ∉ m'->(∀ b,b ∈ m->b ≠ a)->H a=none->VDs K m' H' ds vs->Q (.ref a) H'):∀ p,H p=none->Q (.ref p) (upd H p (.lst vs)):=fun p hp=>
 q m _ _ _ ⟨Ext.beside R hp _,R.beside hp _⟩ bx (R.no hp) (fun b hb z=>R.no hp (z ▸ hb)) hp (vd.mono R (Ext.beside R hp _))
theorem EF {x:XA} {σ:L2.St} {H:Hp} {Q:VK} (h:tE K (jJ jK x) σ H Q):IP (tAr K x) σ H Q:=by
 obtain ⟨m,ρ,S,d',S',E,R,e,q⟩:=h
 obtain ⟨a,S1,e1,e⟩:=ab e
 unfold jK at e
 split at e
 ·rename_i hl
  cases e
  exact ⟨m,ρ,S,a,_,E,R,e1,fun m1 H1 vs A1 va=>⟨km (by rw [<-va.length];exact hl),jQ A1.rel va fun m' H' u A2 vu=>q m' H' u (A1.trans A2) vu⟩⟩
 ·cases e
noncomputable def mv (x:XA):XA:=fun ρ S=>bnd (x ρ S) fun ds S1=>if ds.length<=1000 then some (ds,S1) else none
theorem Am {x:XA} {σ:L2.St} {H:Hp} {Q:VK} (h:gB K (mv x) σ H Q):IQ (tAr K x) σ H Q:=by
 obtain ⟨m,ρ,S,ds,S',E,R,e,q⟩:=h
 obtain ⟨a,S1,e1,e⟩:=ab e
 split at e
 ·rename_i hl
  cases e
  refine ⟨m,ρ,S,_,_,E,R,e1,fun m1 H1 vs A1 va=>⟨km (by rw [<-va.length];exact hl),nB A1.rel va fun m' H' u us A2 sq n1 n2 n3 vu=>?_⟩⟩
  have hn:H u=none:=by
   cases e:H u with
   | none=>rfl
   | some o=>
    by_cases hm:u ∈ m
    ·exact absurd rfl (n2 u (A1.ext.pre.subset hm))
    ·have:=A1.ext.keep u o e hm
     rw [this] at n3;cases n3
  exact q m' H' u us (A1.trans A2) sq n1 (fun b hb=>n2 b (A1.ext.pre.subset hb)) hn vu
 ·cases e
theorem fh {d:D} {v:V} {tu:Bool} {ds:List D} (R:Rel K m S H) (vd:VD K m H d v) (e:aq d S=some (tu,ds)):∃ a vs,v = .ref a/\SqB K tu H a vs/\VDs K m H ds vs:=by
 unfold aq at e
 cases d with
 | tup es=>
  cases e
  obtain ⟨a,vs,e,q,r⟩:=vd.tups
  exact ⟨a,vs,e,q,r⟩
 | ref n=>
  obtain ⟨a,ha,ev⟩:=vd.refs
  cases hs:au S n with
  | none=>simp [hs] at e
  | some es=>
   simp [hs] at e
   obtain ⟨rfl,rfl⟩:=e
   obtain ⟨b,vs,hb,q,r⟩:=R.seq hs
   rw [ha] at hb
   cases hb
   exact ⟨a,vs,ev,q,r⟩
 | _=>cases e
theorem EG {f:Bool->List D->Sto->Option (D × Sto)} {x:XE} {σ:L2.St} {H:Hp} {Q:VK} (h:tE K (oZ f x) σ H Q):tUn (rSq K f) (tE K x) σ H Q:=by
 obtain ⟨m,ρ,S,d,S',E,R,e,q⟩:=h
 obtain ⟨a,S1,e1,e⟩:=ab e
 refine ⟨m,ρ,S,a,S1,E,R,e1,fun m1 H1 v A1 va=>?_⟩
 unfold ag at e
 split at e
 ·rename_i r hi
  obtain ⟨b,vs,ev,sq,vds⟩:=fh (tu:=r.1) (ds:=r.2) A1.rel va hi
  exact ⟨m1,S1,r.1,r.2,b,vs,d,S',A1.rel,ev,sq,vds,e,fun m3 H3 u A3 vd=>q m3 H3 u (A1.trans A3) vd⟩
 ·cases e
noncomputable def dW (x:XA):XE:=fun ρ S=>bnd (x ρ S) fun ds S1=>some (.ref S1.length,S1++[.lst ds])
theorem o4 {x:XA} {σ:L2.St} {H:Hp} {Q:VK} (h:tE K (dW x) σ H Q):gB K x σ H Q:=by
 obtain ⟨m,ρ,S,d,S',E,R,e,q⟩:=h
 obtain ⟨ds,S1,e1,e⟩:=ab e
 cases e
 refine ⟨m,ρ,S,ds,S1,E,R,e1,fun m1 H1 a vs A1 sq n1 n2 n3 vd=>?_⟩
 refine q (m1++[a]) H1 _ ⟨⟨A1.ext.pre.trans (List.prefix_append _ _),A1.ext.keep,fun b hb nb=>?_⟩,A1.rel.adopt n1 sq vd⟩ ?_
 ·rcases List.mem_append.mp hb with z | z
  ·exact A1.ext.new b z nb
  ·simp at z;subst z;exact n3
 ·rw [VD]
  exact ⟨a,by rw [List.getElem?_append_right (by rw [A1.rel.len];exact Nat.le_refl _),A1.rel.len,Nat.sub_self];rfl,rfl⟩
end
end Ev
namespace Ev
open PySem PySem.Spec PyProof.Rows L2
noncomputable def eqL (f:D->D->Option Bool):List D->List D->Option Bool
 | [],[]=>some true
 | [],_::_=>some false
 | _::_,[]=>some false
 | x::xs,y::ys=>match f x y,eqL f xs ys with
  | some a,some b=>some (a && b)
  | _,_=>none
noncomputable def eqD:Nat->Sto->D->D->Option Bool
 | 0,_,_,_=>none
 | n+1,S,x,y=>match x,y with
  | .non,.non=>some true
  | .bl a,.bl b=>some (a == b)
  | .int a,.int b=>some (a == b)
  | .str a,.str b=>some (a == b)
  | .bl a,.int b=>some ((if a then 1 else 0) == b)
  | .int a,.bl b=>some (a == (if b then 1 else 0))
  | .tup xs,.tup ys=>eqL (eqD n S) xs ys
  | .ref a,.ref b=>match au S a,au S b with
   | some xs,some ys=>if a=b then some true else if xs.length=ys.length then eqL (eqD n S) xs ys else some false
   | _,_=>none
  | .tup _,.ref b=>match au S b with
   | some _=>some false
   | none=>none
  | .ref a,.tup _=>match au S a with
   | some _=>some false
   | none=>none
  | .ref a,_=>match au S a with
   | some _=>some false
   | none=>none
  | _,.ref a=>match au S a with
   | some _=>some false
   | none=>none
  | _,_=>some false
section
variable {X:Cx} {K:PySem.W.Frag} {m:List Addr} {H:Hp} {S:Sto}
theorem o5 {f:D->D->Option Bool}:∀ {xs ys:List D} {b:Bool},eqL f xs ys=some b->∃ g:Nat->Bool,(∀ j x y,xs[j]?=some x->ys[j]?=some y->f x y=some (g j))/\b=((List.range (min xs.length ys.length)).all g && xs.length == ys.length)
 | [],[],b,h=>by simp [eqL] at h;exact ⟨fun _=>true,fun j x y e=>by simp at e,by simp [<-h]⟩
 | [],_::_,b,h=>by simp [eqL] at h;exact ⟨fun _=>true,fun j x y e=>by simp at e,by simp [<-h]⟩
 | _::_,[],b,h=>by simp [eqL] at h;exact ⟨fun _=>true,fun j x y _ e=>by simp at e,by simp [<-h]⟩
 | x::xs,y::ys,b,h=>by
  simp only [eqL] at h
  cases h1:f x y with
  | none=>simp [h1] at h
  | some a=>
   cases h2:eqL f xs ys with
   | none=>simp [h1,h2] at h
   | some c=>
    simp [h1,h2] at h
    obtain ⟨g,hg,hc⟩:=o5 h2
    refine ⟨fun j=>match j with | 0=>a | j+1=>g j,fun j x' y' e1 e2=>?_,?_⟩
    ·cases j with
     | zero=>simp at e1 e2;subst e1 e2;exact h1
     | succ j=>simp at e1 e2;exact hg j x' y' e1 e2
    ·rw [<-h,hc]
     simp only [List.length_cons,Nat.succ_min_succ,List.range_succ_eq_map,List.all_cons,List.all_map]
     rw [Bool.and_assoc]
     congr 1
     rw [show (xs.length+1 == ys.length+1)=(xs.length == ys.length) by simp]
     rfl
theorem An {pins:List (Addr × Obj)} {σ:L2.St} {s:Shared} {a:Addr} {xs ys:List V} (I:Inv X pins σ H s) (h1:H a=some (.tup xs)) (h2:H a=some (.tup ys)):xs=ys:=by
 rw [h1] at h2;cases h2;rfl
theorem uI {m:List Addr} (nd:m.Nodup) {i j:Nat} {a:Addr} (h1:m[i]?=some a) (h2:m[j]?=some a):i=j:=by
 obtain ⟨p1,q1⟩:=List.getElem?_eq_some_iff.mp h1
 obtain ⟨p2,q2⟩:=List.getElem?_eq_some_iff.mp h2
 exact (List.getElem_inj nd).mp (q1.trans q2.symm)
theorem o6 {pins:List (Addr × Obj)} {σ:L2.St} {s:Shared} (I:Inv X pins σ H s) (R:Rel X.K m S H):∀ (n:Nat) {x y:D} {v:V} {b:Bool},VD X.K m H x v->VD X.K m H y v->eqD n S x y=some b->b=true
 | 0,_,_,_,_,_,_,h=>by simp [eqD] at h
 | n+1,x,y,v,b,h1,h2,h=>by
  have lists:∀ {xs ys:List D} {vs:List V} {b:Bool},VDs X.K m H xs vs->VDs X.K m H ys vs->eqL (eqD n S) xs ys=some b->b=true:=by
   intro xs
   induction xs with
   | nil=>
    intro ys vs b p q e
    have l1:=p.length
    have l2:=q.length
    cases ys with
    | nil=>simp [eqL] at e;simp_all
    | cons _ _=>simp at l1 l2;omega
   | cons x xs ih=>
    intro ys vs b p q e
    have l1:=p.length
    have l2:=q.length
    cases ys with
    | nil=>simp at l1 l2;omega
    | cons y ys=>
     rw [VDs] at p q
     obtain ⟨a,r,e1,p1,p2⟩:=p
     obtain ⟨a',r',e2,q1,q2⟩:=q
     rw [e1] at e2
     cases e2
     simp only [eqL] at e
     cases f1:eqD n S x y with
     | none=>simp [f1] at e
     | some c=>
      cases f2:eqL (eqD n S) xs ys with
      | none=>simp [f1,f2] at e
      | some d=>
       simp [f1,f2] at e
       rw [<-e,o6 I R n p1 q1 f1,ih p2 q2 f2];rfl
  cases x with
  | non=>cases h1.nons;cases y <;> simp [VD] at h2 <;> simp [eqD] at h <;> simp [h]
  | bl a=>cases h1.bls;cases y <;> simp [VD] at h2 <;> simp [eqD] at h <;> simp_all
  | int a=>cases h1.ints;cases y <;> simp [VD] at h2 <;> simp [eqD] at h <;> simp_all
  | str a=>cases h1.strs;cases y <;> simp [VD] at h2 <;> simp [eqD] at h <;> simp_all
  | tup xs=>
   obtain ⟨a,vs,e,sq,p⟩:=h1.tups
   subst e
   cases y with
   | tup ys=>
    obtain ⟨a',vs',e',sq',q⟩:=h2.tups
    cases e'
    have:=An I sq sq'
    subst this
    simp only [eqD] at h
    exact lists p q h
   | ref k=>
    obtain ⟨a',ha,e'⟩:=h2.refs
    cases e'
    have z:a ∈ m:=List.mem_of_getElem? ha
    exact absurd z (R.notTup sq)
   | non=>cases h2.nons
   | bl _=>cases h2.bls
   | int _=>cases h2.ints
   | str _=>cases h2.strs
  | ref k=>
   obtain ⟨a,ha,e⟩:=h1.refs
   subst e
   cases y with
   | ref k'=>
    obtain ⟨a',ha',e'⟩:=h2.refs
    cases e'
    have:=uI R.nd ha ha'
    subst this
    simp only [eqD] at h
    cases hs:au S k with
    | none=>rw [hs] at h;cases h
    | some es=>rw [hs] at h;simp at h;exact h.symm ▸ rfl
   | tup ys=>
    obtain ⟨a',vs',e',sq,q⟩:=h2.tups
    cases e'
    have z:a ∈ m:=List.mem_of_getElem? ha
    exact absurd z (R.notTup sq)
   | non=>cases h2.nons
   | bl _=>cases h2.bls
   | int _=>cases h2.ints
   | str _=>cases h2.strs
theorem sV {vs:List V} {its:List Value} {xs:List D} (p:VDs K m H xs vs) (r:aP vs its) {j:Nat} (hj:j < its.toArray.size):∃ x v,xs[j]?=some x/\VD K m H x v/\aN v its.toArray[j]:=by
 have hj':j < its.length:=by simpa using hj
 have l1:=p.length
 have l2:=r.length
 obtain ⟨v,hv,vd⟩:=p.get (i:=j) (d:=xs[j]'(by omega)) (gEG _)
 obtain ⟨u,hu,ru⟩:=r.get hv
 refine ⟨_,v,gEG (by omega),vd,?_⟩
 have e:its[j]?=some its[j]:=gEG hj'
 rw [e] at hu
 cases hu
 simpa using ru
noncomputable abbrev EH (X:Cx) (m:List Addr) (H:Hp) (S:Sto) (s:Shared) (n:Nat):Prop:=∀ (A:Around) (x y:D) (v w:V) (u u':Value) (b:Bool),VD X.K m H x v->VD X.K m H y w->aN v u->aN w u'->eqD n S x y=some b->A.units+n < cLine->SeqAt.EqAt A s u u' b
theorem o8 {pins:List (Addr × Obj)} {σ:L2.St} {s:Shared} {n:Nat} (ih:EH X m H S s n) {A:Around} {xs ys:List D} {vs ws:List V} {i1 i2:List Value} {b:Bool} (p:VDs X.K m H xs vs) (q:VDs X.K m H ys ws) (r1:aP vs i1) (r2:aP ws i2)
  (h:eqL (eqD n S) xs ys=some b) (hu:A.units+(n+1) < cLine):∃ g:Nat->Bool,(∀ j (h1:j < i1.toArray.size) (h2:j < i2.toArray.size),SeqAt.EqAt A.in1 s i1.toArray[j] i2.toArray[j] (g j))/\b=((List.range (min i1.toArray.size i2.toArray.size)).all g && i1.toArray.size == i2.toArray.size):=by
 obtain ⟨g,hg,hb⟩:=o5 h
 have l1:i1.toArray.size=xs.length:=by rw [List.size_toArray,<-r1.length,<-p.length]
 have l2:i2.toArray.size=ys.length:=by rw [List.size_toArray,<-r2.length,<-q.length]
 refine ⟨g,fun j h1 h2=>?_,by rw [hb,l1,l2]⟩
 obtain ⟨x,v,e1,v1,ru1⟩:=sV p r1 h1
 obtain ⟨y,w,e2,v2,ru2⟩:=sV q r2 h2
 exact ih _ _ _ _ _ _ _ _ v1 v2 ru1 ru2 (hg j x y e1 e2) (by show A.units+1+n < cLine;omega)
theorem w9 {n:Nat}:(List.range n).all (fun _=>true)=true:=by simp
theorem xa {pins:List (Addr × Obj)} {σ:L2.St} {s:Shared} (I:Inv X pins σ H s) (R:Rel X.K m S H) {n:Nat} (ih:EH X m H S s n) {A:Around} {x y:D} {a a':Addr} {b:Bool} (hx:VD X.K m H x (.ref a)) (hy:VD X.K m H y (.ref a')) (h:eqD (n+1) S x y=some b) (hu:A.units+(n+1) < cLine) :
  SeqAt.RcAt A s (.ref a) (.ref a') b/\PySem.SeqAt.RcNeAt A s (.ref a) (.ref a') (!b):=by
 have hu0:A.units < cLine:=by omega
 cases x with
 | non=>cases hx.nons
 | bl _=>cases hx.bls
 | int _=>cases hx.ints
 | str _=>cases hx.strs
 | tup xs=>
  obtain ⟨_,vs,e,sq,p⟩:=hx.tups
  cases e
  obtain ⟨i1,r1,t1,_⟩:=I.tuple (.of sq)
  cases y with
  | non=>cases hy.nons
  | bl _=>cases hy.bls
  | int _=>cases hy.ints
  | str _=>cases hy.strs
  | tup ys=>
   obtain ⟨_,ws,e,sq',q⟩:=hy.tups
   cases e
   obtain ⟨i2,r2,t2,_⟩:=I.tuple (.of sq')
   simp only [eqD] at h
   obtain ⟨g,hg,hb⟩:=o8 (pins:=pins) (σ:=σ) ih p q r1 r2 h hu
   rw [hb]
   exact ⟨SeqAt.RcAt.tuples t1 t2 hu0 hg,PySem.SeqAt.RcNeAt.tuples t1 t2 hu0 hg⟩
  | ref k=>
   simp only [eqD] at h
   cases hs:au S k with
   | none=>rw [hs] at h;cases h
   | some es=>
    rw [hs] at h
    cases h
    obtain ⟨b',ws,hb,sq',q⟩:=R.seq hs
    obtain ⟨c,hc,ec⟩:=hy.refs
    cases ec
    rw [hb] at hc
    cases hc
    obtain ⟨i2,r2,t2,_⟩:=I.list sq'
    exact ⟨SeqAt.RcAt.tuple_list t1 t2.isList hu0,PySem.SeqAt.RcNeAt.tuple_list t1 t2.isList hu0⟩
 | ref k=>
  obtain ⟨c,hc,ec⟩:=hx.refs
  cases ec
  cases y with
  | non=>cases hy.nons
  | bl _=>cases hy.bls
  | int _=>cases hy.ints
  | str _=>cases hy.strs
  | tup ys=>
   obtain ⟨_,ws,e,sq',q⟩:=hy.tups
   cases e
   obtain ⟨i2,r2,t2,_⟩:=I.tuple (.of sq')
   simp only [eqD] at h
   cases hs:au S k with
   | none=>rw [hs] at h;cases h
   | some es=>
    rw [hs] at h
    cases h
    obtain ⟨b',vs,hb,sq,p⟩:=R.seq hs
    rw [hb] at hc
    cases hc
    obtain ⟨i1,r1,t1,_⟩:=I.list sq
    exact ⟨SeqAt.RcAt.list_tuple t1.isList t2 hu0,PySem.SeqAt.RcNeAt.list_tuple t1.isList t2 hu0⟩
  | ref k'=>
   obtain ⟨c',hc',ec'⟩:=hy.refs
   cases ec'
   simp only [eqD] at h
   cases hs:au S k with
   | none=>rw [hs] at h;cases h
   | some es=>
    cases hs':au S k' with
    | none=>rw [hs,hs'] at h;cases h
    | some es'=>
     rw [hs,hs'] at h
     dsimp only at h
     obtain ⟨b1,vs,hb,sq,p⟩:=R.seq hs
     rw [hb] at hc
     cases hc
     obtain ⟨b2,ws,hb',sq',q⟩:=R.seq hs'
     rw [hb'] at hc'
     cases hc'
     obtain ⟨i1,r1,t1,_⟩:=I.list sq
     obtain ⟨i2,r2,t2,_⟩:=I.list sq'
     split at h
     ·rename_i hk
      subst hk
      rw [hb] at hb'
      cases hb'
      cases h
      have z:=SeqAt.RcAt.lists (e:=fun _=>true) t1.isList t1.isList rfl hu0 fun j h1 h2=>SeqAt.EqAt.same _
      have z':=PySem.SeqAt.RcNeAt.lists (e:=fun _=>true) t1.isList t1.isList rfl hu0 fun j h1 h2=>SeqAt.EqAt.same _
      rw [w9] at z z'
      exact ⟨z,z'⟩
     ·have l1:i1.toArray.size=es.length:=by rw [List.size_toArray,<-r1.length,<-p.length]
      have l2:i2.toArray.size=es'.length:=by rw [List.size_toArray,<-r2.length,<-q.length]
      split at h
      ·rename_i hl
       obtain ⟨g,hg,hb3⟩:=o8 (pins:=pins) (σ:=σ) ih p q r1 r2 h hu
       have hsz:i1.toArray.size=i2.toArray.size:=by rw [l1,l2,hl]
       rw [hb3,<-hsz,Nat.min_self,beq_self_eq_true,Bool.and_true]
       exact ⟨SeqAt.RcAt.lists t1.isList t2.isList hsz hu0 hg,PySem.SeqAt.RcNeAt.lists t1.isList t2.isList hsz hu0 hg⟩
      ·rename_i hl
       cases h
       have hsz:(i1.toArray.size != i2.toArray.size)=true:=by rw [l1,l2];simpa using hl
       exact ⟨SeqAt.RcAt.lists_lengths t1.isList t2.isList hsz hu0,PySem.SeqAt.RcNeAt.lists_lengths t1.isList t2.isList hsz hu0⟩
theorem bo {pins:List (Addr × Obj)} {σ:L2.St} {s:Shared} (I:Inv X pins σ H s) (R:Rel X.K m S H) {k:Nat} {v:V} {es:List D} (h:VD X.K m H (.ref k) v) (hs:au S k=some es):∃ a i,v = .ref a/\s.heap.IsList a i:=by
 obtain ⟨c,hc,ec⟩:=h.refs
 obtain ⟨b1,vs,hb,sq,p⟩:=R.seq hs
 rw [hb] at hc
 cases hc
 obtain ⟨i1,r1,t1,_⟩:=I.list sq
 exact ⟨_,_,ec,t1.isList⟩
theorem bz {pins:List (Addr × Obj)} {σ:L2.St} {s:Shared} (I:Inv X pins σ H s) {v:V} {es:List D} (h:VD X.K m H (.tup es) v):∃ a i,v = .ref a/\s.heap.IsTuple a i:=by
 obtain ⟨a,vs,e,sq,p⟩:=h.tups
 obtain ⟨i1,r1,t1,_⟩:=I.tuple (.of sq)
 exact ⟨_,_,e,t1⟩
theorem xc {pins:List (Addr × Obj)} {σ:L2.St} {s:Shared} (I:Inv X pins σ H s) (R:Rel X.K m S H):∀ n,EH X m H S s n
 | 0=>fun A x y v w u u' b h1 h2 r1 r2 h _=>by simp [eqD] at h
 | n+1=>fun A x y v w u u' b h1 h2 r1 r2 h hu=>by
  have hu0:A.units < cLine:=by omega
  have seq:∀ {a a':Addr},v = .ref a->w = .ref a'->SeqAt.EqAt A s u u' b:=by
   intro a a' e e'
   subst e e'
   cases r1;cases r2
   by_cases z:a=a'
   ·subst z
    have:=o6 I R (n+1) h1 h2 h
    subst this
    exact SeqAt.EqAt.same _
   ·exact SeqAt.EqAt.of_refs z (xa I R (xc I R n) h1 h2 h hu).1
  cases x with
  | non=>
   cases h1.nons;cases r1
   cases y with
   | non=>cases h2.nons;cases r2;simp [eqD] at h;subst h;exact SeqAt.EqAt.same _
   | bl j=>cases h2.bls;cases r2;simp [eqD] at h;subst h;exact SeqAt.EqAt.none_bool _
   | int j=>cases h2.ints;obtain ⟨t,rfl⟩:=r2;simp [eqD] at h;subst h;exact SeqAt.EqAt.none_int _ _
   | str j=>cases h2.strs;obtain ⟨t,rfl⟩:=r2;simp [eqD] at h;subst h;exact SeqAt.EqAt.none_str _ _
   | tup ys=>obtain ⟨a,i,e,l⟩:=bz I h2;subst e;cases r2;simp [eqD] at h;subst h;exact SeqAt.EqAt.none_tuple l hu0
   | ref k=>
    simp only [eqD] at h
    cases hs:au S k with
    | none=>rw [hs] at h;cases h
    | some es=>rw [hs] at h;cases h;obtain ⟨a,i,e,l⟩:=bo I R h2 hs;subst e;cases r2;exact SeqAt.EqAt.none_list l hu0
  | bl i=>
   cases h1.bls;cases r1
   cases y with
   | non=>cases h2.nons;cases r2;simp [eqD] at h;subst h;exact SeqAt.EqAt.bool_none _
   | bl j=>cases h2.bls;cases r2;simp only [eqD] at h;cases h;exact SeqAt.EqAt.bool_bool _ _
   | int j=>cases h2.ints;obtain ⟨t,rfl⟩:=r2;simp only [eqD] at h;cases h;exact SeqAt.EqAt.bool_int _ _ _
   | str j=>cases h2.strs;obtain ⟨t,rfl⟩:=r2;simp [eqD] at h;subst h;exact SeqAt.EqAt.bool_str _ _ _
   | tup ys=>obtain ⟨a,i,e,l⟩:=bz I h2;subst e;cases r2;simp [eqD] at h;subst h;exact SeqAt.EqAt.bool_tuple _ l hu0
   | ref k=>
    simp only [eqD] at h
    cases hs:au S k with
    | none=>rw [hs] at h;cases h
    | some es=>rw [hs] at h;cases h;obtain ⟨a,i,e,l⟩:=bo I R h2 hs;subst e;cases r2;exact SeqAt.EqAt.bool_list _ l hu0
  | int i=>
   cases h1.ints;obtain ⟨t1,rfl⟩:=r1
   cases y with
   | non=>cases h2.nons;cases r2;simp [eqD] at h;subst h;exact SeqAt.EqAt.int_none _ _
   | bl j=>cases h2.bls;cases r2;simp only [eqD] at h;cases h;exact SeqAt.EqAt.int_bool _ _ _
   | int j=>cases h2.ints;obtain ⟨t,rfl⟩:=r2;simp only [eqD] at h;cases h;exact SeqAt.EqAt.int_int _ _ _ _
   | str j=>cases h2.strs;obtain ⟨t,rfl⟩:=r2;simp [eqD] at h;subst h;exact SeqAt.EqAt.int_str _ _ _ _
   | tup ys=>obtain ⟨a,i,e,l⟩:=bz I h2;subst e;cases r2;simp [eqD] at h;subst h;exact SeqAt.EqAt.int_tuple _ _ l hu0
   | ref k=>
    simp only [eqD] at h
    cases hs:au S k with
    | none=>rw [hs] at h;cases h
    | some es=>rw [hs] at h;cases h;obtain ⟨a,i,e,l⟩:=bo I R h2 hs;subst e;cases r2;exact SeqAt.EqAt.int_list _ _ l hu0
  | str i=>
   cases h1.strs;obtain ⟨t1,rfl⟩:=r1
   cases y with
   | non=>cases h2.nons;cases r2;simp [eqD] at h;subst h;exact SeqAt.EqAt.str_none _ _
   | bl j=>cases h2.bls;cases r2;simp [eqD] at h;subst h;exact SeqAt.EqAt.str_bool _ _ _
   | int j=>cases h2.ints;obtain ⟨t,rfl⟩:=r2;simp [eqD] at h;subst h;exact SeqAt.EqAt.str_int _ _ _ _
   | str j=>cases h2.strs;obtain ⟨t,rfl⟩:=r2;simp only [eqD] at h;cases h;exact SeqAt.EqAt.str_str _ _ _ _
   | tup ys=>obtain ⟨a,i,e,l⟩:=bz I h2;subst e;cases r2;simp [eqD] at h;subst h;exact SeqAt.EqAt.str_tuple _ _ l hu0
   | ref k=>
    simp only [eqD] at h
    cases hs:au S k with
    | none=>rw [hs] at h;cases h
    | some es=>rw [hs] at h;cases h;obtain ⟨a,i,e,l⟩:=bo I R h2 hs;subst e;cases r2;exact SeqAt.EqAt.str_list _ _ l hu0
  | tup xs=>
   obtain ⟨a,i,e,l⟩:=bz I h1
   subst e;cases r1
   cases y with
   | non=>cases h2.nons;cases r2;simp [eqD] at h;subst h;exact SeqAt.EqAt.tuple_none l hu0
   | bl j=>cases h2.bls;cases r2;simp [eqD] at h;subst h;exact SeqAt.EqAt.tuple_bool _ l hu0
   | int j=>cases h2.ints;obtain ⟨t,rfl⟩:=r2;simp [eqD] at h;subst h;exact SeqAt.EqAt.tuple_int _ _ l hu0
   | str j=>cases h2.strs;obtain ⟨t,rfl⟩:=r2;simp [eqD] at h;subst h;exact SeqAt.EqAt.tuple_str _ _ l hu0
   | tup ys=>obtain ⟨a',i',e',l'⟩:=bz I h2;exact seq rfl e'
   | ref k=>obtain ⟨c,hc,ec⟩:=h2.refs;exact seq rfl ec
  | ref k=>
   obtain ⟨c,hc,ec⟩:=h1.refs
   cases y with
   | tup ys=>obtain ⟨a',i',e',l'⟩:=bz I h2;exact seq ec e'
   | ref k=>obtain ⟨c,hc,ec'⟩:=h2.refs;exact seq ec ec'
   | non=>
    simp only [eqD] at h
    cases hs:au S k with
    | none=>rw [hs] at h;cases h
    | some es=>rw [hs] at h;cases h;obtain ⟨a,i,e,l⟩:=bo I R h1 hs;subst e;cases r1;cases h2.nons;cases r2;exact SeqAt.EqAt.list_none l hu0
   | bl j=>
    simp only [eqD] at h
    cases hs:au S k with
    | none=>rw [hs] at h;cases h
    | some es=>rw [hs] at h;cases h;obtain ⟨a,i,e,l⟩:=bo I R h1 hs;subst e;cases r1;cases h2.bls;cases r2;exact SeqAt.EqAt.list_bool _ l hu0
   | int j=>
    simp only [eqD] at h
    cases hs:au S k with
    | none=>rw [hs] at h;cases h
    | some es=>rw [hs] at h;cases h;obtain ⟨a,i,e,l⟩:=bo I R h1 hs;subst e;cases r1;cases h2.ints;obtain ⟨t,rfl⟩:=r2;exact SeqAt.EqAt.list_int _ _ l hu0
   | str j=>
    simp only [eqD] at h
    cases hs:au S k with
    | none=>rw [hs] at h;cases h
    | some es=>rw [hs] at h;cases h;obtain ⟨a,i,e,l⟩:=bo I R h1 hs;subst e;cases r1;cases h2.strs;obtain ⟨t,rfl⟩:=r2;exact SeqAt.EqAt.list_str _ _ l hu0
theorem I8 {pins:List (Addr × Obj)} {σ:L2.St} {s:Shared} (I:Inv X pins σ H s) (R:Rel X.K m S H) (n:Nat) {A:Around} {x y:D} {v w:V} {u u':Value} {b:Bool} (h1:VD X.K m H x v) (h2:VD X.K m H y w) (r1:aN v u) (r2:aN w u') (h:eqD (n+1) S x y=some b) (hu:A.units+(n+1) < cLine) :
  SeqAt.RcAt A s u u' b/\PySem.SeqAt.RcNeAt A s u u' (!b):=by
 have hu0:A.units < cLine:=by omega
 have seq:∀ {a a':Addr},v = .ref a->w = .ref a'->SeqAt.RcAt A s u u' b/\PySem.SeqAt.RcNeAt A s u u' (!b):=by
  intro a a' e e'
  subst e e'
  cases r1;cases r2
  exact xa I R (xc I R n) h1 h2 h hu
 cases x with
 | non=>
  cases h1.nons;cases r1
  cases y with
  | non=>cases h2.nons;cases r2;simp [eqD] at h;subst h;exact ⟨SeqAt.RcAt.none_none,PySem.SeqAt.RcNeAt.none_none⟩
  | bl j=>cases h2.bls;cases r2;simp [eqD] at h;subst h;exact ⟨SeqAt.RcAt.none_bool _,PySem.SeqAt.RcNeAt.none_bool _⟩
  | int j=>cases h2.ints;obtain ⟨t2,rfl⟩:=r2;simp [eqD] at h;subst h;exact ⟨SeqAt.RcAt.none_int _ _,PySem.SeqAt.RcNeAt.none_int _ _⟩
  | str j=>cases h2.strs;obtain ⟨t2,rfl⟩:=r2;simp [eqD] at h;subst h;exact ⟨SeqAt.RcAt.none_str _ _,PySem.SeqAt.RcNeAt.none_str _ _⟩
  | tup ys=>obtain ⟨a,i,e,l⟩:=bz I h2;subst e;cases r2;simp [eqD] at h;subst h;exact ⟨SeqAt.RcAt.none_tuple l hu0,PySem.SeqAt.RcNeAt.none_tuple l hu0⟩
  | ref k=>
   simp only [eqD] at h
   cases hs:au S k with
   | none=>rw [hs] at h;cases h
   | some es=>rw [hs] at h;cases h;obtain ⟨a,i,e,l⟩:=bo I R h2 hs;subst e;cases r2;exact ⟨SeqAt.RcAt.none_list l hu0,PySem.SeqAt.RcNeAt.none_list l hu0⟩
 | bl i=>
  cases h1.bls;cases r1
  cases y with
  | non=>cases h2.nons;cases r2;simp [eqD] at h;subst h;exact ⟨SeqAt.RcAt.bool_none _,PySem.SeqAt.RcNeAt.bool_none _⟩
  | bl j=>cases h2.bls;cases r2;simp only [eqD] at h;cases h;exact ⟨SeqAt.RcAt.bool_bool _ _,PySem.SeqAt.RcNeAt.bool_bool _ _⟩
  | int j=>cases h2.ints;obtain ⟨t2,rfl⟩:=r2;simp only [eqD] at h;cases h;exact ⟨SeqAt.RcAt.bool_int _ _ _,PySem.SeqAt.RcNeAt.bool_int _ _ _⟩
  | str j=>cases h2.strs;obtain ⟨t2,rfl⟩:=r2;simp [eqD] at h;subst h;exact ⟨SeqAt.RcAt.bool_str _ _ _,PySem.SeqAt.RcNeAt.bool_str _ _ _⟩
  | tup ys=>obtain ⟨a,i,e,l⟩:=bz I h2;subst e;cases r2;simp [eqD] at h;subst h;exact ⟨SeqAt.RcAt.bool_tuple _ l hu0,PySem.SeqAt.RcNeAt.bool_tuple _ l hu0⟩
  | ref k=>
   simp only [eqD] at h
   cases hs:au S k with
   | none=>rw [hs] at h;cases h
   | some es=>rw [hs] at h;cases h;obtain ⟨a,i,e,l⟩:=bo I R h2 hs;subst e;cases r2;exact ⟨SeqAt.RcAt.bool_list _ l hu0,PySem.SeqAt.RcNeAt.bool_list _ l hu0⟩
 | int i=>
  cases h1.ints;obtain ⟨t1,rfl⟩:=r1
  cases y with
  | non=>cases h2.nons;cases r2;simp [eqD] at h;subst h;exact ⟨SeqAt.RcAt.int_none _ _,PySem.SeqAt.RcNeAt.int_none _ _⟩
  | bl j=>cases h2.bls;cases r2;simp only [eqD] at h;cases h;exact ⟨SeqAt.RcAt.int_bool _ _ _,PySem.SeqAt.RcNeAt.int_bool _ _ _⟩
  | int j=>cases h2.ints;obtain ⟨t2,rfl⟩:=r2;simp only [eqD] at h;cases h;exact ⟨SeqAt.RcAt.int_int _ _ _ _,PySem.SeqAt.RcNeAt.int_int _ _ _ _⟩
  | str j=>cases h2.strs;obtain ⟨t2,rfl⟩:=r2;simp [eqD] at h;subst h;exact ⟨SeqAt.RcAt.int_str _ _ _ _,PySem.SeqAt.RcNeAt.int_str _ _ _ _⟩
  | tup ys=>obtain ⟨a,i,e,l⟩:=bz I h2;subst e;cases r2;simp [eqD] at h;subst h;exact ⟨SeqAt.RcAt.int_tuple _ _ l hu0,PySem.SeqAt.RcNeAt.int_tuple _ _ l hu0⟩
  | ref k=>
   simp only [eqD] at h
   cases hs:au S k with
   | none=>rw [hs] at h;cases h
   | some es=>rw [hs] at h;cases h;obtain ⟨a,i,e,l⟩:=bo I R h2 hs;subst e;cases r2;exact ⟨SeqAt.RcAt.int_list _ _ l hu0,PySem.SeqAt.RcNeAt.int_list _ _ l hu0⟩
 | str i=>
  cases h1.strs;obtain ⟨t1,rfl⟩:=r1
  cases y with
  | non=>cases h2.nons;cases r2;simp [eqD] at h;subst h;exact ⟨SeqAt.RcAt.str_none _ _,PySem.SeqAt.RcNeAt.str_none _ _⟩
  | bl j=>cases h2.bls;cases r2;simp [eqD] at h;subst h;exact ⟨SeqAt.RcAt.str_bool _ _ _,PySem.SeqAt.RcNeAt.str_bool _ _ _⟩
  | int j=>cases h2.ints;obtain ⟨t2,rfl⟩:=r2;simp [eqD] at h;subst h;exact ⟨SeqAt.RcAt.str_int _ _ _ _,PySem.SeqAt.RcNeAt.str_int _ _ _ _⟩
  | str j=>cases h2.strs;obtain ⟨t2,rfl⟩:=r2;simp only [eqD] at h;cases h;exact ⟨SeqAt.RcAt.str_str _ _ _ _,PySem.SeqAt.RcNeAt.str_str _ _ _ _⟩
  | tup ys=>obtain ⟨a,i,e,l⟩:=bz I h2;subst e;cases r2;simp [eqD] at h;subst h;exact ⟨SeqAt.RcAt.str_tuple _ _ l hu0,PySem.SeqAt.RcNeAt.str_tuple _ _ l hu0⟩
  | ref k=>
   simp only [eqD] at h
   cases hs:au S k with
   | none=>rw [hs] at h;cases h
   | some es=>rw [hs] at h;cases h;obtain ⟨a,i,e,l⟩:=bo I R h2 hs;subst e;cases r2;exact ⟨SeqAt.RcAt.str_list _ _ l hu0,PySem.SeqAt.RcNeAt.str_list _ _ l hu0⟩
 | tup xs=>
  obtain ⟨a,i,e,l⟩:=bz I h1
  cases y with
  | non=>subst e;cases r1;cases h2.nons;cases r2;simp [eqD] at h;subst h;exact ⟨SeqAt.RcAt.tuple_none l hu0,PySem.SeqAt.RcNeAt.tuple_none l hu0⟩
  | bl j=>subst e;cases r1;cases h2.bls;cases r2;simp [eqD] at h;subst h;exact ⟨SeqAt.RcAt.tuple_bool _ l hu0,PySem.SeqAt.RcNeAt.tuple_bool _ l hu0⟩
  | int j=>subst e;cases r1;cases h2.ints;obtain ⟨t2,rfl⟩:=r2;simp [eqD] at h;subst h;exact ⟨SeqAt.RcAt.tuple_int _ _ l hu0,PySem.SeqAt.RcNeAt.tuple_int _ _ l hu0⟩
  | str j=>subst e;cases r1;cases h2.strs;obtain ⟨t2,rfl⟩:=r2;simp [eqD] at h;subst h;exact ⟨SeqAt.RcAt.tuple_str _ _ l hu0,PySem.SeqAt.RcNeAt.tuple_str _ _ l hu0⟩
  | tup ys=>obtain ⟨a',i',e',l'⟩:=bz I h2;exact seq e e'
  | ref k=>obtain ⟨c,hc,ec⟩:=h2.refs;exact seq e ec
 | ref k=>
  obtain ⟨c,hc,ec⟩:=h1.refs
  cases y with
  | tup ys=>obtain ⟨a',i',e',l'⟩:=bz I h2;exact seq ec e'
  | ref k=>obtain ⟨c,hc,ec'⟩:=h2.refs;exact seq ec ec'
  | non=>
   simp only [eqD] at h
   cases hs:au S k with
   | none=>rw [hs] at h;cases h
   | some es=>rw [hs] at h;cases h;obtain ⟨a,i,e,l⟩:=bo I R h1 hs;subst e;cases r1;cases h2.nons;cases r2;exact ⟨SeqAt.RcAt.list_none l hu0,PySem.SeqAt.RcNeAt.list_none l hu0⟩
  | bl j=>
   simp only [eqD] at h
   cases hs:au S k with
   | none=>rw [hs] at h;cases h
   | some es=>rw [hs] at h;cases h;obtain ⟨a,i,e,l⟩:=bo I R h1 hs;subst e;cases r1;cases h2.bls;cases r2;exact ⟨SeqAt.RcAt.list_bool _ l hu0,PySem.SeqAt.RcNeAt.list_bool _ l hu0⟩
  | int j=>
   simp only [eqD] at h
   cases hs:au S k with
   | none=>rw [hs] at h;cases h
   | some es=>rw [hs] at h;cases h;obtain ⟨a,i,e,l⟩:=bo I R h1 hs;subst e;cases r1;cases h2.ints;obtain ⟨t2,rfl⟩:=r2;exact ⟨SeqAt.RcAt.list_int _ _ l hu0,PySem.SeqAt.RcNeAt.list_int _ _ l hu0⟩
  | str j=>
   simp only [eqD] at h
   cases hs:au S k with
   | none=>rw [hs] at h;cases h
   | some es=>rw [hs] at h;cases h;obtain ⟨a,i,e,l⟩:=bo I R h1 hs;subst e;cases r1;cases h2.strs;obtain ⟨t2,rfl⟩:=r2;exact ⟨SeqAt.RcAt.list_str _ _ l hu0,PySem.SeqAt.RcNeAt.list_str _ _ l hu0⟩
noncomputable def eqS (x y:D) (S:Sto):Option (D × Sto):=(eqD 60 S x y).map fun b=>(.bl b,S)
noncomputable def neS (x y:D) (S:Sto):Option (D × Sto):=(eqD 60 S x y).map fun b=>(.bl (!b),S)
theorem EI (hu:X.A.units+64 < cLine):OpR X (compareOp .Eq) (rS X.K eqS):=by
 intro pins s σ H x y v u Q I rx ry h
 obtain ⟨m,S,a,b,d,S',R,va,vb,e,q⟩:=h
 unfold eqS at e
 cases he:eqD 60 S a b with
 | none=>rw [he] at e;cases e
 | some c=>
  rw [he] at e
  cases e
  exact (I8 I R 59 va vb rx ry he (by omega)).1 _ _ _ _ ⟨.bl c,H,I,rfl,q m H _ (Aft.refl R) cz⟩
theorem EJ (hu:X.A.units+64 < cLine):OpR X (compareOp .NotEq) (rS X.K neS):=by
 intro pins s σ H x y v u Q I rx ry h
 obtain ⟨m,S,a,b,d,S',R,va,vb,e,q⟩:=h
 unfold neS at e
 cases he:eqD 60 S a b with
 | none=>rw [he] at e;cases e
 | some c=>
  rw [he] at e
  cases e
  exact (I8 I R 59 va vb rx ry he (by omega)).2 _ _ _ _ ⟨.bl (!c),H,I,rfl,q m H _ (Aft.refl R) cz⟩
end
end Ev
namespace Ev
open PySem PySem.Spec PyProof.Rows L2
noncomputable def EK (a b:Nat) (S:Sto):Option (D × Sto):=match S[a]? with
 | some (.lst xs)=>(match S[b]? with
  | some (.lst ys)=>if xs.length+ys.length<=100000 then some (.ref S.length,S++[.lst (xs++ys)]) else none
  | _=>none)
 | _=>none
noncomputable def jL:D->D->Sto->Option (D × Sto)
 | .int i,.int j,S=>some (.int (i+j),S)
 | .tup xs,.tup ys,S=>if xs.length+ys.length<=1000 then some (.tup (xs++ys),S) else none
 | .ref a,.ref b,S=>EK a b S
 | .str x,.str y,S=>if x.length+y.length<=100000 then some (.str (x++y),S) else none
 | _,_,_=>none
noncomputable def Ja:D->D->Sto->Option (D × Sto)
 | .int i,.int j,S=>some (.int (i - j),S)
 | _,_,_=>none
noncomputable def ig (i j:Int):Bool:=(decide (-(2 ^ 64) < i) && decide (i < 2 ^ 64)) || (decide (-(2 ^ 64) < j) && decide (j < 2 ^ 64))
noncomputable def uJ:D->D->Sto->Option (D × Sto)
 | .int i,.int j,S=>if ig i j=true then some (.int (i * j),S) else none
 | _,_,_=>none
noncomputable def EL:D->D->Sto->Option (D × Sto)
 | .int i,.int j,S=>if 0 < j then some (.int (i % j),S) else none
 | _,_,_=>none
noncomputable def xf:D->D->Sto->Option (D × Sto)
 | .int i,.int j,S=>if 0 < j/\j < 1073741824 then some (.int (i / j),S) else none
 | _,_,_=>none
noncomputable def EM:D->D->Sto->Option (D × Sto)
 | .int i,.int j,S=>if 0<=j/\j<=1000000/\i.natAbs < 2 ^ 64 then some (.int (i ^ j.toNat),S) else none
 | _,_,_=>none
inductive BOp where | add | sub | mul | mod | fdiv | pow
noncomputable def bI:BOp->D->D->Sto->Option (D × Sto)
 | .add=>jL | .sub=>Ja | .mul=>uJ | .mod=>EL | .fdiv=>xf | .pow=>EM
noncomputable def BOp.op:BOp->Operator
 | .add=>.Add | .sub=>.Sub | .mul=>.Mult | .mod=>.Mod | .fdiv=>.FloorDiv | .pow=>.Pow
section
variable {X:Cx} {K:PySem.W.Frag} {m:List Addr} {H:Hp} {S:Sto}
theorem fQ {op:Operator} {f:D->D->Sto->Option (D × Sto)} {C:Int->Int->Prop} {g:Int->Int->Int} (ho:OpR X (binaryOp op) (rI C fun i j=>.int (g i j)))
  (hf:∀ a b S d S',f a b S=some (d,S')->∃ i j,a = .int i/\b = .int j/\C i j/\d = .int (g i j)/\S'=S):OpR X (binaryOp op) (rS X.K f):=by
 refine OpR.imp ho fun x y H Q h=>?_
 obtain ⟨m,S,a,b,d,S',R,va,vb,e,q⟩:=h
 obtain ⟨i,j,rfl,rfl,c,rfl,rfl⟩:=hf _ _ _ _ _ e
 exact ⟨i,j,va.ints,vb.ints,c,q m H _ (Aft.refl R) bq⟩
theorem qQ:OpR X (binaryOp .Add) (fun x y H Q=>∃ m S xs ys,Rel X.K m S H/\VD X.K m H (.tup xs) x/\VD X.K m H (.tup ys) y/\xs.length+ys.length<=1000/\∀ m' H' u,Aft X.K m H S m' H'->VD X.K m' H' (.tup (xs++ys)) u->Q u H'):=by
 refine OpR.imp Aa fun x y H Q h=>?_
 obtain ⟨m,S,xs,ys,R,va,vb,hl,q⟩:=h
 obtain ⟨a,vs,rfl,sa,da⟩:=va.tups
 obtain ⟨b,ws,rfl,sb,db⟩:=vb.tups
 have l1:=da.length
 have l2:=db.length
 refine ⟨a,b,vs,ws,rfl,rfl,.of sa,.of sb,km (by omega),fun e=>?_,fun _ e=>?_,fun _ _=>jQ R (da.append db) q⟩
 ·subst e
  have e:xs=[]:=List.length_eq_zero_iff.mp (by simpa using l1)
  subst e
  exact q m H _ (Aft.refl R) vb
 ·subst e
  have e:ys=[]:=List.length_eq_zero_iff.mp (by simpa using l2)
  subst e
  rw [List.append_nil] at q
  exact q m H _ (Aft.refl R) va
theorem Ao:OpR X (binaryOp .Add) (rS X.K jL):=by
 refine OpR.imp (OpR.or D4 (OpR.or qQ (OpR.or qx Em))) fun x y H Q h=>?_
 obtain ⟨m,S,a,b,d,S',R,va,vb,e,q⟩:=h
 cases a with
 | int i=>
  cases b with
  | int j=>cases e;exact .inl ⟨i,j,va.ints,vb.ints,q m H _ (Aft.refl R) bq⟩
  | _=>simp [jL] at e
 | tup xs=>
  cases b with
  | tup ys=>
   simp only [jL] at e
   split at e
   ·rename_i hl
    cases e
    exact .inr (.inl ⟨m,S,xs,ys,R,va,vb,hl,q⟩)
   ·cases e
  | _=>simp [jL] at e
 | str i=>
  cases b with
  | str j=>
   simp only [jL] at e
   split at e
   ·rename_i hl
    cases e
    exact .inr (.inr (.inl ⟨i,j,va.strs,vb.strs,by rw [sizeLine_eq];omega,q m H _ (Aft.refl R) nz⟩))
   ·cases e
  | _=>simp [jL] at e
 | ref i=>
  cases b with
  | ref j=>
   simp only [jL,EK] at e
   split at e
   ·rename_i xs hx
    split at e
    ·rename_i ys hy
     split at e
     ·rename_i hl
      cases e
      obtain ⟨a,vs,ha,hH,q1⟩:=R.lst hx
      obtain ⟨c,ws,hc,hG,q2⟩:=R.lst hy
      obtain ⟨a',ha',e1⟩:=va.refs
      obtain ⟨c',hc',e2⟩:=vb.refs
      rw [ha] at ha'
      cases ha'
      rw [hc] at hc'
      cases hc'
      exact .inr (.inr (.inr ⟨a,c,vs,ws,e1,e2,hH,hG,by rw [sizeLine_eq,<-q1.length,<-q2.length];omega,sU R (q1.append q2) q⟩))
     ·cases e
    ·cases e
   ·cases e
  | _=>simp [jL] at e
 | _=>cases b <;> simp [jL] at e
theorem Ap:OpR X (binaryOp .Mult) (rS X.K uJ):=by
 refine OpR.imp D6 fun x y H Q h=>?_
 obtain ⟨m,S,a,b,d,S',R,va,vb,e,q⟩:=h
 cases a with
 | int i=>
  cases b with
  | int j=>
   simp only [uJ] at e
   split at e
   ·rename_i hc
    cases e
    simp only [ig,Bool.or_eq_true,bAE,decide_eq_true_eq] at hc
    exact ⟨i,j,va.ints,vb.ints,hc,q m H _ (Aft.refl R) bq⟩
   ·cases e
  | _=>simp [uJ] at e
 | _=>cases b <;> simp [uJ] at e
theorem Aq (o:BOp):OpR X (binaryOp o.op) (rS X.K (bI o)):=by
 cases o with
 | add=>exact Ao
 | sub=>
  refine fQ (C:=fun _ _=>True) (g:=fun i j=>i - j) (OpR.imp D5 fun x y H Q ⟨i,j,a,b,_,q⟩=>⟨i,j,a,b,q⟩) fun a b S d S' e=>?_
  cases a <;> cases b <;> simp [bI,Ja] at e
  exact ⟨_,_,rfl,rfl,trivial,e.1.symm,e.2.symm⟩
 | mul=>exact Ap
 | mod=>
  refine fQ D7 fun a b S d S' e=>?_
  cases a <;> cases b <;> simp [bI,EL] at e
  rename_i i j
  exact ⟨i,j,rfl,rfl,e.1,e.2.1.symm,e.2.2.symm⟩
 | fdiv=>
  refine fQ zJ fun a b S d S' e=>?_
  cases a <;> cases b <;> simp [bI,xf] at e
  rename_i i j
  exact ⟨i,j,rfl,rfl,e.1,e.2.1.symm,e.2.2.symm⟩
 | pow=>
  refine fQ D8 fun a b S d S' e=>?_
  cases a <;> cases b <;> simp [bI,EM] at e
  rename_i i j
  exact ⟨i,j,rfl,rfl,e.1,e.2.1.symm,e.2.2.symm⟩
noncomputable def uK (p:Int->Int->Bool):D->D->Sto->Option (D × Sto)
 | .int i,.int j,S=>some (.bl (p i j),S)
 | _,_,_=>none
noncomputable def o9:D->Bool
 | .non=>true
 | _=>false
noncomputable def isB (neg:Bool):D->D->Sto->Option (D × Sto)
 | d,.non,S=>some (.bl (neg != o9 d),S)
 | .bl a,.bl b,S=>some (.bl (neg != (a == b)),S)
 | _,_,_=>none
noncomputable def cj:D->Bool
 | .non=>true | .bl _=>true | .int _=>true | .str _=>true | _=>false
noncomputable def eqF:D->D->Bool
 | .non,.non=>true
 | .bl a,.bl b=>a == b
 | .bl a,.int b=>(if a then 1 else 0) == b
 | .int a,.bl b=>a == (if b then 1 else 0)
 | .int a,.int b=>a == b
 | .str a,.str b=>a == b
 | _,_=>false
noncomputable def inF (x:D) (ds:List D):Bool:=ds.any fun y=>eqF y x
noncomputable def inS (neg:Bool) (x y:D) (S:Sto):Option (D × Sto):=match aq y S with
 | some (_,ds)=>if cj x=true/\ds.all cj=true then some (.bl (neg != inF x ds),S) else none
 | none=>none
inductive COp where | eq | ne | lt | le | gt | ge | is | isnot | isin | notin
noncomputable def ay:COp->D->D->Sto->Option (D × Sto)
 | .eq=>eqS | .ne=>neS
 | .lt=>uK fun i j=>decide (i < j) | .le=>uK fun i j=>decide (i<=j) | .gt=>uK fun i j=>decide (j < i) | .ge=>uK fun i j=>decide (j<=i)
 | .is=>isB false | .isnot=>isB true | .isin=>inS false | .notin=>inS true
noncomputable def COp.op:COp->CmpOp
 | .eq=>.Eq | .ne=>.NotEq | .lt=>.Lt | .le=>.LtE | .gt=>.Gt | .ge=>.GtE | .is=>.Is | .isnot=>.IsNot | .isin=>.In | .notin=>.NotIn
theorem dX {op:CmpOp} {p:Int->Int->Bool} (ho:OpR X (compareOp op) (rI0 fun i j=>.bl (p i j))):OpR X (compareOp op) (rS X.K (uK p)):=by
 refine OpR.imp ho fun x y H Q h=>?_
 obtain ⟨m,S,a,b,d,S',R,va,vb,e,q⟩:=h
 cases a <;> cases b <;> simp [uK] at e
 obtain ⟨rfl,rfl⟩:=e
 exact ⟨_,_,va.ints,vb.ints,q m H _ (Aft.refl R) cz⟩
theorem jR {x:D} {v:V} (h:VD K m H x v) (f:cj x=true):dF v=true:=by
 cases x <;> simp [cj] at f
 ·cases h.nons;rfl
 ·cases h.bls;rfl
 ·cases h.ints;rfl
 ·cases h.strs;rfl
theorem xg {x y:D} {v w:V} (h:VD K m H x v) (f:cj x=true) (h':VD K m H y w) (f':cj y=true):eqV v w=eqF x y:=by
 cases x <;> simp [cj] at f <;> cases y <;> simp [cj] at f' <;> simp [VD] at h h' <;> subst h <;> subst h' <;> rfl
theorem ik:∀ {ds:List D} {vs:List V},VDs K m H ds vs->ds.all cj=true->vs.all dF=true
 | [],vs,h,_=>by rw [VDs] at h;rw [h];rfl
 | d::ds,vs,h,f=>by
  rw [VDs] at h
  obtain ⟨x,r,rfl,p,q⟩:=h
  rw [List.all_cons,bAE] at f
  rw [List.all_cons,jR p f.1,ik q f.2];rfl
theorem qR {x:D} {v:V} (h:VD K m H x v) (f:cj x=true):∀ {ds:List D} {vs:List V},VDs K m H ds vs->ds.all cj=true->inV v vs=inF x ds
 | [],vs,h,_=>by rw [VDs] at h;rw [h];rfl
 | d::ds,vs,h',f'=>by
  rw [VDs] at h'
  obtain ⟨y,r,rfl,p,q⟩:=h'
  rw [List.all_cons,bAE] at f'
  have ih:=qR h f q f'.2
  unfold inV inF at ih ⊢
  rw [List.any_cons,List.any_cons,xg p f'.1 h f,ih]
theorem mw {x:D} {v:V} (h:VD K m H x v) (f:cj x=true):∀ {ds:List D} {vs:List V},VDs K m H ds vs->ds.all cj=true->(vs.countP fun z=>eqV z v)=ds.countP fun z=>eqF z x
 | [],vs,h,_=>by rw [VDs] at h;rw [h];rfl
 | d::ds,vs,h',f'=>by
  rw [VDs] at h'
  obtain ⟨y,r,rfl,p,q⟩:=h'
  rw [List.all_cons,bAE] at f'
  rw [List.countP_cons,List.countP_cons,xg p f'.1 h f,mw h f q f'.2]
theorem qS {tu:Bool} {a:Addr} {vs:List V} (h:SqB K tu H a vs):SqL K H a vs\/SqT K H a vs:=by
 cases tu with
 | false=>exact .inl h
 | true=>exact .inr (.of h)
theorem EN:OpR X (compareOp .In) (rS X.K (inS false)):=by
 refine OpR.imp uu fun x y H Q h=>?_
 obtain ⟨m,S,a,b,d,S',R,va,vb,e,q⟩:=h
 unfold inS at e
 split at e
 ·rename_i tu ds hi
  split at e
  ·rename_i hf
   cases e
   obtain ⟨p,vs,rfl,sq,vds⟩:=fh R vb hi
   refine ⟨p,vs,rfl,qS sq,jR va hf.1,ik vds hf.2,q m H _ (Aft.refl R) ?_⟩
   rw [if_neg (by decide),qR va hf.1 vds hf.2]
   simpa using cz
  ·cases e
 ·cases e
theorem uL:OpR X (compareOp .NotIn) (rS X.K (inS true)):=by
 refine OpR.imp m7 fun x y H Q h=>?_
 obtain ⟨m,S,a,b,d,S',R,va,vb,e,q⟩:=h
 unfold inS at e
 split at e
 ·rename_i tu ds hi
  split at e
  ·rename_i hf
   cases e
   obtain ⟨p,vs,rfl,sq,vds⟩:=fh R vb hi
   refine ⟨p,vs,rfl,qS sq,jR va hf.1,ik vds hf.2,q m H _ (Aft.refl R) ?_⟩
   rw [if_pos rfl,qR va hf.1 vds hf.2]
   simpa using cz
  ·cases e
 ·cases e
theorem xh {d:D} {v:V} (h:VD K m H d v):decide (v=V.non)=o9 d:=by
 cases d with
 | non=>cases h.nons;rfl
 | bl _=>cases h.bls;rfl
 | int _=>cases h.ints;rfl
 | str _=>cases h.strs;rfl
 | tup _=>obtain ⟨_,_,e,_⟩:=h.tups;subst e;rfl
 | ref _=>obtain ⟨_,_,e⟩:=h.refs;subst e;rfl
theorem EO:OpR X (compareOp .Is) (rS X.K (isB false)):=by
 refine OpR.imp (OpR.or Ea Eo) fun x y H Q h=>?_
 obtain ⟨m,S,a,b,d,S',R,va,vb,e,q⟩:=h
 cases b with
 | non=>
  simp [isB] at e
  obtain ⟨rfl,rfl⟩:=e
  exact .inl ⟨vb.nons,q m H _ (Aft.refl R) (by rw [xh va];exact cz)⟩
 | bl j=>
  cases a with
  | bl i=>
   simp [isB] at e
   obtain ⟨rfl,rfl⟩:=e
   exact .inr ⟨i,j,va.bls,vb.bls,q m H _ (Aft.refl R) cz⟩
  | _=>simp [isB] at e
 | _=>cases a <;> simp [isB] at e
theorem uM:OpR X (compareOp .IsNot) (rS X.K (isB true)):=by
 refine OpR.imp (OpR.or zK uA) fun x y H Q h=>?_
 obtain ⟨m,S,a,b,d,S',R,va,vb,e,q⟩:=h
 cases b with
 | non=>
  simp [isB] at e
  obtain ⟨rfl,rfl⟩:=e
  exact .inl ⟨vb.nons,q m H _ (Aft.refl R) (by rw [xh va];exact cz)⟩
 | bl j=>
  cases a with
  | bl i=>
   simp [isB] at e
   obtain ⟨rfl,rfl⟩:=e
   exact .inr ⟨i,j,va.bls,vb.bls,q m H _ (Aft.refl R) (by simpa [bne] using cz)⟩
  | _=>simp [isB] at e
 | _=>cases a <;> simp [isB] at e
theorem fR (hu:X.A.units+64 < cLine) (o:COp):OpR X (compareOp o.op) (rS X.K (ay o)):=by
 cases o with
 | eq=>exact EI hu
 | ne=>exact EJ hu
 | lt=>exact dX IK
 | le=>exact dX IL
 | gt=>exact dX IM
 | ge=>exact dX IO
 | is=>exact EO
 | isnot=>exact uM
 | isin=>exact EN
 | notin=>exact uL
end
end Ev
namespace Ev
open PySem PySem.Spec PyProof.Rows L2
section
variable {X:Cx} {K:PySem.W.Frag} {m:List Addr} {H:Hp} {S:Sto}
noncomputable def ixS (d i:D) (S:Sto):Option (D × Sto):=match i with
 | .int k=>(match d with
  | .str z=>if z.length<=100000 then (atI z.cps.toList k).map fun c=>(.str ⟨#[c]⟩,S) else none
  | d=>(match aq d S with
   | some (_,ds)=>(atI ds k).map fun x=>(x,S)
   | none=>none))
 | _=>none
theorem ER {ds:List D} {vs:List V} {k:Int} {d:D} (h:VDs K m H ds vs) (e:atI ds k=some d):∃ v,atI vs k=some v/\VD K m H d v:=by
 unfold atI at e ⊢
 rw [<-h.length]
 cases hi:ixN ds.length k with
 | none=>rw [hi] at e;cases e
 | some j=>
  rw [hi] at e
  exact h.get e
theorem xi {ds:List D} {tu:Bool} {a:Addr} {vs:List V} {k:Int} {d:D} {Q:VK} (sq:SqB K tu H a vs) (vd:VDs K m H ds vs) (e:atI ds k=some d) (q:∀ v,VD K m H d v->Q v H):rIx K (.ref a) (.int k) H Q:=by
 obtain ⟨v,ev,vv⟩:=ER vd e
 cases tu with
 | false=>exact .inl ⟨a,vs,k,v,rfl,rfl,sq,ev,q v vv⟩
 | true=>exact .inr (.inl ⟨a,vs,k,v,rfl,rfl,.of sq,ev,q v vv⟩)
theorem K7:IxR X (rS X.K ixS):=by
 intro value slice pins s σ H x y v u Q I rx ry h hs
 refine wn value slice pins s σ H x y v u Q I rx ry ?_ hs
 obtain ⟨m,S,a,b,d,S',R,va,vb,e,q⟩:=h
 cases b with
 | int k=>
  cases vb.ints
  have main:∀ r,aq a S=some r->(atI r.2 k).map (fun x=>(x,S))=some (d,S')->rIx X.K x (.int k) H Q:=by
   intro r hi e
   cases ha:atI r.2 k with
   | none=>rw [ha] at e;cases e
   | some z=>
    rw [ha] at e
    cases e
    obtain ⟨p,vs,rfl,sq,vds⟩:=fh (tu:=r.1) (ds:=r.2) R va hi
    exact xi sq vds ha fun v vv=>q m H v (Aft.refl R) vv
  cases a with
  | str z=>
   simp only [ixS] at e
   split at e
   ·rename_i hl
    cases hc:atI z.cps.toList k with
    | none=>rw [hc] at e;cases e
    | some c=>
     rw [hc] at e
     cases e
     exact .inr (.inr ⟨z,k,c,va.strs,rfl,by rw [sizeLine_eq];omega,hc,q m H _ (Aft.refl R) nz⟩)
   ·cases e
  | tup ds=>exact main (true,ds) rfl e
  | ref n=>
   simp only [ixS] at e
   cases hi:aq (.ref n) S with
   | none=>rw [hi] at e;cases e
   | some r=>rw [hi] at e;exact main r hi e
  | _=>simp [ixS,aq] at e
 | _=>simp [ixS] at e
noncomputable def qT (x:XA) (y:XE):XE:=fun ρ S=>bnd (x ρ S) fun ds S1=>bnd (y ρ S1) fun i S2=>match i with
 | .int k=>(atI ds k).map fun d=>(d,S2)
 | _=>none
theorem ES {x:XA} {y:XE} {σ:L2.St} {H:Hp} {Q:VK} (h:tE K (qT x y) σ H Q):tOp (rIx K) (gB K x) (tE K y) σ H Q:=by
 obtain ⟨m,ρ,S,d,S',E,R,e,q⟩:=h
 obtain ⟨ds,S1,e1,e⟩:=ab e
 obtain ⟨i,S2,e2,e⟩:=ab e
 refine ⟨m,ρ,S,ds,S1,E,R,e1,fun m1 H1 a vs A1 sq n1 n2 n3 vd=>⟨m1,ρ,S1,i,S2,E.mono R A1.ext,A1.rel,e2,fun m2 H2 w A2 vb=>?_⟩⟩
 cases i with
 | int k=>
  cases vb.ints
  dsimp only at e
  cases ha:atI ds k with
  | none=>rw [ha] at e;cases e
  | some z=>
   rw [ha] at e
   cases e
   exact xi (tu:=false) (show SqL K H2 a vs from SqL.of (A2.ext.keep _ _ sq n1)) (vd.mono A1.rel A2.ext) ha fun v vv=>q m2 H2 v (A1.trans A2) vv
 | _=>cases e
noncomputable def cC (ds:List D) (lo hi:Option Int):List D:=(ds.drop (HT.sIx ds.length 0 lo)).take (HT.sIx ds.length ds.length hi - HT.sIx ds.length 0 lo)
theorem qU {ds:List D} {vs:List V} (h:VDs K m H ds vs) (lo hi:Option Int):VDs K m H (cC ds lo hi) (j9 vs lo hi):=by
 unfold cC j9
 rw [<-h.length]
 exact (h.drop _).take _
noncomputable def slS (lo hi:Option Int) (d:D) (S:Sto):Option (D × Sto):=match d with
 | .tup ds=>some (.tup (cC ds lo hi),S)
 | .ref n=>(match au S n with
  | some ds=>some (.ref S.length,S++[.lst (cC ds lo hi)])
  | none=>none)
 | _=>none
noncomputable def rSl (K:PySem.W.Frag):V->Option Int->Option Int->Hp->VK->Prop:=fun v lo hi H Q=>∃ m S a d S',Rel K m S H/\VD K m H a v/\slS lo hi a S=some (d,S')/\∀ m' H' u,Aft K m H S' m' H'->VD K m' H' d u->Q u H'
theorem qV {vs:List V} {lo hi:Option Int} (h:HT.sIx vs.length 0 lo=0/\HT.sIx vs.length vs.length hi=vs.length):j9 vs lo hi=vs:=by
 unfold j9
 rw [h.1,h.2];simp
theorem K8:SlR X (rSl X.K):=by
 intro pins s σ H x v vl vu lo hi sl Q I rx hs pl pu h
 refine (SlR.or Ab zW) pins s σ H x v vl vu lo hi sl Q I rx hs pl pu ?_
 obtain ⟨m,S,a,d,S',R,va,e,q⟩:=h
 cases a with
 | tup ds=>
  cases e
  obtain ⟨p,vs,rfl,sq,vds⟩:=va.tups
  refine .inl ⟨p,vs,rfl,.of sq,fun hw=>?_,fun _=>jQ R (qU vds lo hi) q⟩
  have:=qU vds lo hi
  rw [qV hw] at this
  exact q m H _ (Aft.refl R) (nA sq this)
 | ref n=>
  simp only [slS] at e
  cases hn:au S n with
  | none=>rw [hn] at e;cases e
  | some ds=>
   rw [hn] at e
   cases e
   obtain ⟨p,vs,hp,sq,vds⟩:=R.seq hn
   obtain ⟨p',hp',rfl⟩:=va.refs
   rw [hp] at hp'
   cases hp'
   exact .inr ⟨p,vs,rfl,sq,sU R (qU vds lo hi) q⟩
 | _=>cases e
noncomputable abbrev XO:=Rho->Sto->Option (Option Int × Sto)
noncomputable def tOI (K:PySem.W.Frag) (x:XO):TO:=fun σ H Q=>∃ m ρ S o S',EnvR K m H ρ σ/\Rel K m S H/\x ρ S=some (o,S')/\∀ m' H',Aft K m H S' m' H'->Q o H'
noncomputable def qW:XO:=fun _ S=>some (none,S)
noncomputable def qX (x:XE):XO:=fun ρ S=>bnd (x ρ S) fun d S1=>match d with
 | .int i=>some (some i,S1)
 | _=>none
theorem Ar {σ:L2.St} {H:Hp} {Q:Option Int->Hp->Prop} (h:tOI K qW σ H Q):sG σ H Q:=by
 obtain ⟨m,ρ,S,o,S',E,R,e,q⟩:=h
 cases e
 exact q m H (Aft.refl R)
theorem As {x:XE} {σ:L2.St} {H:Hp} {Q:Option Int->Hp->Prop} (h:tOI K (qX x) σ H Q):Db (tE K x) σ H Q:=by
 obtain ⟨m,ρ,S,o,S',E,R,e,q⟩:=h
 obtain ⟨d,S1,e1,e⟩:=ab e
 refine ⟨m,ρ,S,d,S1,E,R,e1,fun m1 H1 v A1 vd=>?_⟩
 cases d with
 | int i=>cases e;exact ⟨i,vd.ints,q m1 H1 A1⟩
 | _=>cases e
theorem PO.imp {e:Option Expr} {t t':TO} (h:PO X e t) (f:∀ σ H Q,t' σ H Q->t σ H Q):PO X e t':=fun pins s σ H Q I q=>h pins s σ H Q I (f σ H Q q)
noncomputable def xSl (x:XE) (lo hi:XO):XE:=fun ρ S=>bnd (x ρ S) fun d S1=>bnd (lo ρ S1) fun l S2=>bnd (hi ρ S2) fun h S3=>slS l h d S3
theorem Jb {x:XE} {lo hi:XO} {σ:L2.St} {H:Hp} {Q:VK} (h:tE K (xSl x lo hi) σ H Q):tSl (rSl K) (tE K x) (tOI K lo) (tOI K hi) σ H Q:=by
 obtain ⟨m,ρ,S,d,S',E,R,e,q⟩:=h
 obtain ⟨a,S1,e1,e⟩:=ab e
 obtain ⟨l,S2,e2,e⟩:=ab e
 obtain ⟨u,S3,e3,e⟩:=ab e
 refine ⟨m,ρ,S,a,S1,E,R,e1,fun m1 H1 v A1 vd=>⟨m1,ρ,S1,l,S2,E.mono R A1.ext,A1.rel,e2,fun m2 H2 A2=>⟨m2,ρ,S2,u,S3,E.mono R (A1.trans A2).ext,A2.rel,e3,fun m3 H3 A3=>?_⟩⟩⟩
 exact ⟨m3,S3,a,d,S',A3.rel,vd.mono A1.rel (A2.trans A3).ext,e,fun m4 H4 w A4 vw=>q m4 H4 w (((A1.trans A2).trans A3).trans A4) vw⟩
noncomputable def ko (d:D) (S:Sto):Option (Bool × Sto):=match d with
 | .non=>some (false,S)
 | .bl b=>some (b,S)
 | .int i=>some (i != 0,S)
 | .str y=>if y.length<=100000 then some ((y.length:Int) != 0,S) else none
 | .tup ds=>some (!ds.isEmpty,S)
 | .ref n=>(match au S n with
  | some ds=>some (!ds.isEmpty,S)
  | none=>none)
theorem kq {ds:List D} {vs:List V} (h:VDs K m H ds vs):ds.isEmpty=vs.isEmpty:=by
 have:=h.length
 cases ds <;> cases vs <;> simp at this ⊢
theorem ET {d:D} {v:V} {b:Bool} {S':Sto} (R:Rel K m S H) (vd:VD K m H d v) (e:ko d S=some (b,S')):S'=S/\zN K v H b:=by
 cases d with
 | non=>cases e;cases vd.nons;exact ⟨rfl,rfl⟩
 | bl _=>cases e;cases vd.bls;exact ⟨rfl,rfl⟩
 | int _=>cases e;cases vd.ints;exact ⟨rfl,rfl⟩
 | str y=>
  simp only [ko] at e
  split at e
  ·rename_i hl
   cases e
   cases vd.strs
   exact ⟨rfl,by rw [sizeLine_eq];omega,rfl⟩
  ·cases e
 | tup ds=>
  cases e
  obtain ⟨a,vs,rfl,sq,vds⟩:=vd.tups
  exact ⟨rfl,.inr (.inl ⟨vs,.of sq,by rw [kq vds]⟩)⟩
 | ref n=>
  simp only [ko] at e
  cases hn:au S n with
  | none=>rw [hn] at e;cases e
  | some ds=>
   rw [hn] at e
   cases e
   obtain ⟨p,vs,hp,sq,vds⟩:=R.seq hn
   obtain ⟨p',hp',rfl⟩:=vd.refs
   rw [hp] at hp'
   cases hp'
   exact ⟨rfl,.inl ⟨vs,sq,by rw [kq vds]⟩⟩
noncomputable def Au (x:XE):XT:=fun ρ S=>bnd (x ρ S) fun d S1=>ko d S1
theorem EU {x:XE} {σ:L2.St} {H:Hp} {Q:Bool->Hp->Prop} (h:tT K (Au x) σ H Q):(tE K x) σ H fun v H'=>∃ k,zN K v H' k/\Q k H':=by
 obtain ⟨m,ρ,S,b,S',E,R,e,q⟩:=h
 obtain ⟨d,S1,e1,e⟩:=ab e
 refine ⟨m,ρ,S,d,S1,E,R,e1,fun m1 H1 v A1 vd=>?_⟩
 obtain ⟨rfl,t⟩:=ET A1.rel vd e
 exact ⟨b,t,q m1 H1 A1⟩
noncomputable def xB (x:XE):XT:=fun ρ S=>bnd (x ρ S) fun d S1=>match d with
 | .bl b=>some (b,S1)
 | _=>none
theorem Jc {x:XE} {t:TE} {σ:L2.St} {H:Hp} {Q:Bool->Hp->Prop} (h:tT K (xB x) σ H Q):(tE K x) σ H fun v H'=>∃ k,v = .bl k/\Q k H':=by
 obtain ⟨m,ρ,S,b,S',E,R,e,q⟩:=h
 obtain ⟨d,S1,e1,e⟩:=ab e
 refine ⟨m,ρ,S,d,S1,E,R,e1,fun m1 H1 v A1 vd=>?_⟩
 cases d with
 | bl k=>cases e;exact ⟨b,vd.bls,q m1 H1 A1⟩
 | _=>cases e
noncomputable def bG (_:Bool) (ds:List D) (S:Sto):Option (D × Sto):=some (.int ds.length,S)
noncomputable def dH (_:Bool) (ds:List D) (S:Sto):Option (D × Sto):=some (.tup ds,S)
noncomputable def xj:D->Bool
 | .bl _=>true
 | _=>false
noncomputable def uN:D->Bool
 | .bl b=>b
 | _=>false
noncomputable def lU (tu:Bool) (ds:List D) (S:Sto):Option (D × Sto):=if tu=false/\ds.all xj=true then some (.bl (ds.all uN),S) else none
noncomputable def r1 (r:V->Hp->VK->Prop):List V->Hp->VK->Prop
 | [x],H,Q=>r x H Q
 | _,_,_=>False
theorem cX {r:V->Hp->VK->Prop} {xs:List V} {H:Hp} {Q:VK} (h:r1 r xs H Q):∃ x,xs=[x]/\r x H Q:=by
 match xs,h with
 | [x],h=>exact ⟨x,rfl,h⟩
theorem uO:a8 X (.builtin "len") (r1 (rSq X.K bG)):=by
 refine a8.imp m8 fun xs H Q h=>?_
 obtain ⟨_,rfl,m,S,tu,ds,a,vs,d,S',R,rfl,sq,vd,e,q⟩:=cX h
 cases e
 exact ⟨a,vs,rfl,qS sq,q m H _ (Aft.refl R) (by rw [vd.length];exact bq)⟩
theorem uQ:a8 X (.type "tuple") (r1 (rSq X.K dH)):=by
 refine a8.imp lQ fun xs H Q h=>?_
 obtain ⟨_,rfl,m,S,tu,ds,a,vs,d,S',R,rfl,sq,vd,e,q⟩:=cX h
 cases e
 cases tu with
 | false=>exact ⟨a,vs,rfl,.inl ⟨sq,jQ R vd q⟩⟩
 | true=>exact ⟨a,vs,rfl,.inr ⟨.of sq,q m H _ (Aft.refl R) (nA sq vd)⟩⟩
theorem xk:∀ {ds:List D} {vs:List V},VDs K m H ds vs->ds.all xj=true->vs=(ds.map uN).map V.bl
 | [],vs,h,_=>by rw [VDs] at h;rw [h];rfl
 | d::ds,vs,h,f=>by
  rw [VDs] at h
  obtain ⟨x,r,rfl,p,q⟩:=h
  rw [List.all_cons,bAE] at f
  cases d with
  | bl b=>rw [p.bls,xk q f.2];rfl
  | _=>simp [xj] at f
theorem EV (ds:List D):(ds.map uN).all id=ds.all uN:=by rw [List.all_map];rfl
theorem uR (hc:X.calm=true):a8 X (.builtin "all") (r1 (rSq X.K lU)):=by
 refine a8.imp (uz hc) fun xs H Q h=>?_
 obtain ⟨_,rfl,m,S,tu,ds,a,vs,d,S',R,rfl,sq,vd,e,q⟩:=cX h
 unfold lU at e
 split at e
 ·rename_i hf
  cases e
  obtain ⟨rfl,hf⟩:=hf
  refine ⟨a,ds.map uN,rfl,?_,q m H _ (Aft.refl R) (by rw [EV];exact cz)⟩
  rw [<-xk vd hf];exact sq
 ·cases e
noncomputable def rTm (K:PySem.W.Frag) (f:Bool->List D->Option (List D)):V->Hp->VK->Prop:=fun v H Q=>∃ m S tu ds a vs es,Rel K m S H/\v = .ref a/\SqB K tu H a vs/\VDs K m H ds vs/\f tu ds=some es ∧
 ∀ m' H' p ws,Aft K m H S m' H'->H' p=some (.lst ws)->p ∉ m'->(∀ b,b ∈ m->b ≠ p)->H p=none->VDs K m' H' es ws->Q (.ref p) H'
noncomputable def xl:D->D->Sto->Option (D × Sto)
 | .int i,.int j,S=>some (.int (if j > i then j else i),S)
 | _,_,_=>none
noncomputable def xm:D->D->Sto->Option (D × Sto)
 | .int i,.int j,S=>some (.int (if j < i then j else i),S)
 | _,_,_=>none
noncomputable def two (f:D->D->Sto->Option (D × Sto)):List D->Sto->Option (D × Sto)
 | [a,b],S=>f a b S
 | _,_=>none
theorem xn {a b:D} {vs:List V} (h:VDs K m H [a,b] vs):∃ v w,vs=[v,w]/\VD K m H a v/\VD K m H b w:=by
 rw [VDs] at h
 obtain ⟨v,r,rfl,p,q⟩:=h
 rw [VDs] at q
 obtain ⟨w,r',rfl,p',q'⟩:=q
 rw [VDs] at q'
 subst q'
 exact ⟨v,w,rfl,p,p'⟩
theorem EW {a:D} {vs:List V} (h:VDs K m H [a] vs):∃ v,vs=[v]/\VD K m H a v:=by
 rw [VDs] at h
 obtain ⟨v,r,rfl,p,q⟩:=h
 rw [VDs] at q
 subst q
 exact ⟨v,rfl,p⟩
theorem pc {f:D->D->Sto->Option (D × Sto)} {as:List D} {r:D × Sto} (h:two f as S=some r):∃ a b,as=[a,b]/\f a b S=some r:=by
 match as,h with
 | [a,b],h=>exact ⟨a,b,rfl,h⟩
theorem qY (hc:X.calm=true):a8 X (.builtin "max") (rSA X.K (two xl)):=by
 refine a8.imp (ul hc) fun xs H Q h=>?_
 obtain ⟨m,S,as,d,S',R,vd,e,q⟩:=h
 obtain ⟨a,b,rfl,e2⟩:=pc e
 obtain ⟨v,w,rfl,p,p'⟩:=xn vd
 cases a <;> cases b <;> simp [xl] at e2
 obtain ⟨rfl,rfl⟩:=e2
 exact ⟨_,_,by rw [p.ints,p'.ints],q m H _ (Aft.refl R) bq⟩
theorem qZ (hc:X.calm=true):a8 X (.builtin "min") (rSA X.K (two xm)):=by
 refine a8.imp (um hc) fun xs H Q h=>?_
 obtain ⟨m,S,as,d,S',R,vd,e,q⟩:=h
 obtain ⟨a,b,rfl,e2⟩:=pc e
 obtain ⟨v,w,rfl,p,p'⟩:=xn vd
 cases a <;> cases b <;> simp [xm] at e2
 obtain ⟨rfl,rfl⟩:=e2
 exact ⟨_,_,by rw [p.ints,p'.ints],q m H _ (Aft.refl R) bq⟩
inductive Ty where | int | bool | tuple | list | str
noncomputable def Ty.nm:Ty->String
 | .int => "int" | .bool => "bool" | .tuple => "tuple" | .list => "list" | .str => "str"
noncomputable def tyN (d:D) (S:Sto):Option String:=match d with
 | .non=>some "NoneType" | .bl _=>some "bool" | .int _=>some "int" | .str _=>some "str" | .tup _=>some "tuple"
 | .ref n=>(match S[n]? with
  | some (.lst _)=>some "list"
  | some (.frz _)=>some "list"
  | some (.dic _ _)=>some "dict"
  | none=>none)
noncomputable def fj (t:Ty) (n:String):Bool:=n == t.nm || (match t with | .int=>n == "bool" | _=>false)
noncomputable def kr (t:Ty) (d:D) (S:Sto):Option (D × Sto):=(tyN d S).map fun n=>(.bl (fj t n),S)
theorem Av (K:PySem.W.Frag) (t:Ty):(PySem.W.kitOne K (.type "NoneType") (.type t.nm)=some (fj t "NoneType"))/\(PySem.W.kitOne K (.type "bool") (.type t.nm)=some (fj t "bool"))/\(PySem.W.kitOne K (.type "int") (.type t.nm)=some (fj t "int")) ∧
  (PySem.W.kitOne K (.type "str") (.type t.nm)=some (fj t "str"))/\(PySem.W.kitOne K (.type "tuple") (.type t.nm)=some (fj t "tuple"))/\(PySem.W.kitOne K (.type "list") (.type t.nm)=some (fj t "list"))/\(PySem.W.kitOne K (.type "dict") (.type t.nm)=some (fj t "dict")):=by
 cases t <;> exact ⟨by kernel_rfl,by kernel_rfl,by kernel_rfl,by kernel_rfl,by kernel_rfl,by kernel_rfl,by kernel_rfl⟩
theorem Jd {d:D} {v:V} {n:String} (R:Rel K m S H) (vd:VD K m H d v) (e:tyN d S=some n):TyOf K H v (.type n):=by
 cases d with
 | non=>cases e;cases vd.nons;exact .non
 | bl _=>cases e;cases vd.bls;exact .bl _
 | int _=>cases e;cases vd.ints;exact .int _
 | str _=>cases e;cases vd.strs;exact .str _
 | tup ds=>cases e;obtain ⟨a,vs,rfl,sq,_⟩:=vd.tups;exact .tup sq
 | ref k=>
  simp only [tyN] at e
  obtain ⟨a,ha,rfl⟩:=vd.refs
  cases hk:S[k]? with
  | none=>rw [hk] at e;cases e
  | some o=>
   rw [hk] at e
   obtain ⟨a',ha',r⟩:=R.ob k o hk
   rw [ha] at ha'
   cases ha'
   cases o with
   | lst ds=>cases e;obtain ⟨vs,h,_⟩:=r;exact .lst h
   | frz ds=>cases e;obtain ⟨o,vs,h,_⟩:=r;exact .frz h
   | dic ks ds=>cases e;obtain ⟨vs,h,_⟩:=r;exact .dK h
theorem xo {d:D} {n:String} (e:tyN d S=some n):n = "NoneType"\/n = "bool"\/n = "int"\/n = "str"\/n = "tuple"\/n = "list"\/n = "dict" := by
 cases d with
 | ref k=>
  simp only [tyN] at e
  cases hk:S[k]? with
  | none=>rw [hk] at e;cases e
  | some o=>rw [hk] at e;cases o <;> cases e <;> simp
 | _=>cases e <;> simp
theorem EX {n:String} (K:PySem.W.Frag) (t:Ty) (h:n = "NoneType"\/n = "bool"\/n = "int"\/n = "str"\/n = "tuple"\/n = "list"\/n = "dict"):PySem.W.kitOne K (.type n) (.type t.nm)=some (fj t n):=by
 obtain ⟨a,b,c,d,e,f,g⟩:=Av K t
 rcases h with rfl | rfl | rfl | rfl | rfl | rfl | rfl <;> assumption
noncomputable def Je (K:PySem.W.Frag) (t:Ty) (te:TE):TE:=tCB (Df K) (cW te (cW (tC (.ty t.nm)) j7))
theorem Aw {t:Ty} {x:XE} {σ:L2.St} {H:Hp} {Q:VK} (h:tE K (xUn (kr t) x) σ H Q):Je K t (tE K x) σ H Q:=by
 obtain ⟨m,ρ,S,d,S',E,R,e,q⟩:=h
 obtain ⟨a,S1,e1,e⟩:=ab e
 refine ⟨m,ρ,S,a,S1,E,R,e1,fun m1 H1 v A1 va=>?_⟩
 unfold kr at e
 cases hn:tyN a S1 with
 | none=>rw [hn] at e;cases e
 | some n=>
  rw [hn] at e
  cases e
  exact ⟨v,t.nm,_,_,rfl,Jd A1.rel va hn,EX K t (xo hn),q m1 H1 _ A1 cz⟩
end
end Ev
namespace Ev
open PySem PySem.Spec PyProof.Rows L2
open PySem.W (KasT kas_sort kas_asc kas_desc kas_tail3 kas_descPart kas_count kas_place kas_bin kas_rev kas_ask KatTups)
noncomputable def dY {α:Type} (lt:Nat->Nat->Bool):KasT α->α
 | .ret a=>a
 | .ask i j k=>dY lt (k (lt i j))
noncomputable def KT {α:Type} (n:Nat) (P:α->Prop):KasT α->Prop
 | .ret a=>P a
 | .ask i j k=>i < n/\j < n/\∀ b,KT n P (k b)
theorem KT.bind {α β:Type} {n:Nat} {P:α->Prop} {R:β->Prop} {f:α->KasT β} (hf:∀ a,P a->KT n R (f a)):∀ {t:KasT α},KT n P t->KT n R (t.bind f)
 | .ret a,h=>hf a h
 | .ask i j k,h=>⟨h.1,h.2.1,fun b=>KT.bind hf (h.2.2 b)⟩
theorem KT.run {α:Type} {n:Nat} {P:α->Prop} {lt:Nat->Nat->Bool}:∀ {t:KasT α},KT n P t->P (dY lt t)
 | .ret a,h=>h
 | .ask i j k,h=>KT.run (t:=k (lt i j)) (h.2.2 (lt i j))
theorem pd {α:Type} {n:Nat} {P:α->Prop} {lt:Nat->Nat->Bool} {cmp:Nat->Nat->(Bool->Shared->Prop)->Shared->Prop} {s:Shared} (hc:∀ i j,i < n->j < n->∀ C:Bool->Shared->Prop,C (lt i j) s->cmp i j C s) {Q:α->Shared->Prop} :
  ∀ {t:KasT α},KT n P t->Q (dY lt t) s->t.kasWp cmp Q s
 | .ret a,_,q=>q
 | .ask i j k,h,q=>hc i j h.1 h.2.1 _ (pd hc (h.2.2 (lt i j)) q)
noncomputable def Pm (n:Nat) (p:Array Nat):Prop:=p.Perm (List.toArray (List.range n))
theorem Pm.at {n i:Nat} {p:Array Nat} (h:Pm n p) (hn:0 < n):p.getD i 0 < n:=by
 by_cases hi:i < p.size
 ·have e:p.getD i 0=p[i]:=by simp [Array.getD,hi]
  rw [e]
  have hm:p[i] ∈ p:=Array.getElem_mem hi
  have:=h.mem_iff.mp hm
  simpa using this
 ·have e:p.getD i 0=0:=by simp [Array.getD,hi]
  omega
theorem Pm.rev {n i j:Nat} {p:Array Nat} (h:Pm n p):Pm n (kas_rev p i j):=(mirror_perm p i j _).trans h
theorem q8 {n:Nat} {p:Array Nat} (h:Pm n p) (hn:0 < n):∀ f m,KT n (fun _=>True) (kas_asc p f m)
 | 0,_=>trivial
 | f+1,m=>⟨h.at hn,h.at hn,fun b=>by
  cases b with
  | true=>exact trivial
  | false=>exact q8 h hn f (m+1)⟩
theorem jS {n:Nat} (hn:0 < n):∀ f (p:Array Nat) m q,Pm n p->KT n (fun r:Array Nat × Nat × Nat=>Pm n r.1) (kas_desc f p m q)
 | 0,p,m,q,h=>h
 | f+1,p,m,q,h=>⟨h.at hn,h.at hn,fun b=>by
  cases b with
  | true=>
   show KT n _ (if q > 0 then kas_desc f (kas_rev p (m - (q+1)) m) (m+1) 0 else kas_desc f p (m+1) 0)
   split
   ·exact jS hn f _ _ _ h.rev
   ·exact jS hn f _ _ _ h
  | false=>exact ⟨h.at hn,h.at hn,fun d=>by
   cases d with
   | true=>exact h
   | false=>exact jS hn f _ _ _ h⟩⟩
theorem pj {n:Nat} {p:Array Nat} (hn:0 < n) (h:Pm n p) (m r:Nat):KT n (fun r:Nat × Array Nat=>Pm n r.2) (kas_tail3 m r p):=KT.bind (P:=fun _=>True) (f:=fun m=>KasT.ret (m,kas_rev p 0 _)) (fun _ _=>(show KT n (fun r:Nat × Array Nat=>Pm n r.2) (KasT.ret (_,kas_rev p 0 _)) from h.rev)) (q8 h.rev hn _ _)
theorem jj {n:Nat} {p:Array Nat} (hn:0 < n) (h:Pm n p) (m r:Nat):KT n (fun r:Nat × Array Nat=>Pm n r.2) (kas_descPart m r p):=KT.bind (fun a ha=>by
 show KT n _ (if a.2.2 > 0 then _ else _)
 split
 ·exact pj hn (Pm.rev ha) _ _
 ·exact pj hn ha _ _) (jS hn _ _ _ _ h)
theorem xq {n:Nat} {p:Array Nat} (hn:0 < n) (h:Pm n p) (r:Nat):KT n (fun r:Nat × Array Nat=>Pm n r.2) (kas_count r p):=KT.bind (fun a _=>by
 show KT n _ (if (a == r)=true then _ else if a > 1 then _ else _)
 split
 ·exact h
 ·split
  ·exact ⟨h.at hn,h.at hn,fun b=>by
    cases b with
    | true=>exact h
    | false=>exact jj hn h.rev _ _⟩
  ·exact jj hn h _ _) (q8 h hn _ _)
theorem ku {n:Nat} {p:Array Nat} (hn:0 < n) (h:Pm n p) (m:Nat):∀ f l r,KT n (fun _=>True) (kas_place p m f l r)
 | 0,_,_=>trivial
 | f+1,l,r=>by
  show KT n _ (if l ≥ r then _ else _)
  split
  ·exact trivial
  ·exact ⟨h.at hn,h.at hn,fun b=>by
    cases b with
    | true=>exact ku hn h m f _ _
    | false=>exact ku hn h m f _ _⟩
theorem xr {n:Nat} (hn:0 < n):∀ f (p:Array Nat) m,Pm n p->KT n (Pm n) (kas_bin f p m)
 | 0,p,_,h=>h
 | f+1,p,m,h=>KT.bind (fun l _=>xr hn f _ _ ((bubble_perm p m _).trans h)) (ku hn h m _ _ _)
theorem nD {n:Nat} (hn:0 < n):KT n (Pm n) (kas_sort n):=KT.bind (fun r hr=>by
 show KT n _ (if r.1 < n then _ else _)
 split
 ·exact xr hn _ _ _ hr
 ·exact hr) (xq hn (Array.Perm.refl _) n)
section
variable {prog:Program} {w:World} {A:Around} {E:Value->Shared->Prop} {s:Shared}
theorem nF {a:Addr} {vs:List Value} {n:Nat} {P:PySem.Fin->Shared->Prop} (ho:s.heap.get? a=some (seqObj "list" vs.toArray n)) (h64:vs.length < 64) (κ:SortKind) (lt:Nat->Nat->Bool)
  (hk:2<=vs.length->∀ (Q:SortKind->Shared->Prop),Q κ { s with heap:=((s.heap.update a (Obj.mapSeq fun _=>#[])).push (seqObj "tuple" vs.toArray 0)).push (seqObj "list" #[] 0) }->wpAny (model prog w) A (keyKind' vs.toArray) Q E { s with heap:=((s.heap.update a (Obj.mapSeq fun _=>#[])).push (seqObj "tuple" vs.toArray 0)).push (seqObj "list" #[] 0) })
  (hlt:∀ i j,i < vs.length->j < vs.length->∀ C:Bool->Shared->Prop,C (lt i j) { s with heap:=((s.heap.update a (Obj.mapSeq fun _=>#[])).push (seqObj "tuple" vs.toArray 0)).push (seqObj "list" #[] 0) } ->
   kas_ask prog w A κ vs i j C { s with heap:=((s.heap.update a (Obj.mapSeq fun _=>#[])).push (seqObj "tuple" vs.toArray 0)).push (seqObj "list" #[] 0) })
  (h:P (.done (.ret .none)) { s with heap:=sortedHeap s.heap a vs (if vs.length < 2 then vs.toArray else List.toArray ((dY lt (kas_sort vs.length)).toList.map fun i=>vs.getD i Value.none)) }) :
  wpAny (model prog w) A (Builtin.«list.sort» ⟨[.ref a],[]⟩) P E s:=by
 rw [list_sort_plain]
 have ha:a < s.heap.objs.size:=Heap.lt_size ho
 refine wpAny_bind (listItems_at ho rfl ?_)
 refine wpAny_bind (listUpdate_at ho rfl ?_)
 obtain ⟨e1,ho1⟩:∃ e1,(s.heap.update a (Obj.mapSeq fun _=>#[])).get? a=some (seqObj "list" #[] e1):=⟨_,get?_update_seq ho (fun _=>#[])⟩
 refine wpAny_bind (seqEpoch_at ho1 rfl ?_)
 refine wpAny_bind (wpAny_newTuple ?_)
 refine wpAny_bind (wpAny_newList ?_)
 refine wpAny_holding ?_
 have ho6:(((s.heap.update a (Obj.mapSeq fun _=>#[])).push (seqObj "tuple" vs.toArray 0)).push (seqObj "list" #[] 0)).get? a=some (seqObj "list" #[] e1):=by
  rw [Heap.get?_push_ne _ _ _ (by rw [size_push',Heap.size_update];exact Nat.ne_of_lt (Nat.lt_succ_of_lt ha)),Heap.get?_push_ne _ _ _ (by rw [Heap.size_update];exact Nat.ne_of_lt ha)]
  exact ho1
 show wpAny (model prog w) A _ P E { s with heap:=((s.heap.update a (Obj.mapSeq fun _=>#[])).push (seqObj "tuple" vs.toArray 0)).push (seqObj "list" #[] 0) }
 dsimp only
 have hsz:vs.toArray.size=vs.length:=by simp
 by_cases h2:vs.toArray.size < 2
 ·rw [if_pos h2,if_pos h2]
  refine wpAny_bind (wpAny_pure ?_)
  rw [StateT.run_pure]
  refine wpAny_bind (wpAny_pure ?_)
  dsimp only
  refine wpAny_bind (seqEpoch_at ho6 rfl ?_)
  refine wpAny_bind (listUpdate_at ho6 rfl ?_ (hsz2:=by rw [Array.size_map];show (pairsOf vs).size<=_;rw [pairsOf_size,sizeLine_eq];omega))
  simp only [bne_self_eq_false,Bool.false_eq_true,if_false]
  rw [if_pos (by rw [<-hsz];exact h2)] at h
  have e:Array.map (fun x:Keyed=>x.2) (vs.toArray.zip vs.toArray)=vs.toArray:=by
   apply Array.toList_inj.mp
   rw [Array.toList_map,Array.toList_zip,List.map_snd_zip (by simp)]
  refine wpAny_pure ?_
  show P _ { s with heap:=sortedHeap s.heap a vs (Array.map (fun x:Keyed=>x.2) (vs.toArray.zip vs.toArray)) }
  rw [e]
  exact h
 ·have h2':2<=vs.length:=by omega
  rw [if_neg h2,if_neg h2]
  rw [if_neg (by omega)] at h
  refine wpAny_bind (hk h2' _ ?_)
  refine wpAny_bind (wpAny_mono (PySem.W.kat_run (κ:=κ) (ks:=vs) (Q:=fun st' s'=>s'={ s with heap:=((s.heap.update a (Obj.mapSeq fun _=>#[])).push (seqObj "tuple" vs.toArray 0)).push (seqObj "list" #[] 0) }/\arrOf st'=(dY lt (kas_sort vs.length)).map (PySem.W.kas_item (vs.toArray.zip vs.toArray))/\(dY lt (kas_sort vs.length)).size=vs.length/\failedOf st'=none)
   (G:=fun p s'=>s'={ s with heap:=((s.heap.update a (Obj.mapSeq fun _=>#[])).push (seqObj "tuple" vs.toArray 0)).push (seqObj "list" #[] 0) }/\p=dY lt (kas_sort vs.length)) rfl h2' h64 (fun p st' s' a1 a2 a3 a4=>⟨a4.1,a4.2 ▸ a2,a4.2 ▸ a1,a3⟩) (pd hlt (nD (by omega)) ⟨rfl,rfl⟩)) ?_ fun _ _ e=>e)
  rintro ⟨⟨⟩,st'⟩ s' ⟨rfl,har,hsz',hf⟩
  dsimp only
  have hout:=PySem.W.kat_snds rfl har
  refine wpAny_bind (seqEpoch_at ho6 rfl ?_)
  rw [hout]
  refine wpAny_bind (listUpdate_at ho6 rfl ?_ (hsz2:=by rw [List.size_toArray,List.length_map,Array.length_toList,hsz',sizeLine_eq];omega))
  rw [hf]
  simp only [bne_self_eq_false,Bool.false_eq_true,if_false]
  exact wpAny_pure h
end
section
variable {prog:Program} {w:World} {A:Around} {E:Value->Shared->Prop} {s:Shared}
theorem uS {l:Addr} {vs:List Value} {Q:Value->Shared->Prop} (hl:s.heap.IsList l vs.toArray) (h64:vs.length < 64) (κ:SortKind) (lt:Nat->Nat->Bool)
  (hk:2<=vs.length->∀ (A:Around) (s':Shared),(∀ b o,s.heap.get? b=some o->s'.heap.get? b=some o)->∀ (E:Value->Shared->Prop) (Q:SortKind->Shared->Prop),Q κ s'->wpAny (model prog w) A (keyKind' vs.toArray) Q E s')
  (hlt:∀ (A:Around) (s':Shared),(∀ b o,s.heap.get? b=some o->s'.heap.get? b=some o)->∀ i j,i < vs.length->j < vs.length->∀ C:Bool->Shared->Prop,C (lt i j) s'->kas_ask prog w A κ vs i j C s')
  (h:Q (.ref (s.heap.objs.size+1)) { s with heap:=sortedAll s.heap vs (if vs.length < 2 then vs.toArray else List.toArray ((dY lt (kas_sort vs.length)).toList.map fun i=>vs.getD i Value.none)) }) :
  wpAny (model prog w) A (call (.builtin "sorted") [.ref l]) Q E s:=by
 refine Calls.call_function_entry kind_sorted plain_sorted entry_sorted (args_sorted1 _) ?_
 unfold Builtin.«sorted»
 refine wpAny_bind (m:=checkCount "sorted" 1 1 _) (wpAny_pure ?_)
 refine wpAny_bind (collect_list hl ?_)
 refine wpAny_bind (wpAny_newList ?_)
 have hsz:((s.heap.push (seqObj "list" #[] 0)).update s.heap.objs.size (Obj.mapSeq (·++vs.toArray))).objs.size=s.heap.objs.size+1:=by
  rw [Heap.size_update,size_push']
 have hoL:(((s.heap.push (seqObj "list" #[] 0)).update s.heap.objs.size (Obj.mapSeq (·++vs.toArray))).push (seqObj "list" vs.toArray 0)).get? (s.heap.objs.size+1)=some (seqObj "list" vs.toArray 0):=by
  rw [<-hsz];exact Heap.get?_push_size _ rfl
 have keep:∀ b o,s.heap.get? b=some o->(((((s.heap.push (seqObj "list" #[] 0)).update s.heap.objs.size (Obj.mapSeq (·++vs.toArray))).push (seqObj "list" vs.toArray 0)).update (s.heap.objs.size+1) (Obj.mapSeq fun _=>#[])).push (seqObj "tuple" vs.toArray 0)).get? b=some o:=fun b o q=>by
  have hlt:b < s.heap.objs.size:=Heap.lt_size q
  refine Heap.get?_push_of_some _ ?_
  rw [Heap.get?_update_ne _ _ _ _ (Nat.ne_of_lt (Nat.lt_succ_of_lt hlt))]
  refine Heap.get?_push_of_some _ ?_
  rw [Heap.get?_update_ne _ _ _ _ (Nat.ne_of_lt hlt)]
  exact Heap.get?_push_of_some _ q
 show wpAny _ _ _ _ _ { s with heap:=((s.heap.push (seqObj "list" #[] 0)).update s.heap.objs.size (Obj.mapSeq (·++vs.toArray))).push (seqObj "list" vs.toArray 0) }
 rw [hsz]
 refine wpAny_bind (wpAny_holding (wpAny_call_entry slot_list_sort ⟨_,hoL,rfl⟩ entry_list_sort (nF hoL h64 κ lt (fun h2 Q q=>hk h2 _ _ (fun b o z=>Heap.get?_push_of_some _ (keep b o z)) _ Q q) (fun i j hi hj C c=>hlt _ _ (fun b o z=>Heap.get?_push_of_some _ (keep b o z)) i j hi hj C c) ⟨_,rfl,?_⟩) (args_list_sort _)))
 exact wpAny_pure ⟨_,rfl,h⟩
noncomputable def rd (x y:Int × Int):Bool:=if x.1 == y.1 then (if x.2 == y.2 then false else decide (x.2 < y.2)) else decide (x.1 < y.1)
theorem xt {x y:Addr} {ox oy:Obj} {a b c d:Int} {t1 t2 t3 t4:Tok} {n k:Nat} {C:Bool->Shared->Prop} (hx:s.heap.get? x=some ox) (dx:ox.data = .seq #[.int a t1,.int b t2] n) (hy:s.heap.get? y=some oy) (dy:oy.data = .seq #[.int c t3,.int d t4] k)
  (h:C (rd (a,b) (c,d)) s):wpAny (model prog w) A (keyLt' (tuples' true) (.ref x) (.ref y)) C E s:=by
 refine PySem.W.kat_lt hx dx hy dy ?_
 show PySem.W.KatLex prog w A true _ C [(.int a t1,.int c t3),(.int b t2,.int d t4)] 0 s
 unfold rd at h
 refine wpAny_eqBool_int ?_
 cases h1:a == c with
 | true=>
  rw [if_pos rfl]
  simp only [h1,if_true] at h
  refine wpAny_eqBool_int ?_
  cases h2:b == d with
  | true=>rw [if_pos rfl];simp only [h2,if_true] at h;exact h
  | false=>
   rw [if_neg Bool.false_ne_true]
   simp only [h2,Bool.false_eq_true,if_false] at h
   exact PySem.W.kat_one _ _ (lt_int h)
 | false=>
  rw [if_neg Bool.false_ne_true]
  simp only [h1,Bool.false_eq_true,if_false] at h
  exact oneLt_int h
end
end Ev
namespace Ev
open PySem PySem.Spec PyProof.Rows L2
open PySem.W (kas_sort KatTups)
section
variable {X:Cx} {K:PySem.W.Frag} {m:List Addr} {H:Hp} {S:Sto}
inductive PairsV (H:Hp):List V->List (Int × Int)->Prop where
 | nil:PairsV H [] []
 | cons {r:Addr} {x y:Int} {vs:List V} {ps:List (Int × Int)}:H r=some (.tup [.int x,.int y])->PairsV H vs ps->PairsV H (.ref r::vs) ((x,y)::ps)
noncomputable def lV (ps:List (Int × Int)) (i j:Nat):Bool:=rd (ps.getD i (0,0)) (ps.getD j (0,0))
noncomputable def cO {α:Type} (ps:List (Int × Int)) (d:α) (vs:List α):List α:=if vs.length < 2 then vs else (dY (lV ps) (kas_sort vs.length)).toList.map fun i=>vs.getD i d
theorem PairsV.len {vs:List V} {ps:List (Int × Int)} (h:PairsV H vs ps):vs.length=ps.length:=by
 induction h with
 | nil=>rfl
 | cons _ _ ih=>simp [ih]
noncomputable def Di (h:Heap) (v:Value) (q:Int × Int):Prop:=∃ r o t1 t2 n,v = .ref r/\h.get? r=some o/\o.cls = .type "tuple"/\o.data = .seq #[.int q.1 t1,.int q.2 t2] n
theorem PairsV.heap {pins:List (Addr × Obj)} {s:Shared} {σ:L2.St} (I:Inv X pins σ H s) {vs:List V} {ps:List (Int × Int)} (h:PairsV H vs ps):∀ {its:List Value},aP vs its->∀ (i:Nat),i < its.length->Di s.heap (its.getD i Value.none) (ps.getD i (0,0)):=by
 induction h with
 | nil=>intro its r i hi;cases r;simp at hi
 | @cons r x y vs ps hr _ ih=>
  intro its rv i hi
  cases rv with
  | @cons _ u _ us r1 r2=>
   cases i with
   | zero=>
    cases r1
    obtain ⟨it2,rr,⟨o,e,hc,n,hd⟩,_⟩:=I.tuple (SqT.of (K:=X.K) hr)
    obtain ⟨a,b,rfl,⟨t1,rfl⟩,⟨t2,rfl⟩⟩:=sE rr
    exact ⟨r,o,t1,t2,n,rfl,e,hc,hd⟩
   | succ i=>
    have:=ih r2 i (by simpa using hi)
    simpa using this
theorem sW {h:Heap}:∀ {its:List Value} {ps:List (Int × Int)},(∀ i,i < its.length->Di h (its.getD i Value.none) (ps.getD i (0,0)))->∃ fs:List Value,KatTups h its fs/\fs.length=its.length/\∀ v ∈ fs,∃ i t,v = .int i t
 | [],_,_=>⟨[],KatTups.nil,rfl,fun v hv=>by simp at hv⟩
 | v::its,ps,hp=>by
  obtain ⟨r,o,t1,t2,n,ev,e,hc,hd⟩:=hp 0 (by simp)
  obtain ⟨fs,k,hl,hi⟩:=sW (its:=its) (ps:=ps.tail) fun i hi=>by
   have:=hp (i+1) (by simpa using hi)
   cases ps with
   | nil=>simpa using this
   | cons _ _=>simpa using this
  have ev':v = .ref r:=by simpa using ev
  subst ev'
  exact ⟨.int (ps.getD 0 (0,0)).1 t1::fs,KatTups.cons e hc hd rfl k,by simp [hl],fun w hw=>by
   rcases List.mem_cons.mp hw with rfl | hw
   ·exact ⟨_,_,rfl⟩
   ·exact hi w hw⟩
theorem Ax {vs:List V} {its:List Value} (r:aP vs its) {i:Nat} (hi:i < vs.length):aN (vs.getD i .non) (its.getD i Value.none):=by
 obtain ⟨u,e,ru⟩:=r.get (gEG hi)
 rw [List.getD_eq_getElem?_getD,List.getD_eq_getElem?_getD,gEG hi,e]
 exact ru
theorem my {vs:List V} {its:List Value} (r:aP vs its):∀ (l:List Nat),(∀ i ∈ l,i < vs.length)->aP (l.map fun i=>vs.getD i .non) (l.map fun i=>its.getD i Value.none)
 | [],_=>.nil
 | i::l,h=>.cons (Ax r (h i List.mem_cons_self)) (my r l fun j hj=>h j (List.mem_cons_of_mem _ hj))
theorem fk {n:Nat} {lt:Nat->Nat->Bool} (hn:0 < n):(∀ i ∈ (dY lt (kas_sort n)).toList,i < n)/\(dY lt (kas_sort n)).toList.length=n:=by
 have h:Pm n (dY lt (kas_sort n)):=(nD hn).run
 refine ⟨fun i hi=>?_,?_⟩
 ·have:=h.mem_iff.mp (Array.mem_toList_iff.mp hi)
  simpa using this
 ·have:=h.size_eq
  rw [Array.length_toList,this];simp
theorem re {α:Type} {ps:List (Int × Int)} {d:α} {vs:List α}:(cO ps d vs).length=vs.length:=by
 unfold cO
 split
 ·rfl
 ·rw [List.length_map,(fk (by omega)).2]
theorem rf:a8 X (.builtin "sorted") (fun xs H Q=>∃ a vs ps,xs=[.ref a]/\SqL X.K H a vs/\PairsV H vs ps/\vs.length < 64/\∀ p,H p=none->Q (.ref p) (upd H p (.lst (cO ps .non vs)))):=by
 intro pins s σ H xs us Q I r h
 obtain ⟨a,vs,ps,rfl,sq,pv,h64,q⟩:=h
 obtain ⟨u,rfl,ru⟩:=cJ r
 cases ru
 obtain ⟨its,rv,pl,hz⟩:=I.list sq
 have hlen:=rv.length
 have ph:=pv.heap I rv
 have hl2:=pv.len
 refine uS pl.isList (by omega) (tuples' true) (lV ps) (fun h2 A s' kp E Q' hq=>?_) (fun A s' kp i j hi hj C hC=>?_) ?_
 ·obtain ⟨fs,kt,hf,hi⟩:=sW (h:=s'.heap) fun i hi=>by
   obtain ⟨r,o,t1,t2,n,e1,e2,e3,e4⟩:=ph i hi
   exact ⟨r,o,t1,t2,n,e1,kp _ _ e2,e3,e4⟩
  refine PySem.W.kat_kind (T:=.type "int") kt (by omega) (fun v hv=>?_) (by decide) hq
  obtain ⟨i,t,rfl⟩:=hi v hv
  exact PySem.W.Looks.of_pure rfl
 ·obtain ⟨r1,o1,t1,t2,n1,a1,a2,a3,a4⟩:=ph i hi
  obtain ⟨r2,o2,t3,t4,n2,b1,b2,b3,b4⟩:=ph j hj
  show wpAny _ A (keyLt' (tuples' true) (its.getD i Value.none) (its.getD j Value.none)) C _ s'
  rw [a1,b1]
  exact xt (kp _ _ a2) a4 (kp _ _ b2) b4 hC
 ·have hv:aP (cO ps .non vs) (if its.length < 2 then its else (dY (lV ps) (kas_sort its.length)).toList.map fun i=>its.getD i Value.none):=by
   unfold cO
   rw [hlen]
   split
   ·exact rv
   ·exact my rv _ fun i hi=>by rw [hlen];exact (fk (by omega)).1 i hi
  have eo:(if its.length < 2 then its.toArray else List.toArray ((dY (lV ps) (kas_sort its.length)).toList.map fun i=>its.getD i Value.none))=(if its.length < 2 then its else (dY (lV ps) (kas_sort its.length)).toList.map fun i=>its.getD i Value.none).toArray:=by split <;> rfl
  rw [eo]
  obtain ⟨e,he⟩:=sortedAll_at s.heap its (if its.length < 2 then its else (dY (lV ps) (kas_sort its.length)).toList.map fun i=>its.getD i Value.none).toArray
  exact ⟨.ref (s.heap.objs.size+1),_,I.laid (t':=s.toks) (a:=s.heap.objs.size+1) (o:=.lst (cO ps .non vs)) (fun b o z=>sortedAll_old z) (Nat.le_succ _) ⟨by rw [re];exact hz,_,e,hv,he⟩,rfl,q _ (I.hok.fresh (Nat.le_succ _))⟩
noncomputable def rh (x:Int):List Int->List Int
 | []=>[x]
 | y::l=>if x<=y then x::y::l else y::rh x l
noncomputable def gf:List Int->List Int
 | []=>[]
 | x::l=>rh x (gf l)
theorem iU (x:Int):∀ l,(rh x l).Perm (x::l)
 | []=>List.Perm.refl _
 | y::l=>by
  unfold rh
  split
  ·exact List.Perm.refl _
  ·exact ((iU x l).cons y).trans (List.Perm.swap x y l)
theorem cP:∀ l,(gf l).Perm l
 | []=>List.Perm.refl _
 | x::l=>(iU x (gf l)).trans ((cP l).cons x)
theorem jk (x:Int):∀ l:List Int,l.Pairwise (·<=·)->(rh x l).Pairwise (·<=·)
 | [],_=>by unfold rh;simp
 | y::l,h=>by
  unfold rh
  rw [List.pairwise_cons] at h
  split
  ·rename_i c
   refine List.pairwise_cons.mpr ⟨fun z hz=>?_,List.pairwise_cons.mpr h⟩
   rcases List.mem_cons.mp hz with rfl | hz
   ·exact c
   ·have:=h.1 z hz;omega
  ·rename_i c
   refine List.pairwise_cons.mpr ⟨fun z hz=>?_,jk x l h.2⟩
   rcases List.mem_cons.mp ((iU x l).mem_iff.mp hz) with rfl | hz
   ·omega
   ·exact h.1 z hz
theorem im:∀ l,(gf l).Pairwise (·<=·)
 | []=>List.Pairwise.nil
 | x::l=>jk x _ (im l)
theorem kv:∀ {a b:List Int},a.Perm b->a.Pairwise (·<=·)->b.Pairwise (·<=·)->a=b
 | [],b,p,_,_=>(List.Perm.nil_eq p)
 | x::a,[],p,_,_=>(List.Perm.nil_eq p.symm).symm
 | x::a,y::b,p,ha,hb=>by
  rw [List.pairwise_cons] at ha hb
  have e:x=y:=by
   have h1:=p.mem_iff.mp (List.mem_cons_self (a:=x) (l:=a))
   have h2:=p.mem_iff.mpr (List.mem_cons_self (a:=y) (l:=b))
   rcases List.mem_cons.mp h1 with rfl | h1
   ·rfl
   ·rcases List.mem_cons.mp h2 with h2 | h2
    ·exact h2.symm
    ·have:=ha.1 y h2
     have:=hb.1 x h1
     omega
  subst e
  rw [kv (List.Perm.cons_inv p) ha.2 hb.2]
theorem cE:∀ {ns:List Int} {us:List Value},aP (ns.map V.int) us->IntsAre us ns
 | [],_,h=>by cases h;exact .nil
 | n::ns,_,h=>by
  cases h with
  | cons r1 r2=>obtain ⟨t,rfl⟩:=r1;exact .cons n t (cE r2)
theorem rj:a8 X (.builtin "sorted") (fun xs H Q=>∃ a ns,xs=[.ref a]/\SqL X.K H a (ns.map V.int)/\ns.length < 64/\∀ p,H p=none->Q (.ref p) (upd H p (.lst ((gf ns).map V.int)))):=by
 intro pins s σ H xs us Q I r h
 obtain ⟨a,ns,rfl,sq,h64,q⟩:=h
 obtain ⟨u,rfl,ru⟩:=cJ r
 cases ru
 obtain ⟨its,rv,pl,hz⟩:=I.list sq
 have hlen:=rv.length
 rw [List.length_map] at hlen hz
 refine sorted_ints pl.isList (cE rv) (by omega) fun out ns' h1 h2 h3=>?_
 have e:ns'=gf ns:=kv (h2.trans (cP ns).symm) h3 (im ns)
 subst e
 obtain ⟨e,he⟩:=sortedAll_at s.heap its out
 refine ⟨.ref (s.heap.objs.size+1),_,I.laid (t':=s.toks) (a:=s.heap.objs.size+1) (o:=.lst ((gf ns).map V.int)) (fun b o z=>sortedAll_old z) (Nat.le_succ _) ⟨by rw [List.length_map,(cP ns).length_eq];exact hz,out.toList,e,iQ h1,by simpa using he⟩,rfl,q _ (I.hok.fresh (Nat.le_succ _))⟩
noncomputable def kx:D->Option (Int × Int)
 | .tup [.int a,.int b]=>some (a,b)
 | _=>none
noncomputable def dn:List D->Option (List (Int × Int))
 | []=>some []
 | d::ds=>match kx d,dn ds with
  | some p,some ps=>some (p::ps)
  | _,_=>none
noncomputable def io:List D->Option (List Int)
 | []=>some []
 | d::ds=>match d,io ds with
  | .int i,some ms=>some (i::ms)
  | _,_=>none
noncomputable def rm (_:Bool) (ds:List D):Option (List D):=match dn ds with
 | some ps=>if ds.length < 64 then some (cO ps .non ds) else none
 | none=>(match io ds with
  | some ns=>if ns.length < 64 then some ((gf ns).map D.int) else none
  | none=>none)
theorem ip:∀ {ds:List D} {ns:List Int},io ds=some ns->ds=ns.map D.int
 | [],_,e=>by cases e;rfl
 | d::ds,ns,e=>by
  simp only [io] at e
  split at e
  ·rename_i i ms h1
   cases e
   rw [ip h1];rfl
  ·cases e
theorem fS:∀ {ns:List Int} {vs:List V},VDs K m H (ns.map D.int) vs->vs=ns.map V.int
 | [],_,h=>by rw [List.map_nil,VDs] at h;exact h
 | n::ns,_,h=>by
  rw [List.map_cons,VDs] at h
  obtain ⟨v,r,rfl,h1,h2⟩:=h
  rw [h1.ints,fS h2];rfl
theorem mz:∀ (ns:List Int),VDs K m H (ns.map D.int) (ns.map V.int)
 | []=>by rw [List.map_nil,List.map_nil,VDs]
 | n::ns=>by rw [List.map_cons,List.map_cons,VDs];exact ⟨_,_,rfl,bq,mz ns⟩
theorem pk:∀ {ds:List D} {vs:List V} {ps:List (Int × Int)},dn ds=some ps->VDs K m H ds vs->PairsV H vs ps
 | [],vs,ps,e,h=>by rw [VDs] at h;subst h;cases e;exact .nil
 | d::ds,vs,ps,e,h=>by
  rw [VDs] at h
  obtain ⟨v,r,rfl,h1,h2⟩:=h
  simp only [dn] at e
  cases hd:kx d with
  | none=>rw [hd] at e;cases e
  | some p=>
   cases hr:dn ds with
   | none=>rw [hd,hr] at e;cases e
   | some qs=>
    rw [hd,hr] at e
    cases e
    unfold kx at hd
    split at hd
    ·cases hd
     obtain ⟨a,xs,rfl,hH,vx⟩:=h1.tups
     obtain ⟨x,y,rfl,v1,v2⟩:=xn vx
     cases v1.ints
     cases v2.ints
     exact .cons hH (pk hr h2)
    ·cases hd
theorem sX {ds:List D} {vs:List V} (h:VDs K m H ds vs):∀ (l:List Nat),(∀ i ∈ l,i < ds.length)->VDs K m H (l.map fun i=>ds.getD i .non) (l.map fun i=>vs.getD i .non)
 | [],_=>by rw [List.map_nil,List.map_nil,VDs]
 | i::l,hl=>by
  rw [List.map_cons,List.map_cons,VDs]
  obtain ⟨v,e,vv⟩:=h.get (gEG (hl i List.mem_cons_self))
  refine ⟨_,_,rfl,?_,sX h l fun j hj=>hl j (List.mem_cons_of_mem _ hj)⟩
  rw [List.getD_eq_getElem?_getD,List.getD_eq_getElem?_getD,gEG (hl i List.mem_cons_self),e]
  exact vv
theorem mB:a8 X (.builtin "sorted") (r1 (rTm X.K fun tu ds=>if tu=false then rm tu ds else none)):=by
 refine a8.imp (a8.or rf rj) fun xs H Q h=>?_
 obtain ⟨_,rfl,m,S,tu,ds,a,vs,es,R,rfl,sq,vd,e,q⟩:=cX h
 cases tu with
 | true=>cases e
 | false=>
  have e:rm false ds=some es:=by simpa using e
  unfold rm at e
  cases hp:dn ds with
  | none=>
   rw [hp] at e
   dsimp only at e
   cases hi:io ds with
   | none=>rw [hi] at e;cases e
   | some ns=>
    rw [hi] at e
    dsimp only at e
    split at e
    ·rename_i hl
     cases e
     have ed:=ip hi
     subst ed
     have ev:=fS vd
     subst ev
     exact .inr ⟨a,ns,rfl,sq,hl,nB R (mz _) q⟩
    ·cases e
  | some ps=>
   rw [hp] at e
   dsimp only at e
   split at e
   ·rename_i hl
    cases e
    have hlen:=vd.length
    refine .inl ⟨a,vs,ps,rfl,sq,pk hp vd,by omega,nB R ?_ q⟩
    unfold cO
    rw [<-hlen]
    split
    ·exact vd
    ·exact sX vd _ fun i hi=>(fk (by omega)).1 i hi
   ·cases e
end
end Ev
namespace Ev
open PySem PySem.Spec PyProof.Rows L2
noncomputable def eY:List Int->Int
 | []=>0
 | n::ns=>ns.foldl (fun a b=>if a < b then b else a) n
theorem iq:∀ (ns:List Int) (n:Int),(ns.foldl (fun a b=>if a < b then b else a) n) ∈ n::ns/\∀ x ∈ n::ns,x<=ns.foldl (fun a b=>if a < b then b else a) n
 | [],n=>⟨List.mem_cons_self,fun x hx=>by simp at hx;subst hx;exact Int.le_refl _⟩
 | m::ns,n=>by
  obtain ⟨h1,h2⟩:=iq ns (if n < m then m else n)
  rw [List.foldl_cons]
  refine ⟨?_,fun x hx=>?_⟩
  ·rcases List.mem_cons.mp h1 with h | h
   ·rw [h];split <;> simp
   ·exact List.mem_cons_of_mem _ (List.mem_cons_of_mem _ h)
  ·have h0:=h2 _ List.mem_cons_self
   rcases List.mem_cons.mp hx with rfl | hx
   ·split at h0 <;> split <;> omega
   ·rcases List.mem_cons.mp hx with rfl | hx
    ·split at h0 <;> split <;> omega
    ·exact h2 x (List.mem_cons_of_mem _ hx)
theorem xu {ns:List Int} {M:Int} (h1:M ∈ ns) (h2:∀ a,a ∈ ns->a<=M):M=eY ns:=by
 cases ns with
 | nil=>simp at h1
 | cons n ns=>
  obtain ⟨a,b⟩:=iq ns n
  have:=h2 _ a
  have:=b _ h1
  show M=ns.foldl _ n
  omega
section
variable {X:Cx} {K:PySem.W.Frag} {m:List Addr} {H:Hp} {S:Sto}
theorem uT (hc:X.calm=true):a8 X (.builtin "max") (fun xs H Q=>∃ a ns,xs=[.ref a]/\SqL X.K H a (ns.map V.int)/\ns ≠ []/\Q (.int (eY ns)) H):=by
 intro pins s σ H xs us Q I r h
 obtain ⟨a,ns,rfl,sq,hne,q⟩:=h
 obtain ⟨u,rfl,ru⟩:=cJ r
 cases ru
 obtain ⟨its,rv,pl,hz⟩:=I.list sq
 have hi:=cE rv
 have hl:=pl.isList
 obtain ⟨ys,e⟩:=hi.allInts.items
 have hns:ns=ys.toList.map (·.1):=by
  have h1:=hi.numsOf
  rw [<-nums_intItems,<-e]
  exact h1.symm
 have hsz:0 < ys.size:=by
  have h3:0 < ns.length:=List.length_pos_iff.mpr hne
  rw [hns,List.length_map,Array.length_toList] at h3;exact h3
 rw [e] at hl
 refine max_intList (I.ok.hd hc) hl hsz fun v h' tk hv hk=>?_
 obtain ⟨t,rfl⟩:=intItems_at hv
 obtain ⟨b1,b2⟩:=argBest_gt (numAt ys) (ys.size - 1)
 have key:∀ M:Int,M ∈ ns->(∀ a,a ∈ ns->a<=M)->∃ x H',Inv X pins σ H' { s with heap:=h',toks:=tk }/\aN x (.int M t)/\Q x H':=fun M h1 h2=>⟨.int (eY ns),H,I.kept hk,⟨t,by rw [xu h1 h2]⟩,q⟩
 refine key _ ?_ fun a ha=>?_
 ·rw [hns,numAt_eq];exact getD_mem (by rw [List.length_map,Array.length_toList];omega)
 ·rw [hns] at ha
  obtain ⟨j,hj,rfl⟩:=mem_getD ha
  rw [List.length_map,Array.length_toList] at hj
  rw [<-numAt_eq];exact b2 j (by omega)
noncomputable def ky (tu:Bool) (ds:List D) (S:Sto):Option (D × Sto):=match tu,io ds with
 | false,some (n::ns)=>some (.int (eY (n::ns)),S)
 | _,_=>none
theorem uU (hc:X.calm=true):a8 X (.builtin "max") (r1 (rSq X.K ky)):=by
 refine a8.imp (uT hc) fun xs H Q h=>?_
 obtain ⟨_,rfl,m,S,tu,ds,a,vs,d,S',R,rfl,sq,vd,e,q⟩:=cX h
 unfold ky at e
 split at e
 ·rename_i n ns hi
  cases e
  have ed:=ip hi
  subst ed
  have ev:=fS vd
  subst ev
  exact ⟨a,n::ns,rfl,sq,by simp,q m H _ (Aft.refl R) bq⟩
 ·cases e
noncomputable def xv (d:D) (S:Sto):Option (D × Sto):=match d with
 | .int i=>some (.int i,S)
 | .bl b=>some (.int (if b then 1 else 0),S)
 | _=>none
theorem uV:a8 X (.type "int") (r1 (rS1 X.K xv)):=by
 refine a8.imp uo fun xs H Q h=>?_
 obtain ⟨x,rfl,m,S,a,d,S',R,va,e,q⟩:=cX h
 cases a with
 | int i=>cases e;exact .inl ⟨i,by rw [va.ints],q m H _ (Aft.refl R) bq⟩
 | bl b=>cases e;exact .inr ⟨b,by rw [va.bls],q m H _ (Aft.refl R) bq⟩
 | _=>cases e
end
end Ev
namespace Ev
open PySem PySem.Spec PyProof.Rows L2
theorem xw (a d:Value):argsOk "max" ⟨[a],[(Str.ofString "default", d)]⟩:=by unfold argsOk;kernel_rfl
section
variable {prog:Program} {w:World} {A:Around} {R:Result->Shared->Prop} {I S:Addr} {fp wr:List Addr} {n:Nat} {P:Nat->Value->Prop} {St:Nat->Heap->Prop} {bt:Nat->Nat->Bool} {kw:List (Str × Value)}
theorem sY:(toString "max" ++ toString ".loop" : String) = "max.loop" := by decide
theorem kz (W:Walks prog w A.in1 I fp wr n P St) (gc:CmpOf prog w A.in1 .Gt P bt) (gS:S ∉ fp):∀ (m i:Nat) (s:Shared) (b:Value) (c:Nat),i+1+m=n->St (i+1) s.heap->P (argBest bt i) b->s.heap.get? S=some { cls:=.type "list", dict:=none,data:=.seq #[b,b] c,slots:=#[] } ->
  (∀ v h' tk,P (argBest bt (n - 1)) v->(∀ a o,a ∉ wr->a ≠ S->s.heap.get? a=some o->h'.get? a=some o)->R (.ok (.ret v)) { s with heap:=h',toks:=tk })->codeAny (model prog w) A (.builtin "max.loop" ⟨[.ref I,.none,.ref S],kw⟩) R s
 | 0,i,s,b,c,e,st,pb,gs,r=>by
  have sw:S ∉ wr:=fun h=>gS (W.sub _ h)
  refine codeAny_builtin F.entry_max_loop ?_
  rw [Around.under_plainId F.plain_max_loop _]
  show wpAny _ A.in1 (seqItems? (.ref S) >>= _) _ _ s
  refine wpAny_bind (wpAny_seqItems gs rfl ?_)
  show wpAny _ A.in1 (tryCatch (pyNext (.ref I)) _ >>= _) _ _ s
  refine wpAny_bind (wpAny_tryCatch (W.done s _ _ (by rw [<-e];exact st) fun h' tk kk=>?_))
  show wpAny _ A.in1 (updateSeq S (fun _=>#[]) >>= _) _ _ _
  refine wpAny_bind (wpAny_updateSeq (kk S _ sw gs) rfl (wpAny_bind (wpAny_letGo (wpAny_pure ?_))))
  exact r b _ tk (by rw [<-e];exact pb) fun a o aw aS z=>(Heap.get?_update_other _ _ (Ne.symm aS)).trans (kk a o aw z)
 | m+1,i,s,b,c,e,st,pb,gs,r=>by
  have sw:S ∉ wr:=fun h=>gS (W.sub _ h)
  refine codeAny_builtin F.entry_max_loop ?_
  rw [Around.under_plainId F.plain_max_loop _]
  show wpAny _ A.in1 (seqItems? (.ref S) >>= _) _ _ s
  refine wpAny_bind (wpAny_seqItems gs rfl ?_)
  show wpAny _ A.in1 (tryCatch (pyNext (.ref I)) _ >>= _) _ _ s
  refine wpAny_bind (wpAny_tryCatch (W.item (i+1) s _ _ (by omega) st fun v h' tk pv st' kk=>?_))
  have gs':=kk S _ sw gs
  show wpAny _ A.in1 (tryCatch (holding [v,v] (richCompare .Gt v b >>= _)) _ >>= _) _ _ _
  refine wpAny_bind (wpAny_tryCatch (wpAny_holding (wpAny_bind (gc (i+1) (argBest bt i) v b _ _ _ pv pb ?_))))
  refine wpAny_bind (wpAny_holding (wpAny_truthy_bool ?_))
  refine wpAny_bind (wpAny_letGo (wpAny_pure ?_))
  cases hb:bt (i+1) (argBest bt i) with
  | true=>
   simp only [if_true]
   refine wpAny_bind (wpAny_updateSeq gs' rfl (wpAny_bind (wpAny_letGo ?_)))
   rw [sY]
   refine wpAny_pure ⟨plainId_quiet F.plain_max_loop _,kz W gc gS m (i+1) _ v _ (by omega) (W.frame _ _ _ st' fun a af o z=>?_) (by simp only [argBest,hb,if_true];exact pv) (Heap.get?_update_self _ gs' rfl) fun v' h'' tk'' pv' k2=>?_⟩
   ·exact (Heap.get?_update_other _ _ (fun z:S=a=>gS (by rw [z];exact af))).trans z
   ·exact r v' h'' tk'' pv' fun a o aw aS z=>k2 a o aw aS ((Heap.get?_update_other _ _ (Ne.symm aS)).trans (kk a o aw z))
  | false=>
   simp only [Bool.false_eq_true,if_false]
   refine wpAny_bind (wpAny_letGo ?_)
   rw [sY]
   refine wpAny_pure ⟨plainId_quiet F.plain_max_loop _,kz W gc gS m (i+1) _ b c (by omega) st' (by simp only [argBest,hb,Bool.false_eq_true,if_false];exact pb) gs' fun v' h'' tk'' pv' k2=>?_⟩
   exact r v' h'' tk'' pv' fun a o aw aS z=>k2 a o aw aS (kk a o aw z)
theorem uW (W:Walks prog w A.in1 I fp wr n P St) (gc:CmpOf prog w A.in1 .Gt P bt) (gS:S ∉ fp) (gn:0 < n) {s:Shared} {c:Nat} (st:St 0 s.heap) (gs:s.heap.get? S=some { cls:=.type "list", dict:=none,data:=.seq #[] c,slots:=#[] })
  (r:∀ v h' tk,P (argBest bt (n - 1)) v->(∀ a o,a ∉ wr->a ≠ S->s.heap.get? a=some o->h'.get? a=some o)->R (.ok (.ret v)) { s with heap:=h',toks:=tk }):codeAny (model prog w) A (.builtin "max.loop" ⟨[.ref I,.none,.ref S],kw⟩) R s:=by
 have sw:S ∉ wr:=fun h=>gS (W.sub _ h)
 refine codeAny_builtin F.entry_max_loop ?_
 rw [Around.under_plainId F.plain_max_loop _]
 show wpAny _ A.in1 (seqItems? (.ref S) >>= _) _ _ s
 refine wpAny_bind (wpAny_seqItems gs rfl ?_)
 show wpAny _ A.in1 (tryCatch (pyNext (.ref I)) _ >>= _) _ _ s
 refine wpAny_bind (wpAny_tryCatch (W.item 0 s _ _ gn st fun v h' tk pv st' kk=>?_))
 have gs':=kk S _ sw gs
 show wpAny _ A.in1 (updateSeq S (fun _=>#[v,v]) >>= _) _ _ _
 refine wpAny_bind (wpAny_updateSeq gs' rfl ?_)
 rw [sY]
 refine wpAny_pure ⟨plainId_quiet F.plain_max_loop _,kz W gc gS (n - 1) 0 _ v _ (by omega) (W.frame _ _ _ st' fun a af o z=>?_) pv (Heap.get?_update_self _ gs' rfl) fun v' h'' tk'' pv' k2=>?_⟩
 ·exact (Heap.get?_update_other _ _ (fun z:S=a=>gS (by rw [z];exact af))).trans z
 ·exact r v' h'' tk'' pv' fun a o aw aS z=>k2 a o aw aS ((Heap.get?_update_other _ _ (Ne.symm aS)).trans (kk a o aw z))
theorem xy {d:Value} (W:Walks prog w A.in1 I fp wr 0 P St) (gS:S ∉ fp) {s:Shared} {c:Nat} (st:St 0 s.heap) (gs:s.heap.get? S=some { cls:=.type "list", dict:=none,data:=.seq #[] c,slots:=#[] })
  (r:∀ h' tk,(∀ a o,a ∉ wr->s.heap.get? a=some o->h'.get? a=some o)->R (.ok (.ret d)) { s with heap:=h',toks:=tk }):codeAny (model prog w) A (.builtin "max.loop" ⟨[.ref I,.none,.ref S],[(Str.ofString "default", d)]⟩) R s:=by
 refine codeAny_builtin F.entry_max_loop ?_
 rw [Around.under_plainId F.plain_max_loop _]
 show wpAny _ A.in1 (seqItems? (.ref S) >>= _) _ _ s
 refine wpAny_bind (wpAny_seqItems gs rfl ?_)
 show wpAny _ A.in1 (tryCatch (pyNext (.ref I)) _ >>= _) _ _ s
 refine wpAny_bind (wpAny_tryCatch (W.done s _ _ st fun h' tk kk=>?_))
 exact wpAny_bind (wpAny_rule (wpAny_pure (r h' tk kk)))
variable {E:Value->Shared->Prop} {s:Shared} {l:Addr} {xs:Array (Int × Tok)}
theorem xz {d:Value} {Q:Value->Shared->Prop} (hh:A.handled=none) (hl:s.heap.IsList l (intItems xs))
  (h1:0 < xs.size->∀ v h' tk,(intItems xs)[argBest (fun i j=>decide (numAt xs i > numAt xs j)) (xs.size - 1)]?=some v->(∀ b o,s.heap.get? b=some o->h'.get? b=some o)->Q v { s with heap:=h',toks:=tk })
  (h2:xs.size=0->∀ h' tk,(∀ b o,s.heap.get? b=some o->h'.get? b=some o)->Q d { s with heap:=h',toks:=tk }):wpAny (model prog w) A (call (.builtin "max") [.ref l] [(Str.ofString "default", d)]) Q E s:=by
 refine kmb_tree F.kind_max F.plain_max F.entry_max (xw _ _) ?_
 show wpAny _ A.in1 (Builtin.Builtins.bindParams "max" ["key", "default"] 0 ⟨[],[(Str.ofString "default", d)]⟩ >>= _) _ _ s
 refine wpAny_bind (wpAny_of_eq (show Builtin.Builtins.bindParams "max" ["key", "default"] 0 ⟨[],[(Str.ofString "default", d)]⟩=pure [none,some d] from rfl) ?_)
 refine wpAny_bind (wpAny_pure ?_)
 refine wpAny_bind (iter_intList hl fun s2 e st fpl lI=>?_)
 subst e
 have W:=Walks.list (prog:=prog) (w:=w) (A:=A.in1) hh s.heap.objs.size l lI (intItems xs)
 refine wpAny_bind (wpAny_newObj_type ?_)
 have gS:∀ b ∈ [s.heap.objs.size,l],b < (s.heap.push { cls:=.type "list_iterator", data:=.fields #[.ref l,.int 0 0] }).objs.size:=fpl
 rw [sY]
 by_cases hz:xs.size=0
 ·have e0:(intItems xs).size=0:=by simpa [intItems] using hz
  rw [e0] at W
  refine wpAny_pure ⟨plainId_quiet F.plain_max_loop _,xy W (fun hm=>Nat.lt_irrefl _ (fpl _ hm)) (W.frame _ _ _ st fun b _ o e=>Heap.get?_push_of_some _ e) (Heap.get?_push_size _ rfl) fun h' tk hk=>?_⟩
  exact h2 hz h' tk (old_kept fun b o hb e=>hk b o hb (Heap.get?_push_of_some _ e))
 ·refine wpAny_pure ⟨plainId_quiet F.plain_max_loop _,uW W (CmpOf.ints_gt (numAt xs) (fun _ _=>intItems_at)) (fun hm=>Nat.lt_irrefl _ (fpl _ hm)) (by simp [intItems];omega) (W.frame _ _ _ st fun b _ o e=>Heap.get?_push_of_some _ e) (Heap.get?_push_size _ rfl) fun v h' tk pv hk=>?_⟩
  exact h1 (by omega) v h' tk (by simpa [intItems] using pv) (old_kept fun b o hb e=>hk b o hb (Nat.ne_of_lt (Heap.lt_size e)) (Heap.get?_push_of_some _ e))
end
noncomputable def uX (c:Int):List Int->Int
 | []=>c
 | n::ns=>eY (n::ns)
noncomputable def gg (c:Int) (tu:Bool) (ds:List D) (S:Sto):Option (D × Sto):=match tu,io ds with
 | false,some ns=>some (.int (uX c ns),S)
 | _,_=>none
section
variable {X:Cx} {K:PySem.W.Frag} {m:List Addr} {H:Hp} {S:Sto} {e:Expr} {t:TA} {p pos kp vp:Pos} {c:Int} {j:Nat}
theorem EY (hc:X.calm=true) (hg:Gl X "max") (hm:X.mg "max" = none) (hdb:(("max" : Str) == ("__debug__" : Str))=false) (ha:PA X [e] t) (he:starEach [e] X.env=(false,eval e X.env)::starEach [] X.env) :
  PE X (.Call (.Name "max" p) [e] [⟨some "default", .Constant (.int c) j vp,kp⟩] pos) (tCB (r1 (rSq X.K (gg c))) t):=by
 intro pins s σ H Q I h
 refine wpAny_Call_Name_kw (e9 I hg hm PyProof.Rows.boot_max ?_ (by decide) hdb)
 refine callWith_kw (thn (ha pos pins s σ H _ I h) fun us s1 ⟨vs,H1,I1,r,q1⟩=>?_) (by rw [he];rfl) (by rw [he];rfl) rfl rfl
 refine thn (zR (nm:=some "default") (kpos:=kp) (vR (X:=X) (i:=c) (j:=j) (pos:=vp)) Ef pos pins s1 σ H1 _ I1 (show cW (tC (.int c)) j7 σ H1 (fun zs H2=>zs=[.int c]/\H2=H1) from ⟨rfl,rfl⟩)) fun ks s2 ⟨zs,H2,I2,rz,ez,eH⟩=>?_
 subst ez eH
 obtain ⟨u,rfl,ru⟩:=cJ rz
 obtain ⟨tk,rfl⟩:=ru
 obtain ⟨_,rfl,m,S,tu,ds,a,ws,d,S',R,rfl,sq,vd,e',q⟩:=cX q1
 obtain ⟨u',rfl,ru'⟩:=cJ r
 cases ru'
 unfold gg at e'
 split at e'
 ·rename_i ns hi
  cases e'
  have ed:=ip hi
  subst ed
  have ev:=fS vd
  subst ev
  have sq:SqL X.K H2 a (ns.map V.int):=sq
  obtain ⟨its,rv,pl,hz⟩:=I2.list sq
  have hi:=cE rv
  have hl:=pl.isList
  obtain ⟨ys,ey⟩:=hi.allInts.items
  have hns:ns=ys.toList.map (·.1):=by
   have h1:=hi.numsOf
   rw [<-nums_intItems,<-ey]
   exact h1.symm
  have hlen:ns.length=ys.size:=by rw [hns,List.length_map,Array.length_toList]
  rw [ey] at hl
  refine xz (I2.ok.hd hc) hl (fun hsz v h' tk' hv hk=>?_) (fun hsz h' tk' hk=>?_)
  ·obtain ⟨t',rfl⟩:=intItems_at hv
   obtain ⟨b1,b2⟩:=argBest_gt (numAt ys) (ys.size - 1)
   have et:uX c ns=eY ns:=by
    cases ns with
    | nil=>rw [List.length_nil] at hlen;omega
    | cons n ns=>rfl
   have key:∀ M:Int,M ∈ ns->(∀ a,a ∈ ns->a<=M)->∃ x H',Inv X pins σ H' { s2 with heap:=h',toks:=tk' }/\aN x (.int M t')/\Q x H':=fun M h1 h2=>⟨.int (uX c ns),H2,I2.kept hk,⟨t',by rw [xu h1 h2,et]⟩,q m H2 _ (Aft.refl R) bq⟩
   refine key _ ?_ fun a ha=>?_
   ·rw [hns,numAt_eq];exact getD_mem (by rw [List.length_map,Array.length_toList];omega)
   ·rw [hns] at ha
    obtain ⟨j,hj,rfl⟩:=mem_getD ha
    rw [List.length_map,Array.length_toList] at hj
    rw [<-numAt_eq];exact b2 j (by omega)
  ·have en:ns=[]:=List.length_eq_zero_iff.mp (by omega)
   subst en
   exact ⟨.int c,H2,I2.kept hk,⟨tk,rfl⟩,q m H2 _ (Aft.refl R) bq⟩
 ·cases e'
end
end Ev
namespace Ev
open PySem PySem.Spec PyProof.Rows L2
section
variable {X:Cx} {K:PySem.W.Frag} {m:List Addr} {H:Hp} {S:Sto}
noncomputable def fm (d:D) (S:Sto):Bool:=match d with
 | .ref n=>(au S n).isSome
 | _=>false
noncomputable def isTup:D->Bool
 | .tup _=>true
 | _=>false
noncomputable def xD (c:D->Sto->Bool) (f:D->List D->Sto->Option (D × Sto)) (x:XE) (y:XA):XE:=fun ρ S=>bnd (x ρ S) fun d S1=>if c d S1=true then bnd (y ρ S1) fun as S2=>f d as S2 else none
noncomputable def rM (K:PySem.W.Frag) (f:D->List D->Sto->Option (D × Sto)):V->List V->Hp->VK->Prop:=fun v vs H Q=>∃ m S a as d S',Rel K m S H/\VD K m H a v/\VDs K m H as vs/\f a as S=some (d,S')/\∀ m' H' u,Aft K m H S' m' H'->VD K m' H' d u->Q u H'
theorem rq {T:String} {c:D->Sto->Bool} {f:D->List D->Sto->Option (D × Sto)} {x:XE} {y:XA} {σ:L2.St} {H:Hp} {Q:VK} (hT:∀ {m H S d v},Rel K m S H->VD K m H d v->c d S=true->tyV K T v H) (h:tE K (xD c f x y) σ H Q):tBM K T (rM K f) (tE K x) (tAr K y) σ H Q:=by
 obtain ⟨m,ρ,S,d,S',E,R,e,q⟩:=h
 obtain ⟨a,S1,e1,e⟩:=ab e
 split at e
 ·rename_i hc
  obtain ⟨as,S2,e2,e⟩:=ab e
  refine ⟨m,ρ,S,a,S1,E,R,e1,fun m1 H1 v A1 va=>⟨hT A1.rel va hc,m1,ρ,S1,as,S2,E.mono R A1.ext,A1.rel,e2,fun m2 H2 vs A2 vb=>?_⟩⟩
  exact ⟨m2,S2,a,as,d,S',A2.rel,va.mono A1.rel A2.ext,vb,e,fun m3 H3 u A3 vd=>q m3 H3 u ((A1.trans A2).trans A3) vd⟩
 ·cases e
theorem xE {d:D} {v:V} (R:Rel K m S H) (vd:VD K m H d v) (h:fm d S=true):tyV K "list" v H:=by
 cases d with
 | ref n=>
  simp only [fm] at h
  obtain ⟨ds,hs⟩:=Option.isSome_iff_exists.mp h
  obtain ⟨p,vs,hp,sq,vds⟩:=R.seq hs
  obtain ⟨p',hp',rfl⟩:=vd.refs
  rw [hp] at hp'
  cases hp'
  exact .inl ⟨rfl,vs,sq⟩
 | _=>cases h
theorem EZ {d:D} {v:V} (R:Rel K m S H) (vd:VD K m H d v) (h:(fun d (_:Sto)=>isTup d) d S=true):tyV K "tuple" v H:=by
 cases d with
 | tup ds=>
  obtain ⟨a,vs,rfl,sq,_⟩:=vd.tups
  exact .inr (.inl ⟨rfl,.inr ⟨vs,sq⟩⟩)
 | _=>cases h
noncomputable def chg (n:Nat) (S:Sto) (f:List D->Option (D × List D)):Option (D × Sto):=match S[n]? with
 | some (.lst ds)=>(f ds).map fun r=>(r.1,S.set n (.lst r.2))
 | _=>none
theorem pw {n:Nat} {S S':Sto} {f:List D->Option (D × List D)} {d:D} (h:chg n S f=some (d,S')):∃ ds es,S[n]?=some (.lst ds)/\f ds=some (d,es)/\S'=S.set n (.lst es):=by
 unfold chg at h
 cases hn:S[n]? with
 | none=>rw [hn] at h;cases h
 | some o=>
  rw [hn] at h
  cases o with
  | lst ds=>
   dsimp only at h
   cases hf:f ds with
   | none=>rw [hf] at h;cases h
   | some r=>rw [hf] at h;cases h;exact ⟨ds,r.2,rfl,hf,rfl⟩
  | _=>cases h
noncomputable def pA (d:D) (as:List D) (S:Sto):Option (D × Sto):=match d,as with
 | .ref n,[e]=>chg n S fun ds=>if ds.length < 100000 then some (.non,ds++[e]) else none
 | _,_=>none
noncomputable def gC (d:D) (as:List D) (S:Sto):Option (D × Sto):=match d,as with
 | .ref n,[.int i]=>chg n S fun ds=>match ixN ds.length i with
  | some k=>(ds[k]?).map fun x=>(x,ds.eraseIdx k)
  | none=>none
 | _,_=>none
theorem rA {n:Nat} {v:V} {ds:List D} (R:Rel K m S H) (vd:VD K m H (.ref n) v) (hn:S[n]?=some (.lst ds)):∃ a vs,v = .ref a/\m[n]?=some a/\H a=some (.lst vs)/\VDs K m H ds vs:=by
 obtain ⟨a,vs,ha,hH,q⟩:=R.lst hn
 obtain ⟨a',ha',e⟩:=vd.refs
 rw [ha] at ha'
 cases ha'
 exact ⟨a,vs,e,ha,hH,q⟩
theorem iV {n:Nat} {a:Addr} {es:List D} {ws:List V} (R:Rel K m S H) (ha:m[n]?=some a) (vd:VDs K m H es ws):Aft K m H (S.set n (.lst es)) m (upd H a (.lst ws)):=let ⟨x,y⟩:=R.write ha vd;⟨x,y⟩
theorem E5:MtR X "list.append" (rM X.K pA):=by
 intro pins s σ H x xs v us Q I rx rs h
 refine mf pins s σ H x xs v us Q I rx rs ?_
 obtain ⟨m,S,a,as,d,S',R,va,vs,e,q⟩:=h
 unfold pA at e
 split at e
 ·rename_i n z
  obtain ⟨ds,es,hn,hf,rfl⟩:=pw e
  split at hf
  ·rename_i hl
   cases hf
   obtain ⟨p,ws,rfl,hp,hH,vds⟩:=rA R va hn
   obtain ⟨y,rfl,vy⟩:=EW vs
   refine ⟨p,ws,y,rfl,rfl,hH,by rw [sizeLine_eq,<-vds.length];omega,q m _ _ (iV R hp (vds.append (.cons vy .nil))) qP⟩
  ·cases hf
 ·cases e
theorem pB:∀ {ds:List D} {vs:List V} (k:Nat),VDs K m H ds vs->VDs K m H (ds.eraseIdx k) (vs.eraseIdx k)
 | [],vs,k,h=>by rw [VDs] at h;subst h;exact .nil
 | d::ds,vs,0,h=>by
  rw [VDs] at h
  obtain ⟨y,r,rfl,p,q⟩:=h
  exact q
 | d::ds,vs,k+1,h=>by
  rw [VDs] at h
  obtain ⟨y,r,rfl,p,q⟩:=h
  exact .cons p (pB k q)
theorem uY:MtR X "list.pop" (rM X.K gC):=by
 intro pins s σ H x xs v us Q I rx rs h
 refine wq pins s σ H x xs v us Q I rx rs ?_
 obtain ⟨m,S,a,as,d,S',R,va,vs,e,q⟩:=h
 unfold gC at e
 split at e
 ·rename_i n i
  obtain ⟨ds,es,hn,hf,rfl⟩:=pw e
  cases hk:ixN ds.length i with
  | none=>rw [hk] at hf;cases hf
  | some k=>
   rw [hk] at hf
   dsimp only at hf
   cases hl:ds[k]? with
   | none=>rw [hl] at hf;cases hf
   | some z=>
    rw [hl] at hf
    cases hf
    obtain ⟨p,ws,rfl,hp,hH,vds⟩:=rA R va hn
    obtain ⟨y,rfl,vi⟩:=EW vs
    cases vi.ints
    obtain ⟨y,hy,vy⟩:=vds.get hl
    have A:=iV R hp (pB k vds)
    obtain ⟨h1,h2,h3,h4⟩:=mY hk
    have hz:=(I.lst hH).choose_spec.choose_spec.2.2
    have hle:=vds.length
    rw [sizeLine_eq] at hz
    exact ⟨p,ws,i,k,y,rfl,rfl,hH,by omega,by omega,by rw [<-vds.length];exact h1,hy,q m _ _ A (vy.mono R A.ext)⟩
 ·cases e
noncomputable def rB (d:D) (as:List D) (S:Sto):Option (D × Sto):=match d,as with
 | .tup ds,[x]=>if cj x=true/\ds.all cj=true then some (.int (ds.countP fun z=>eqF z x:Nat),S) else none
 | _,_=>none
theorem Ay:MtR X "tuple.count" (rM X.K rB):=by
 intro pins s σ H x xs v us Q I rx rs h
 refine uB X.K rfl pins s σ H x xs v us Q I rx rs ?_
 obtain ⟨m,S,a,as,d,S',R,va,vs,e,q⟩:=h
 unfold rB at e
 split at e
 ·rename_i ds z
  split at e
  ·rename_i hf
   cases e
   obtain ⟨p,ws,rfl,sq,vds⟩:=va.tups
   obtain ⟨y,rfl,vy⟩:=EW vs
   exact ⟨p,ws,y,rfl,rfl,.of sq,jR vy hf.1,ik vds hf.2,q m H _ (Aft.refl R) (by rw [mw vy hf.1 vds hf.2];exact bq)⟩
  ·cases e
 ·cases e
noncomputable def kB (o i v:D) (S:Sto):Option Sto:=match o,i with
 | .ref n,.int k=>(match S[n]? with
  | some (.lst ds)=>(ixN ds.length k).map fun j=>S.set n (.lst (ds.set j v))
  | _=>none)
 | _,_=>none
noncomputable def Jf (K:PySem.W.Frag):zF:=fun o i v H Q=>∃ m S a b c S',Rel K m S H/\VD K m H a o/\VD K m H b i/\VD K m H c v/\kB a b c S=some S'/\∀ m' H',Aft K m H S' m' H'->Q H'
theorem Jg:DW X (Jf X.K):=by
 intro pins s σ H o i v ov iv u Q I ro ri rv h
 refine wo pins s σ H o i v ov iv u Q I ro ri rv ?_
 obtain ⟨m,S,a,b,c,S',R,va,vb,vc,e,q⟩:=h
 unfold kB at e
 split at e
 ·rename_i n k
  cases hn:S[n]? with
  | none=>rw [hn] at e;cases e
  | some ob=>
   rw [hn] at e
   cases ob with
   | lst ds=>
    dsimp only at e
    cases hj:ixN ds.length k with
    | none=>rw [hj] at e;cases e
    | some j=>
     rw [hj] at e
     cases e
     obtain ⟨p,ws,rfl,hp,hH,vds⟩:=rA R va hn
     cases vb.ints
     exact ⟨p,ws,k,j,rfl,rfl,hH,by rw [<-vds.length];exact hj,q m _ (iV R hp (vds.set vc))⟩
   | _=>cases e
 ·cases e
mutual
noncomputable def bW (t:D->Option Dw.D):List D->Option (List Dw.D)
 | []=>some []
 | d::ds=>match t d,bW t ds with
  | some x,some xs=>some (x::xs)
  | _,_=>none
end
noncomputable def cr:Nat->Sto->D->Option Dw.D
 | 0,_,_=>none
 | n+1,S,d=>match d with
  | .non=>some .non
  | .bl b=>some (.bl b)
  | .int i=>some (.int i)
  | .str x=>some (.str x)
  | .tup ds=>(bW (cr n S) ds).map .tup
  | .ref k=>(match S[k]? with
   | some (.lst ds)=>(bW (cr n S) ds).map .lst
   | some (.dic ks ds)=>(bW (cr n S) ds).map (.dic ks)
   | _=>none)
theorem ir {t:D->Option Dw.D} (ht:∀ d x v,t d=some x->VD K m H d v->Dw.Br [] H x v):∀ {ds:List D} {xs:List Dw.D} {vs:List V},bW t ds=some xs->VDs K m H ds vs->Dw.BrL [] H xs vs
 | [],xs,vs,e,h=>by rw [VDs] at h;simp only [bW] at e;cases e;rw [h,Dw.BrL]
 | d::ds,xs,vs,e,h=>by
  rw [VDs] at h
  obtain ⟨y,r,rfl,p,q⟩:=h
  simp only [bW] at e
  cases h1:t d with
  | none=>rw [h1] at e;cases e
  | some x=>
   cases h2:bW t ds with
   | none=>rw [h1,h2] at e;cases e
   | some ys=>
    rw [h1,h2] at e
    cases e
    rw [Dw.BrL]
    exact ⟨y,r,rfl,ht _ _ _ h1 p,ir ht h2 q⟩
theorem mD {t:D->Option Dw.D}:∀ {ds:List D} {xs:List Dw.D},bW t ds=some xs->xs.length=ds.length
 | [],xs,e=>by simp only [bW] at e;cases e;rfl
 | d::ds,xs,e=>by
  simp only [bW] at e
  cases h1:t d with
  | none=>rw [h1] at e;cases e
  | some x=>
   cases h2:bW t ds with
   | none=>rw [h1,h2] at e;cases e
   | some ys=>rw [h1,h2] at e;cases e;simp [mD h2]
theorem jT (R:Rel K m S H):∀ (n:Nat) (d:D) (x:Dw.D) (v:V),cr n S d=some x->VD K m H d v->Dw.Br [] H x v
 | 0,_,_,_,e,_=>by simp [cr] at e
 | n+1,d,x,v,e,h=>by
  cases d with
  | non=>simp only [cr] at e;cases e;rw [Dw.Br];exact h.nons
  | bl _=>simp only [cr] at e;cases e;rw [Dw.Br];exact h.bls
  | int _=>simp only [cr] at e;cases e;rw [Dw.Br];exact h.ints
  | str _=>simp only [cr] at e;cases e;rw [Dw.Br];exact h.strs
  | tup ds=>
   simp only [cr] at e
   cases ht:bW (cr n S) ds with
   | none=>rw [ht] at e;cases e
   | some xs=>
    rw [ht] at e
    cases e
    obtain ⟨a,vs,rfl,sq,p⟩:=h.tups
    rw [Dw.Br]
    exact ⟨a,vs,rfl,sq,ir (jT R n) ht p⟩
  | ref k=>
   simp only [cr] at e
   obtain ⟨a,ha,rfl⟩:=h.refs
   cases hk:S[k]? with
   | none=>rw [hk] at e;cases e
   | some o=>
    rw [hk] at e
    obtain ⟨a',ha',r⟩:=R.ob k o hk
    rw [ha] at ha'
    cases ha'
    cases o with
    | lst ds=>
     dsimp only at e
     cases ht:bW (cr n S) ds with
     | none=>rw [ht] at e;cases e
     | some xs=>
      rw [ht] at e
      cases e
      obtain ⟨vs,hH,p⟩:=r
      rw [Dw.Br]
      exact ⟨a,vs,rfl,by simp,hH,ir (jT R n) ht p⟩
    | frz ds=>cases e
    | dic ks ds=>
     dsimp only at e
     cases ht:bW (cr n S) ds with
     | none=>rw [ht] at e;cases e
     | some xs=>
      rw [ht] at e
      cases e
      obtain ⟨vs,hH,hl,p⟩:=r
      rw [Dw.Br]
      exact ⟨a,vs,rfl,by simp,hH,by rw [mD ht];exact hl,ir (jT R n) ht p⟩
open Classical in
noncomputable def kC (d:D) (S:Sto):Option (D × Sto):=match cr 100 S d with
 | some t=>if Dw.Shn t then some (.str (Dw.aX t).shown,S) else none
 | none=>none
theorem rC {k:Nat} (hr:Room k X.A):a8 X (.builtin "repr") (r1 (rS1 X.K kC)):=by
 refine a8.imp (Dw.qN hr) fun xs H Q h=>?_
 obtain ⟨x,rfl,m,S,a,d,S',R,va,e,q⟩:=cX h
 unfold kC at e
 cases ht:cr 100 S a with
 | none=>rw [ht] at e;cases e
 | some t=>
  rw [ht] at e
  dsimp only at e
  split at e
  ·rename_i hs
   cases e
   exact ⟨x,[],t,rfl,jT R 100 a t x ht va,hs,q m H _ (Aft.refl R) nz⟩
  ·cases e
end
end Ev
namespace Ev
open PySem PySem.Spec PyProof.Rows L2
noncomputable abbrev Nxt:=Nat->Sto->Option (Option D)
noncomputable abbrev XI:=Rho->Sto->Option (Nxt × Sto)
structure ExtB (B:List Addr) (m:List Addr) (H:Hp) (m':List Addr) (H':Hp):Prop where
 pre:m <+: m'
 keep:∀ a o,H a=some o->a ∉ m->a ∉ B->H' a=some o
 new:∀ a,a ∈ m'->a ∉ m->H a=none
 nb:∀ b,b ∈ B->b ∉ m'
noncomputable def AtB (B:List Addr) (m:List Addr) (H:Hp):Prop:=∀ b,b ∈ B->(∃ vs,H b=some (.lst vs))/\b ∉ m
theorem Ext.toB {B m m':List Addr} {H H':Hp} (hB:AtB B m H) (x:Ext m H m' H'):ExtB B m H m' H':=⟨x.pre,fun a o h n _=>x.keep a o h n,x.new,fun b hb z=>by
 obtain ⟨⟨vs,e⟩,n⟩:=hB b hb
 have:=x.new b z n
 rw [e] at this;cases this⟩
theorem ExtB.trans {B m m1 m2:List Addr} {H H1 H2:Hp} (x:ExtB B m H m1 H1) (y:ExtB B m1 H1 m2 H2):ExtB B m H m2 H2:=by
 refine ⟨x.pre.trans y.pre,fun a o h n nb=>?_,fun a h n=>?_,y.nb⟩
 ·have n1:a ∉ m1:=fun z=>by have:=x.new a z n;rw [this] at h;cases h
  exact y.keep a o (x.keep a o h n nb) n1 nb
 ·by_cases h1:a ∈ m1
  ·exact x.new a h1 n
  ·cases e:H a with
   | none=>rfl
   | some o=>
    by_cases hb:a ∈ B
    ·exact absurd h (y.nb a hb)
    ·have:=x.keep a o e n hb
     rw [y.new a h h1] at this;cases this
theorem AtB.ext {B m m':List Addr} {H H':Hp} (hB:AtB B m H) (x:Ext m H m' H'):AtB B m' H':=fun b hb=>by
 obtain ⟨⟨vs,e⟩,n⟩:=hB b hb
 exact ⟨⟨vs,x.keep _ _ e n⟩,(x.toB hB).nb b hb⟩
noncomputable def IOk (K:PySem.W.Frag) (B:List Addr) (J:It) (nx:Nxt) (m0:List Addr) (H0:Hp):Prop:=∀ (m:List Addr) (S:Sto) (H:Hp) (i:Nat),ExtB B m0 H0 m H->Rel K m S H ->
 (nx i S=some none->J.stop i H)/\(∀ d,nx i S=some (some d)->J.go i H/\∀ x H',J.yld i H x H'->Aft K m H S m H'/\VD K m H' d x)
noncomputable def tIt (K:PySem.W.Frag) (B:List Addr) (x:XI):TI:=fun σ H R=>∃ m ρ S nx S',EnvR K m H ρ σ/\Rel K m S H/\AtB B m H/\x ρ S=some (nx,S')/\∀ m' H' J,Aft K m H S' m' H'->IOk K B J nx m' H'->R J H'
noncomputable def nxL (ds:List D):Nxt:=fun i _=>some ds[i]?
noncomputable def nxS (n:Nat):Nxt:=fun i S=>(au S n).map fun ds=>ds[i]?
noncomputable def nxR (lo:Int) (n:Nat):Nxt:=fun i _=>some (if i < n then some (.int (lo+i)) else none)
noncomputable def ci (i:Nat) (d:D):D:=.tup [.int i,d]
noncomputable def enm (ds:List D) (i:Nat):Option (Option D):=if i<=ds.length then some (ds[i]?.map (ci i)) else none
noncomputable def pC (ds:List D):Nxt:=fun i _=>enm ds i
noncomputable def Az (n:Nat):Nxt:=fun i S=>(au S n).bind fun ds=>enm ds i
section
variable {X:Cx} {K:PySem.W.Frag} {m B:List Addr} {H:Hp} {S:Sto}
theorem AA {m0 m:List Addr} {H0 H:Hp} {S0:Sto} {a:Addr} {xs:List V} (R:Rel K m0 S0 H0) (hB:AtB B m0 H0) (x:ExtB B m0 H0 m H) (h:H0 a=some (.tup xs)):H a=some (.tup xs):=x.keep _ _ h (R.notTup h) fun z=>by
 obtain ⟨⟨vs,e⟩,_⟩:=hB a z
 rw [e] at h;cases h
theorem VDs.monoB {m0 m:List Addr} {H0 H:Hp} {S0:Sto} {ds:List D} {vs:List V} (R:Rel K m0 S0 H0) (hB:AtB B m0 H0) (x:ExtB B m0 H0 m H) (h:VDs K m0 H0 ds vs):VDs K m H ds vs:=VDs.mono0 x.pre (fun _ _=>AA R hB x) h
theorem VD.monoB {m0 m:List Addr} {H0 H:Hp} {S0:Sto} {d:D} {v:V} (R:Rel K m0 S0 H0) (hB:AtB B m0 H0) (x:ExtB B m0 H0 m H) (h:VD K m0 H0 d v):VD K m H d v:=VD.mono0 x.pre (fun _ _=>AA R hB x) h
theorem EnvR.monoB {m0 m:List Addr} {H0 H:Hp} {S0:Sto} {ρ:Rho} {σ:L2.St} (R:Rel K m0 S0 H0) (hB:AtB B m0 H0) (x:ExtB B m0 H0 m H) (h:EnvR K m0 H0 ρ σ):EnvR K m H ρ σ:=
 ⟨h.len,fun i d e=>let ⟨v,p,q⟩:=h.at_ i d e;⟨v,p,VD.monoB R hB x q⟩⟩
theorem pD {a:Addr} {nx:Nxt} {m0:List Addr} {H0:Hp} (h:∀ m S H i o,ExtB B m0 H0 m H->Rel K m S H->nx i S=some o->∃ ds vs,o=ds[i]?/\SqL K H a vs/\VDs K m H ds vs):IOk K B (Itl K a) nx m0 H0:=by
 intro m S H i x R
 refine ⟨fun e=>?_,fun d e=>?_⟩
 ·obtain ⟨ds,vs,e',sq,vd⟩:=h m S H i _ x R e
  exact ⟨vs,sq,by rw [<-vd.length];exact List.getElem?_eq_none_iff.mp e'.symm⟩
 ·obtain ⟨ds,vs,e',sq,vd⟩:=h m S H i _ x R e
  obtain ⟨v,hv,vv⟩:=vd.get e'.symm
  refine ⟨⟨vs,v,sq,hv⟩,fun y H' ⟨eH,hy⟩=>?_⟩
  subst eH
  have:=hy vs sq
  rw [hv] at this
  cases this
  exact ⟨Aft.refl R,vv⟩
theorem AB {a:Addr} {ds:List D} {vs:List V} {m0:List Addr} {H0:Hp} {S0:Sto} (R0:Rel K m0 S0 H0) (hB:AtB B m0 H0) (sq:H0 a=some (.tup vs)) (vd:VDs K m0 H0 ds vs):IOk K B (Itt K a) (nxL ds) m0 H0:=by
 intro m S H i x R
 have sq':SqT K H a vs:=.of (AA R0 hB x sq)
 have vd':=vd.monoB R0 hB x
 refine ⟨fun e=>⟨vs,sq',?_⟩,fun d e=>?_⟩
 ·rw [<-vd'.length];exact List.getElem?_eq_none_iff.mp (Option.some.inj e)
 ·obtain ⟨v,hv,vv⟩:=vd'.get (Option.some.inj e)
  refine ⟨⟨vs,v,sq',hv⟩,fun y H' ⟨eH,hy⟩=>?_⟩
  subst eH
  have:=hy vs sq'
  rw [hv] at this
  cases this
  exact ⟨Aft.refl R,vv⟩
theorem sZ {lo:Int} {n:Nat} {m0:List Addr} {H0:Hp}:IOk K B (Itr lo n) (nxR lo n) m0 H0:=by
 intro m S H i x R
 unfold nxR
 refine ⟨fun e=>?_,fun d e=>?_⟩
 ·split at e
  ·cases e
  ·show n<=i;omega
 ·split at e
  ·rename_i hi
   cases e
   exact ⟨hi,fun y H' ⟨eH,hy⟩=>by subst eH;subst hy;exact ⟨Aft.refl R,bq⟩⟩
  ·cases e
theorem nG {a:Addr} {sqf:PySem.W.Frag->Hp->Addr->List V->Prop} {nx:Nxt} {m0:List Addr} {H0:Hp} (h:∀ m S H i o,ExtB B m0 H0 m H->Rel K m S H->nx i S=some o->∃ ds vs,enm ds i=some o/\sqf K H a vs/\VDs K m H ds vs):IOk K B (Ite K a sqf) nx m0 H0:=by
 intro m S H i x R
 refine ⟨fun e=>?_,fun d e=>?_⟩
 ·obtain ⟨ds,vs,e',sq,vd⟩:=h m S H i _ x R e
  unfold enm at e'
  split at e'
  ·rename_i hl
   refine ⟨vs,sq,?_⟩
   rw [<-vd.length]
   cases hd:ds[i]? with
   | none=>have:=List.getElem?_eq_none_iff.mp hd;omega
   | some z=>rw [hd] at e';cases e'
  ·cases e'
 ·obtain ⟨ds,vs,e',sq,vd⟩:=h m S H i _ x R e
  unfold enm at e'
  split at e'
  ·cases hd:ds[i]? with
   | none=>rw [hd] at e';cases e'
   | some z=>
    rw [hd] at e'
    cases e'
    obtain ⟨v,hv,vv⟩:=vd.get hd
    refine ⟨⟨vs,v,sq,hv⟩,fun y H' ⟨T,hT,ey,hy⟩=>?_⟩
    subst ey
    have eH:=hy vs v sq hv
    subst eH
    have xb:=Ext.beside R hT (.tup [.int i,v])
    exact ⟨⟨xb,R.beside hT _⟩,nA bx (.cons bq (.cons (vv.mono R xb) .nil))⟩
  ·cases e'
noncomputable def LD (d:D):Option Nxt:=match d with
 | .tup ds=>some (nxL ds)
 | .ref n=>some (nxS n)
 | _=>none
noncomputable def xIV (x:XE):XI:=fun ρ S=>bnd (x ρ S) fun d S1=>match d with
 | .tup ds=>some (nxL ds,S1)
 | .ref n=>if (au S1 n).isSome=true then some (nxS n,S1) else none
 | _=>none
noncomputable def xIT (x:XA):XI:=fun ρ S=>bnd (x ρ S) fun ds S1=>some (nxL ds,S1)
noncomputable def xEV (x:XE):XI:=fun ρ S=>bnd (x ρ S) fun d S1=>match d with
 | .tup ds=>some (pC ds,S1)
 | .ref n=>if (au S1 n).isSome=true then some (Az n,S1) else none
 | _=>none
noncomputable def xET (x:XA):XI:=fun ρ S=>bnd (x ρ S) fun ds S1=>some (pC ds,S1)
noncomputable def lim (i:Int):Bool:=decide (-(2 ^ 62)<=i) && decide (i < 2 ^ 62)
noncomputable def xR1 (x:XE):XI:=fun ρ S=>bnd (x ρ S) fun d S1=>match d with
 | .int j=>if lim j=true then some (nxR 0 j.toNat,S1) else none
 | _=>none
noncomputable def xR2 (x y:XE):XI:=fun ρ S=>bnd (x ρ S) fun d S1=>bnd (y ρ S1) fun e S2=>match d,e with
 | .int i,.int j=>if lim i=true/\lim j=true then some (nxR i (j - i).toNat,S2) else none
 | _,_=>none
theorem iW {i:Int} (h:lim i=true):-(2 ^ 62)<=i/\i < 2 ^ 62:=by simpa [lim] using h
theorem jU {n:Nat} {a:Addr} {m0:List Addr} (ha:m0[n]?=some a) {m:List Addr} {S:Sto} {H:Hp} (x:m0 <+: m) (R:Rel K m S H) {ds:List D} (hs:au S n=some ds):∃ vs,SqL K H a vs/\VDs K m H ds vs:=by
 obtain ⟨p,vs,hp,sq,vd⟩:=R.seq hs
 have:=nw x ha
 rw [this] at hp
 cases hp
 exact ⟨vs,sq,vd⟩
theorem Jh {a:Addr} (hB:AtB B m H) (h:H a=none):a ∉ B:=fun z=>by
 obtain ⟨⟨vs,e⟩,_⟩:=hB a z
 rw [h] at e;cases e
theorem K9 {x:XE} {σ:L2.St} {H:Hp} {R:It->Hp->Prop} (h:tIt K B (xIV x) σ H R):v7 K (tE K x) σ H R\/IC K (tE K x) σ H R:=by
 obtain ⟨m,ρ,S,nx,S',E,Rl,hB,e,q⟩:=h
 obtain ⟨d,S1,e1,e⟩:=ab e
 cases d with
 | tup ds=>
  cases e
  refine .inr ⟨m,ρ,S,_,_,E,Rl,e1,fun m1 H1 v A1 vd=>?_⟩
  obtain ⟨a,vs,rfl,sq,vds⟩:=vd.tups
  exact ⟨a,rfl,⟨vs,.of sq⟩,q m1 H1 _ A1 (AB A1.rel (hB.ext A1.ext) sq vds)⟩
 | ref n=>
  dsimp only at e
  split at e
  ·rename_i hs
   cases e
   refine .inl ⟨m,ρ,S,_,_,E,Rl,e1,fun m1 H1 v A1 vd=>?_⟩
   obtain ⟨a,ha,rfl⟩:=vd.refs
   obtain ⟨ds,hds⟩:=Option.isSome_iff_exists.mp hs
   obtain ⟨vs,sq,vds⟩:=jU ha (List.prefix_refl _) A1.rel hds
   refine ⟨a,rfl,⟨vs,sq⟩,q m1 H1 _ A1 (pD fun m2 S2 H2 i o x2 R2 e2=>?_)⟩
   unfold nxS at e2
   cases h2:au S2 n with
   | none=>rw [h2] at e2;cases e2
   | some es=>
    rw [h2] at e2
    cases e2
    obtain ⟨ws,sq2,vd2⟩:=jU ha x2.pre R2 h2
    exact ⟨es,ws,rfl,sq2,vd2⟩
  ·cases e
 | _=>cases e
theorem La {x:XA} {σ:L2.St} {H:Hp} {R:It->Hp->Prop} (h:tIt K B (xIT x) σ H R):v7 K (gB K x) σ H R:=by
 obtain ⟨m,ρ,S,nx,S',E,Rl,hB,e,q⟩:=h
 obtain ⟨ds,S1,e1,e⟩:=ab e
 cases e
 refine ⟨m,ρ,S,_,_,E,Rl,e1,fun m1 H1 a vs A1 sq n1 n2 n3 vd=>⟨a,rfl,⟨vs,.of sq⟩,q m1 H1 _ A1 (pD fun m2 S2 H2 i o x2 R2 e2=>?_)⟩⟩
 cases e2
 exact ⟨ds,vs,rfl,.of (x2.keep _ _ sq n1 (Jh hB n3)),vd.monoB A1.rel (hB.ext A1.ext) x2⟩
theorem Ji {x:XE} {σ:L2.St} {H:Hp} {R:It->Hp->Prop} (h:tIt K B (xEV x) σ H R):Ep K (cW (tE K x) j7) σ H R\/I0 K (cW (tE K x) j7) σ H R:=by
 obtain ⟨m,ρ,S,nx,S',E,Rl,hB,e,q⟩:=h
 obtain ⟨d,S1,e1,e⟩:=ab e
 cases d with
 | tup ds=>
  cases e
  refine .inr ⟨m,ρ,S,_,_,E,Rl,e1,fun m1 H1 v A1 vd=>?_⟩
  obtain ⟨a,vs,rfl,sq,vds⟩:=vd.tups
  refine ⟨a,vs,rfl,.of sq,q m1 H1 _ A1 (nG fun m2 S2 H2 i o x2 R2 e2=>⟨ds,vs,e2,.of (AA A1.rel (hB.ext A1.ext) x2 sq),vds.monoB A1.rel (hB.ext A1.ext) x2⟩)⟩
 | ref n=>
  dsimp only at e
  split at e
  ·rename_i hs
   cases e
   refine .inl ⟨m,ρ,S,_,_,E,Rl,e1,fun m1 H1 v A1 vd=>?_⟩
   obtain ⟨a,ha,rfl⟩:=vd.refs
   obtain ⟨ds,hds⟩:=Option.isSome_iff_exists.mp hs
   obtain ⟨vs,sq,vds⟩:=jU ha (List.prefix_refl _) A1.rel hds
   refine ⟨a,vs,rfl,sq,q m1 H1 _ A1 (nG fun m2 S2 H2 i o x2 R2 e2=>?_)⟩
   unfold Az at e2
   cases h2:au S2 n with
   | none=>rw [h2] at e2;cases e2
   | some es=>
    rw [h2] at e2
    obtain ⟨ws,sq2,vd2⟩:=jU ha x2.pre R2 h2
    exact ⟨es,ws,e2,sq2,vd2⟩
  ·cases e
 | _=>cases e
theorem Jj {x:XA} {σ:L2.St} {H:Hp} {R:It->Hp->Prop} (h:tIt K B (xET x) σ H R):Ep K (cW (gB K x) j7) σ H R:=by
 obtain ⟨m,ρ,S,nx,S',E,Rl,hB,e,q⟩:=h
 obtain ⟨ds,S1,e1,e⟩:=ab e
 cases e
 exact ⟨m,ρ,S,_,_,E,Rl,e1,fun m1 H1 a vs A1 sq n1 n2 n3 vd=>⟨a,vs,rfl,.of sq,q m1 H1 _ A1 (nG fun m2 S2 H2 i o x2 R2 e2=>⟨ds,vs,e2,.of (x2.keep _ _ sq n1 (Jh hB n3)),vd.monoB A1.rel (hB.ext A1.ext) x2⟩)⟩⟩
theorem Jk {x:XE} {σ:L2.St} {H:Hp} {R:It->Hp->Prop} (h:tIt K B (xR1 x) σ H R):C7 (cW (tE K x) j7) σ H R:=by
 obtain ⟨m,ρ,S,nx,S',E,Rl,hB,e,q⟩:=h
 obtain ⟨d,S1,e1,e⟩:=ab e
 refine ⟨m,ρ,S,d,S1,E,Rl,e1,fun m1 H1 v A1 vd=>?_⟩
 cases d with
 | int j=>
  dsimp only at e
  split at e
  ·rename_i hl
   cases e
   exact ⟨j,by rw [vd.ints],(iW hl).1,(iW hl).2,q m1 H1 _ A1 sZ⟩
  ·cases e
 | _=>cases e
theorem Jl {x y:XE} {σ:L2.St} {H:Hp} {R:It->Hp->Prop} (h:tIt K B (xR2 x y) σ H R):C8 (cW (tE K x) (cW (tE K y) j7)) σ H R:=by
 obtain ⟨m,ρ,S,nx,S',E,Rl,hB,e,q⟩:=h
 obtain ⟨d,S1,e1,e⟩:=ab e
 obtain ⟨c,S2,e2,e⟩:=ab e
 refine ⟨m,ρ,S,d,S1,E,Rl,e1,fun m1 H1 v A1 vd=>⟨m1,ρ,S1,c,S2,E.mono Rl A1.ext,A1.rel,e2,fun m2 H2 w A2 vc=>?_⟩⟩
 cases d with
 | int i=>
  cases c with
  | int j=>
   dsimp only at e
   split at e
   ·rename_i hl
    cases e
    exact ⟨i,j,by rw [vd.ints,vc.ints],⟨(iW hl.1).1,(iW hl.1).2,(iW hl.2).1,(iW hl.2).2⟩,q m2 H2 _ (A1.trans A2) sZ⟩
   ·cases e
  | _=>cases e
 | _=>cases e
inductive Tg where
 | name (i:Nat) | tup (ts:List Tg)
mutual
noncomputable def ax:Tg->D->Rho->Option Rho
 | .name i,d,ρ=>if i < ρ.length then some (ρ.set i (some d)) else none
 | .tup ts,.tup ds,ρ=>aK ts ds ρ
 | _,_,_=>none
noncomputable def aK:List Tg->List D->Rho->Option Rho
 | [],[],ρ=>some ρ
 | t::ts,d::ds,ρ=>match ax t d ρ with
  | some ρ'=>aK ts ds ρ'
  | none=>none
 | _,_,_=>none
end
noncomputable def tTg (K:PySem.W.Frag) (t:Tg):TG:=fun x σ H Q=>∃ m S ρ d ρ',Rel K m S H/\EnvR K m H ρ σ/\VD K m H d x/\ax t d ρ=some ρ'/\∀ σ',EnvR K m H ρ' σ'->Q σ' H
noncomputable def xF (K:PySem.W.Frag) (ts:List Tg):TGs:=fun xs σ H Q=>∃ m S ρ ds ρ',Rel K m S H/\EnvR K m H ρ σ/\VDs K m H ds xs/\aK ts ds ρ=some ρ'/\∀ σ',EnvR K m H ρ' σ'->Q σ' H
theorem EnvR.set {ρ:Rho} {σ:L2.St} {i:Nat} {d:D} {v:V} (E:EnvR K m H ρ σ) (h:VD K m H d v):EnvR K m H (ρ.set i (some d)) (σ.set i (some v)):=by
 refine ⟨by simp [E.len],fun j d' e=>?_⟩
 rw [List.getElem?_set] at e
 rw [List.getElem?_set,<-E.len]
 by_cases hj:i=j
 ·rw [if_pos hj] at e ⊢
  split at e
  ·rename_i hl
   rw [if_pos hl]
   cases e
   exact ⟨v,rfl,h⟩
  ·cases e
 ·rw [if_neg hj] at e ⊢
  exact E.at_ j d' e
theorem nI {i:Nat} {x:V} {σ:L2.St} {H:Hp} {Q:L2.St->Hp->Prop} (h:tTg K (.name i) x σ H Q):oE i x σ H Q:=by
 obtain ⟨m,S,ρ,d,ρ',R,E,vd,e,q⟩:=h
 simp only [ax] at e
 split at e
 ·cases e;exact q _ (E.set vd)
 ·cases e
theorem E6 {ts:List Tg} {n:Nat} {x:V} {σ:L2.St} {H:Hp} {Q:L2.St->Hp->Prop} (hn:n=ts.length) (h:tTg K (.tup ts) x σ H Q):Iz K n (xF K ts) x σ H Q:=by
 obtain ⟨m,S,ρ,d,ρ',R,E,vd,e,q⟩:=h
 cases d with
 | tup ds=>
  simp only [ax] at e
  obtain ⟨a,vs,rfl,sq,vds⟩:=vd.tups
  refine ⟨a,vs,rfl,.of sq,?_,m,S,ρ,ds,ρ',R,E,vds,e,q⟩
  have len:∀ (ts:List Tg) (ds:List D) (ρ ρ':Rho),aK ts ds ρ=some ρ'->ts.length=ds.length:=by
   intro ts
   induction ts with
   | nil=>intro ds ρ ρ' e;cases ds with | nil=>rfl | cons _ _=>simp [aK] at e
   | cons t ts ih=>
    intro ds ρ ρ' e
    cases ds with
    | nil=>simp [aK] at e
    | cons d ds=>
     simp only [aK] at e
     split at e
     ·simp [ih _ _ _ e]
     ·cases e
  rw [hn,<-vds.length]
  exact (len _ _ _ _ e).symm
 | _=>simp [ax] at e
theorem AC {xs:List V} {σ:L2.St} {H:Hp} {Q:L2.St->Hp->Prop} (h:xF K [] xs σ H Q):Iy xs σ H Q:=by
 obtain ⟨m,S,ρ,ds,ρ',R,E,vd,e,q⟩:=h
 cases ds with
 | nil=>simp [aK] at e;subst e;rw [VDs] at vd;exact ⟨vd,q _ E⟩
 | cons _ _=>simp [aK] at e
theorem xG {t:Tg} {ts:List Tg} {xs:List V} {σ:L2.St} {H:Hp} {Q:L2.St->Hp->Prop} (h:xF K (t::ts) xs σ H Q):C6 (tTg K t) (xF K ts) xs σ H Q:=by
 obtain ⟨m,S,ρ,ds,ρ',R,E,vd,e,q⟩:=h
 cases ds with
 | nil=>simp [aK] at e
 | cons d ds=>
  simp only [aK] at e
  rw [VDs] at vd
  obtain ⟨y,r,rfl,p,p'⟩:=vd
  cases hb:ax t d ρ with
  | none=>rw [hb] at e;cases e
  | some ρ1=>
   rw [hb] at e
   exact ⟨y,r,rfl,m,S,ρ,d,ρ1,R,E,p,hb,fun σ' E'=>⟨m,S,ρ1,ds,ρ',R,E',p',e,q⟩⟩
theorem PG.imp {e:Expr} {t t':TG} (h:PG X e t) (f:∀ x σ H Q,t' x σ H Q->t x σ H Q):PG X e t':=fun pins s σ H v u Q I r q=>h pins s σ H v u Q I r (f v σ H Q q)
theorem PGs.imp {es:List Expr} {t t':TGs} (h:PGs X es t) (f:∀ x σ H Q,t' x σ H Q->t x σ H Q):PGs X es t':=fun pins s σ H v u Q I r q=>h pins s σ H v u Q I r (f v σ H Q q)
end
end Ev
namespace Ev
open PySem PySem.Spec PyProof.Rows L2
inductive Fl where
 | nx | bk | ct | rt (d:D)
noncomputable abbrev XS:=Rho->Sto->Option (Fl × Rho × Sto)
noncomputable def tq (K:PySem.W.Frag) (m:List Addr) (H:Hp) (fl:Fl) (ρ:Rho) (D:Ends):Prop:=match fl with
 | .nx=>∀ σ,EnvR K m H ρ σ->D.nx σ H
 | .bk=>∀ σ,EnvR K m H ρ σ->D.bk σ H
 | .ct=>∀ σ,EnvR K m H ρ σ->D.ct σ H
 | .rt d=>∀ v,VD K m H d v->D.rt v H
noncomputable def tSt (K:PySem.W.Frag) (x:XS):TS:=fun D σ H=>∃ m ρ S fl ρ' S',EnvR K m H ρ σ/\Rel K m S H/\x ρ S=some (fl,ρ',S')/\∀ m' H',Aft K m H S' m' H'->tq K m' H' fl ρ' D
section
variable {X:Cx} {K:PySem.W.Frag} {m:List Addr} {H:Hp} {S:Sto}
noncomputable def xH (x y:XS):XS:=fun ρ S=>match x ρ S with
 | none=>none
 | some (.nx,ρ1,S1)=>y ρ1 S1
 | some r=>some r
noncomputable def Dj:XS:=fun ρ S=>some (.nx,ρ,S)
theorem AD {D:Ends} {σ:L2.St} {H:Hp} (h:tSt K Dj D σ H):C3 D σ H:=by
 obtain ⟨m,ρ,S,fl,ρ',S',E,R,e,q⟩:=h
 cases e
 exact q m H (Aft.refl R) σ E
theorem E7 {x y:XS} {D:Ends} {σ:L2.St} {H:Hp} (h:tSt K (xH x y) D σ H):Iu (tSt K x) (tSt K y) D σ H:=by
 obtain ⟨m,ρ,S,fl,ρ',S',E,R,e,q⟩:=h
 unfold xH at e
 cases hx:x ρ S with
 | none=>rw [hx] at e;cases e
 | some r=>
  obtain ⟨f1,ρ1,S1⟩:=r
  rw [hx] at e
  refine ⟨m,ρ,S,f1,ρ1,S1,E,R,hx,fun m1 H1 A1=>?_⟩
  cases f1 with
  | nx=>exact fun σ1 E1=>⟨m1,ρ1,S1,fl,ρ',S',E1,A1.rel,e,fun m2 H2 A2=>q m2 H2 (A1.trans A2)⟩
  | bk=>cases e;exact q m1 H1 A1
  | ct=>cases e;exact q m1 H1 A1
  | rt d=>cases e;exact q m1 H1 A1
noncomputable def pE (x:XE):XS:=fun ρ S=>match x ρ S with
 | none=>none
 | some (_,S1)=>some (.nx,ρ,S1)
noncomputable def xI (x:XE):XS:=fun ρ S=>match x ρ S with
 | none=>none
 | some (d,S1)=>some (.rt d,ρ,S1)
noncomputable def Jm:XS:=fun ρ S=>some (.ct,ρ,S)
theorem AE {x:XE} {D:Ends} {σ:L2.St} {H:Hp} (h:tSt K (pE x) D σ H):C5 (tE K x) D σ H:=by
 obtain ⟨m,ρ,S,fl,ρ',S',E,R,e,q⟩:=h
 unfold pE at e
 cases hx:x ρ S with
 | none=>rw [hx] at e;cases e
 | some r=>
  obtain ⟨d,S1⟩:=r
  rw [hx] at e
  cases e
  exact ⟨m,ρ,S,d,_,E,R,hx,fun m1 H1 v A1 _=>q m1 H1 A1 σ (E.mono R A1.ext)⟩
theorem E8 {x:XE} {D:Ends} {σ:L2.St} {H:Hp} (h:tSt K (xI x) D σ H):Iv (tE K x) D σ H:=by
 obtain ⟨m,ρ,S,fl,ρ',S',E,R,e,q⟩:=h
 unfold xI at e
 cases hx:x ρ S with
 | none=>rw [hx] at e;cases e
 | some r=>
  obtain ⟨d,S1⟩:=r
  rw [hx] at e
  cases e
  exact ⟨m,ρ,S,d,_,E,R,hx,fun m1 H1 v A1 vd=>q m1 H1 A1 v vd⟩
theorem E9 {D:Ends} {σ:L2.St} {H:Hp} (h:tSt K Jm D σ H):C4 D σ H:=by
 obtain ⟨m,ρ,S,fl,ρ',S',E,R,e,q⟩:=h
 cases e
 exact q m H (Aft.refl R) σ E
noncomputable def xIf (c:XT) (x y:XS):XS:=fun ρ S=>match c ρ S with
 | none=>none
 | some (b,S1)=>if b=true then x ρ S1 else y ρ S1
theorem Jn {c:XT} {x y:XS} {D:Ends} {σ:L2.St} {H:Hp} (h:tSt K (xIf c x y) D σ H):Iw (tT K c) (tSt K x) (tSt K y) D σ H:=by
 obtain ⟨m,ρ,S,fl,ρ',S',E,R,e,q⟩:=h
 unfold xIf at e
 cases hc:c ρ S with
 | none=>rw [hc] at e;cases e
 | some r=>
  obtain ⟨b,S1⟩:=r
  rw [hc] at e
  dsimp only at e
  refine ⟨m,ρ,S,b,S1,E,R,hc,fun m1 H1 A1=>?_⟩
  dsimp only
  split
  ·rename_i hb
   rw [if_pos hb] at e
   exact ⟨m1,ρ,S1,fl,ρ',S',E.mono R A1.ext,A1.rel,e,fun m2 H2 A2=>q m2 H2 (A1.trans A2)⟩
  ·rename_i hb
   rw [if_neg hb] at e
   exact ⟨m1,ρ,S1,fl,ρ',S',E.mono R A1.ext,A1.rel,e,fun m2 H2 A2=>q m2 H2 (A1.trans A2)⟩
noncomputable def kD (x:XE) (t:Tg):XS:=fun ρ S=>match x ρ S with
 | none=>none
 | some (d,S1)=>(ax t d ρ).map fun ρ1=>(.nx,ρ1,S1)
theorem rD {x:XE} {t:Tg} {D:Ends} {σ:L2.St} {H:Hp} (h:tSt K (kD x t) D σ H):vY (tE K x) (tTg K t) D σ H:=by
 obtain ⟨m,ρ,S,fl,ρ',S',E,R,e,q⟩:=h
 unfold kD at e
 cases hx:x ρ S with
 | none=>rw [hx] at e;cases e
 | some r=>
  obtain ⟨d,S1⟩:=r
  rw [hx] at e
  dsimp only at e
  cases hb:ax t d ρ with
  | none=>rw [hb] at e;cases e
  | some ρ1=>
   rw [hb] at e
   cases e
   exact ⟨m,ρ,S,d,_,E,R,hx,fun m1 H1 v A1 vd=>⟨m1,_,ρ,d,_,A1.rel,E.mono R A1.ext,vd,hb,fun σ' E'=>q m1 H1 A1 σ' E'⟩⟩
noncomputable def pF (v o i:XE):XS:=fun ρ S=>match v ρ S with
 | none=>none
 | some (dv,S1)=>match o ρ S1 with
  | none=>none
  | some (d_o,S2)=>match i ρ S2 with
   | none=>none
   | some (di,S3)=>(kB d_o di dv S3).map fun S4=>(.nx,ρ,S4)
theorem AF {v o i:XE} {D:Ends} {σ:L2.St} {H:Hp} (h:tSt K (pF v o i) D σ H):vY (tE K v) (IA (tE K o) (tE K i) (Jf K)) D σ H:=by
 obtain ⟨m,ρ,S,fl,ρ',S',E,R,e,q⟩:=h
 unfold pF at e
 cases h1:v ρ S with
 | none=>rw [h1] at e;cases e
 | some r1=>
  obtain ⟨dv,S1⟩:=r1
  rw [h1] at e
  dsimp only at e
  cases h2:o ρ S1 with
  | none=>rw [h2] at e;cases e
  | some r2=>
   obtain ⟨d2,S2⟩:=r2
   rw [h2] at e
   dsimp only at e
   cases h3:i ρ S2 with
   | none=>rw [h3] at e;cases e
   | some r3=>
    obtain ⟨d3,S3⟩:=r3
    rw [h3] at e
    dsimp only at e
    cases h4:kB d2 d3 dv S3 with
    | none=>rw [h4] at e;cases e
    | some S4=>
     rw [h4] at e
     cases e
     refine ⟨m,ρ,S,dv,S1,E,R,h1,fun m1 H1 v1 A1 vd1=>⟨m1,ρ,S1,d2,S2,E.mono R A1.ext,A1.rel,h2,fun m2 H2 v2 A2 vd2=>⟨m2,ρ,S2,d3,S3,E.mono R (A1.trans A2).ext,A2.rel,h3,fun m3 H3 v3 A3 vd3=>?_⟩⟩⟩
     exact ⟨m3,S3,d2,d3,dv,_,A3.rel,vd2.mono A2.rel A3.ext,vd3,vd1.mono A1.rel (A2.trans A3).ext,h4,fun m4 H4 A4=>q m4 H4 (((A1.trans A2).trans A3).trans A4) σ (E.mono R (((A1.trans A2).trans A3).trans A4).ext)⟩
noncomputable def dZ (nx:Nxt) (tg:Tg) (b:XS):Nat->Nat->XS
 | 0,_=>fun _ _=>none
 | k+1,i=>fun ρ S=>match nx i S with
  | none=>none
  | some none=>some (.nx,ρ,S)
  | some (some d)=>match ax tg d ρ with
   | none=>none
   | some ρ1=>match b ρ1 S with
    | none=>none
    | some (.nx,ρ2,S2)=>dZ nx tg b k (i+1) ρ2 S2
    | some (.ct,ρ2,S2)=>dZ nx tg b k (i+1) ρ2 S2
    | some (.bk,ρ2,S2)=>some (.nx,ρ2,S2)
    | some (.rt d,ρ2,S2)=>some (.rt d,ρ2,S2)
noncomputable def xJ (it:XI) (tg:Tg) (b:XS) (k:Nat):XS:=fun ρ S=>match it ρ S with
 | none=>none
 | some (nx,S1)=>dZ nx tg b k 0 ρ S1
theorem AG {nx:Nxt} {tg:Tg} {b:XS} {J:It} {m1:List Addr} {H1:Hp} {D:Ends} (hI:IOk K [] J nx m1 H1) (k:Nat) {m:List Addr} {ρ:Rho} {S:Sto} {σ:L2.St} {H:Hp} {fl:Fl} {ρ':Rho} {S':Sto} (E:EnvR K m H ρ σ) (R:Rel K m S H) (x:Ext m1 H1 m H) (e:dZ nx tg b k 0 ρ S=some (fl,ρ',S')) (q:∀ m' H',Aft K m H S' m' H'->tq K m' H' fl ρ' D) :
  ∃ W:Nat->Nat->L2.St->Hp->Prop,(∃ m,W 0 m σ H)/\∀ i m σ H,W i m σ H ->
   (J.stop i H/\D.nx σ H)\/(J.go i H/\∃ N:L2.St->Hp->Prop,(∀ σ' H',N σ' H'->∃ m',m' < m/\W (i+1) m' σ' H')/\∀ x H',J.yld i H x H'->tTg K tg x σ H' fun σ2 H2=>tSt K b { D with nx:=N,ct:=N,bk:=D.nx } σ2 H2):=by
 refine ⟨fun i k σ H=>∃ m ρ S fl ρ' S',EnvR K m H ρ σ/\Rel K m S H/\Ext m1 H1 m H/\dZ nx tg b k i ρ S=some (fl,ρ',S')/\∀ m' H',Aft K m H S' m' H'->tq K m' H' fl ρ' D,⟨k,m,ρ,S,fl,ρ',S',E,R,x,e,q⟩,?_⟩
 intro i k σ H ⟨m,ρ,S,fl,ρ',S',E,R,x,e,q⟩
 cases k with
 | zero=>simp [dZ] at e
 | succ k=>
  simp only [dZ] at e
  cases hn:nx i S with
  | none=>rw [hn] at e;cases e
  | some o=>
   rw [hn] at e
   obtain ⟨h1,h2⟩:=hI m S H i (x.toB fun b hb=>absurd hb (by simp)) R
   cases o with
   | none=>cases e;exact .inl ⟨h1 hn,q m H (Aft.refl R) σ E⟩
   | some d=>
    obtain ⟨go,hy⟩:=h2 d hn
    dsimp only at e
    cases hb:ax tg d ρ with
    | none=>rw [hb] at e;cases e
    | some ρ1=>
     rw [hb] at e
     dsimp only at e
     cases hx:b ρ1 S with
     | none=>rw [hx] at e;cases e
     | some r=>
      obtain ⟨f2,ρ2,S2⟩:=r
      rw [hx] at e
      refine .inr ⟨go,fun σ' H'=>∃ m ρ S fl ρ' S',EnvR K m H' ρ σ'/\Rel K m S H'/\Ext m1 H1 m H'/\dZ nx tg b k (i+1) ρ S=some (fl,ρ',S')/\∀ m' H'',Aft K m H' S' m' H''->tq K m' H'' fl ρ' D,fun σ' H' z=>⟨k,Nat.lt_succ_self k,z⟩,fun y H' yl=>?_⟩
      obtain ⟨A,vd⟩:=hy y H' yl
      refine ⟨m,S,ρ,d,ρ1,A.rel,E.mono R A.ext,vd,hb,fun σ2 E2=>⟨m,ρ1,S,f2,ρ2,S2,E2,A.rel,hx,fun m3 H3 A3=>?_⟩⟩
      cases f2 with
      | nx=>exact fun σ3 E3=>⟨m3,ρ2,S2,fl,ρ',S',E3,A3.rel,(x.trans A.ext).trans A3.ext,e,fun m4 H4 A4=>q m4 H4 ((A.trans A3).trans A4)⟩
      | ct=>exact fun σ3 E3=>⟨m3,ρ2,S2,fl,ρ',S',E3,A3.rel,(x.trans A.ext).trans A3.ext,e,fun m4 H4 A4=>q m4 H4 ((A.trans A3).trans A4)⟩
      | bk=>cases e;exact fun σ3 E3=>q m3 H3 (A.trans A3) σ3 E3
      | rt d=>cases e;exact fun v vd=>q m3 H3 (A.trans A3) v vd
theorem Fa {it:XI} {tg:Tg} {b:XS} {k:Nat} {D:Ends} {σ:L2.St} {H:Hp} (h:tSt K (xJ it tg b k) D σ H):IE (tIt K [] it) (tTg K tg) (tSt K b) D σ H:=by
 obtain ⟨m,ρ,S,fl,ρ',S',E,R,e,q⟩:=h
 unfold xJ at e
 cases hi:it ρ S with
 | none=>rw [hi] at e;cases e
 | some r=>
  obtain ⟨nx,S1⟩:=r
  rw [hi] at e
  exact ⟨m,ρ,S,nx,S1,E,R,fun b hb=>absurd hb (by simp),hi,fun m1 H1 J A1 hI=>AG hI k (E.mono R A1.ext) A1.rel (Ext.refl _ _) e fun m2 H2 A2=>q m2 H2 (A1.trans A2)⟩
end
end Ev
namespace Ev
open PySem PySem.Spec PyProof.Rows L2
mutual
noncomputable def cY:Tg->Rho->Bool
 | .name i,ρ=>match ρ[i]? with
  | some none=>true
  | _=>false
 | .tup ts,ρ=>fo ts ρ
noncomputable def fo:List Tg->Rho->Bool
 | [],_=>true
 | t::ts,ρ=>cY t ρ && fo ts ρ
end
structure LeR (ρ ρ':Rho):Prop where
 len:ρ.length=ρ'.length
 at_:∀ (i:Nat) (d:D),ρ[i]?=some (some d)->ρ'[i]?=some (some d)
theorem LeR.refl (ρ:Rho):LeR ρ ρ:=⟨rfl,fun _ _ h=>h⟩
mutual
theorem pG {ρ0:Rho}:∀ {t:Tg} {d:D} {ρ ρ':Rho},LeR ρ0 ρ->cY t ρ0=true->ax t d ρ=some ρ'->LeR ρ0 ρ'
 | .name i,d,ρ,ρ',l,f,e=>by
  simp only [ax] at e
  split at e
  ·cases e
   refine ⟨by simp [l.len],fun j d' h=>?_⟩
   rw [List.getElem?_set]
   by_cases hj:i=j
   ·subst hj
    simp only [cY] at f
    rw [h] at f
    cases f
   ·rw [if_neg hj];exact l.at_ j d' h
  ·cases e
 | .tup ts,.tup ds,ρ,ρ',l,f,e=>by
  simp only [ax] at e
  simp only [cY] at f
  exact mE l f e
 | .tup ts,.non,_,_,_,_,e=>by simp [ax] at e
 | .tup ts,.bl _,_,_,_,_,e=>by simp [ax] at e
 | .tup ts,.int _,_,_,_,_,e=>by simp [ax] at e
 | .tup ts,.str _,_,_,_,_,e=>by simp [ax] at e
 | .tup ts,.ref _,_,_,_,_,e=>by simp [ax] at e
theorem mE {ρ0:Rho}:∀ {ts:List Tg} {ds:List D} {ρ ρ':Rho},LeR ρ0 ρ->fo ts ρ0=true->aK ts ds ρ=some ρ'->LeR ρ0 ρ'
 | [],[],ρ,ρ',l,_,e=>by simp only [aK] at e;cases e;exact l
 | [],_::_,_,_,_,_,e=>by simp [aK] at e
 | _::_,[],_,_,_,_,e=>by simp [aK] at e
 | t::ts,d::ds,ρ,ρ',l,f,e=>by
  simp only [aK] at e
  simp only [fo,bAE] at f
  cases hb:ax t d ρ with
  | none=>rw [hb] at e;cases e
  | some ρ1=>rw [hb] at e;exact mE (pG l f.1 hb) f.2 e
end
section
variable {X:Cx} {K:PySem.W.Frag} {m:List Addr} {H:Hp} {S:Sto}
theorem EnvR.weaken {ρ ρ':Rho} {σ:L2.St} (E:EnvR K m H ρ' σ) (l:LeR ρ ρ'):EnvR K m H ρ σ:=⟨l.len.trans E.len,fun i d h=>E.at_ i d (l.at_ i d h)⟩
noncomputable def bj (nx:Nxt) (tg:Tg) (c:XA) (ρ:Rho):Nat->Nat->Sto->Option (List D × Sto)
 | 0,_,_=>none
 | k+1,i,S=>match nx i S with
  | none=>none
  | some none=>some ([],S)
  | some (some d)=>match ax tg d ρ with
   | none=>none
   | some ρ1=>bnd (c ρ1 S) fun es S1=>bnd (bj nx tg c ρ k (i+1) S1) fun rs S2=>some (es++rs,S2)
noncomputable def xK (t:XT) (c:XA):XA:=fun ρ S=>bnd (t ρ S) fun b S1=>if b=true then c ρ S1 else some ([],S1)
noncomputable def Dk (x:XE):XA:=fun ρ S=>bnd (x ρ S) fun d S1=>some ([d],S1)
noncomputable def iX (it:XI) (tg:Tg) (c:XA) (k:Nat):XA:=fun ρ S=>if cY tg ρ=true then bnd (it ρ S) fun nx S1=>bj nx tg c ρ k 0 S1 else none
noncomputable def kE (own:Nat) (it:XI) (tg:Tg) (c:XA) (k:Nat):XA:=fun ρ S=>bnd (it ρ S) fun nx S1=>if cY tg (ρ++List.replicate own none)=true then
 (bnd (bj nx tg c (ρ++List.replicate own none) k 0 S1) fun es S2=>if es.length<=100000 then some (es,S2) else none) else none
noncomputable def tCl (K:PySem.W.Frag) (acc:Addr) (c:XA):TS:=fun D σ H=>∃ m ρ S es S' zs vs,EnvR K m H ρ σ/\Rel K m S H/\acc ∉ m/\H acc=some (.lst vs)/\VDs K m H zs vs/\zs.length+es.length<=100000/\c ρ S=some (es,S') ∧
 ∀ m' H' σ' vs',ExtB [acc] m H m' H'->Rel K m' S' H'->H' acc=some (.lst vs')->VDs K m' H' (zs++es) vs'->EnvR K m' H' ρ σ'->D.nx σ' H'
theorem xL {acc:Addr} {vs:List V} (h:H acc=some (.lst vs)) (n:acc ∉ m):AtB [acc] m H:=fun b hb=>by simp at hb;subst hb;exact ⟨⟨vs,h⟩,n⟩
theorem ExtB.refl {acc:Addr} (n:acc ∉ m):ExtB [acc] m H m H:=⟨List.prefix_refl m,fun _ _ h _ _=>h,fun _ h n=>absurd h n,fun b hb=>by simp at hb;subst hb;exact n⟩
theorem ExtB.put {acc:Addr} (n:acc ∉ m) (o:HO):ExtB [acc] m H m (upd H acc o):=⟨List.prefix_refl m,fun a u h _ nb=>by
 rw [aC (fun z=>nb (by simp [z]))];exact h,fun _ h n=>absurd h n,fun b hb=>by simp at hb;subst hb;exact n⟩
theorem Rel.extB {acc:Addr} {H':Hp} (R:Rel K m S H) (hB:AtB [acc] m H) (x:ExtB [acc] m H m H') (k:∀ b ∈ m,H' b=H b):Rel K m S H':=by
 refine ⟨R.len,R.nd,fun i o e=>?_⟩
 obtain ⟨b,hb,r⟩:=R.ob i o e
 have hm:b ∈ m:=List.mem_of_getElem? hb
 refine ⟨b,hb,?_⟩
 cases o with
 | lst ds=>obtain ⟨vs,p,q⟩:=r;exact ⟨vs,(k b hm).trans p,VDs.monoB R hB x q⟩
 | frz ds=>obtain ⟨o,vs,p,q⟩:=r;exact ⟨o,vs,(k b hm).trans p,VDs.monoB R hB x q⟩
 | dic ks ds=>obtain ⟨vs,p,l,q⟩:=r;exact ⟨vs,(k b hm).trans p,l,VDs.monoB R hB x q⟩
theorem AH {acc:Addr} {x:XE} {D:Ends} {σ:L2.St} {H:Hp} (h:tCl K acc (Dk x) D σ H):Dd acc (tE K x) D σ H:=by
 obtain ⟨m,ρ,S,es,S',zs,vs,E,R,na,ha,vz,hl,e,q⟩:=h
 obtain ⟨d,S1,e1,e⟩:=ab e
 cases e
 refine ⟨m,ρ,S,d,_,E,R,e1,fun m1 H1 v A1 vd=>?_⟩
 have hB:=xL ha na
 have ha1:H1 acc=some (.lst vs):=A1.ext.keep _ _ ha na
 have xB:=A1.ext.toB hB
 have na1:acc ∉ m1:=xB.nb acc (by simp)
 have xp:=ExtB.put (H:=H1) na1 (.lst (vs++[v]))
 have hB1:=xL ha1 na1
 have lz:=vz.length
 simp only [List.length_singleton] at hl
 refine ⟨vs,ha1,by rw [sizeLine_eq];omega,q m1 _ σ (vs++[v]) (xB.trans xp) (A1.rel.extB hB1 xp fun b hb=>aC fun z=>na1 (z ▸ hb)) bx ?_ ((E.mono R A1.ext).monoB A1.rel hB1 xp)⟩
 exact VDs.append ((vz.mono R A1.ext).monoB A1.rel hB1 xp) (.cons (vd.monoB A1.rel hB1 xp) .nil)
theorem AI {acc:Addr} {t:XT} {c:XA} {D:Ends} {σ:L2.St} {H:Hp} (h:tCl K acc (xK t c) D σ H):eS (tT K t) (tCl K acc c) D σ H:=by
 obtain ⟨m,ρ,S,es,S',zs,vs,E,R,na,ha,vz,hl,e,q⟩:=h
 obtain ⟨b,S1,e1,e⟩:=ab e
 refine ⟨m,ρ,S,b,S1,E,R,e1,fun m1 H1 A1=>?_⟩
 have hB:=xL ha na
 have ha1:H1 acc=some (.lst vs):=A1.ext.keep _ _ ha na
 have xB:=A1.ext.toB hB
 have na1:acc ∉ m1:=xB.nb acc (by simp)
 dsimp only
 split
 ·rename_i hb
  rw [if_pos hb] at e
  exact ⟨m1,ρ,S1,es,S',zs,vs,E.mono R A1.ext,A1.rel,na1,ha1,vz.mono R A1.ext,hl,e,fun m2 H2 σ2 vs2 x2 R2 h2 v2 E2=>q m2 H2 σ2 vs2 (xB.trans x2) R2 h2 v2 E2⟩
 ·rename_i hb
  rw [if_neg hb] at e
  cases e
  refine q m1 H1 σ vs xB A1.rel ha1 ?_ (E.mono R A1.ext)
  rw [List.append_nil]
  exact vz.mono R A1.ext
theorem pH {t:TS} {D:Ends} {σ:L2.St} {H:Hp} (h:t D σ H):eS z4 t D σ H:=by
 show if true=true then t D σ H else D.nx σ H
 rw [if_pos rfl];exact h
theorem Fb {acc:Addr} {c:XA} {D:Ends} {σ:L2.St} {H:Hp} (h:tCl K acc c D σ H):eS z4 (tCl K acc c) D σ H:=by
 exact pH h
theorem tv {acc:Addr} {nx:Nxt} {tg:Tg} {c:XA} {J:It} {ts:TS} {m1:List Addr} {H1:Hp} {EE:Ends} (hI:IOk K [acc] J nx m1 H1) (hts:∀ D σ H,tCl K acc c D σ H->ts D σ H) (k:Nat) {m:List Addr} {ρ:Rho} {S S':Sto} {es zs:List D} {vs:List V} {σ:L2.St} {H:Hp}
  (fr:cY tg ρ=true) (E:EnvR K m H ρ σ) (R:Rel K m S H) (x:ExtB [acc] m1 H1 m H) (ha:H acc=some (.lst vs)) (vz:VDs K m H zs vs) (hl:zs.length+es.length<=100000) (e:bj nx tg c ρ k 0 S=some (es,S'))
  (q:∀ m' H' σ' vs',ExtB [acc] m H m' H'->Rel K m' S' H'->H' acc=some (.lst vs')->VDs K m' H' (zs++es) vs'->EnvR K m' H' ρ σ'->EE.nx σ' H'):oI J (tTg K tg) ts EE σ H:=by
 refine ⟨fun i k σ H=>∃ m S S' es zs vs,EnvR K m H ρ σ/\Rel K m S H/\ExtB [acc] m1 H1 m H/\H acc=some (.lst vs)/\VDs K m H zs vs/\zs.length+es.length<=100000/\bj nx tg c ρ k i S=some (es,S') ∧
  ∀ m' H' σ' vs',ExtB [acc] m H m' H'->Rel K m' S' H'->H' acc=some (.lst vs')->VDs K m' H' (zs++es) vs'->EnvR K m' H' ρ σ'->EE.nx σ' H',⟨k,m,S,S',es,zs,vs,E,R,x,ha,vz,hl,e,q⟩,?_⟩
 intro i k σ H ⟨m,S,S',es,zs,vs,E,R,x,ha,vz,hl,e,q⟩
 have na:acc ∉ m:=x.nb acc (by simp)
 have hB:=xL ha na
 cases k with
 | zero=>simp [bj] at e
 | succ k=>
  simp only [bj] at e
  cases hn:nx i S with
  | none=>rw [hn] at e;cases e
  | some o=>
   rw [hn] at e
   obtain ⟨h1,h2⟩:=hI m S H i x R
   cases o with
   | none=>
    cases e
    exact .inl ⟨h1 hn,q m H σ vs (ExtB.refl na) R ha (by rw [List.append_nil];exact vz) E⟩
   | some d=>
    obtain ⟨go,hy⟩:=h2 d hn
    dsimp only at e
    cases hb:ax tg d ρ with
    | none=>rw [hb] at e;cases e
    | some ρ1=>
     rw [hb] at e
     dsimp only at e
     obtain ⟨e1,S1,c1,e⟩:=ab e
     obtain ⟨rs,S2,c2,e⟩:=ab e
     cases e
     rw [List.length_append] at hl
     refine .inr ⟨go,fun σ' H'=>∃ m S S' es zs vs,EnvR K m H' ρ σ'/\Rel K m S H'/\ExtB [acc] m1 H1 m H'/\H' acc=some (.lst vs)/\VDs K m H' zs vs/\zs.length+es.length<=100000/\bj nx tg c ρ k (i+1) S=some (es,S') ∧
      ∀ m' H'' σ' vs',ExtB [acc] m H' m' H''->Rel K m' S' H''->H'' acc=some (.lst vs')->VDs K m' H'' (zs++es) vs'->EnvR K m' H'' ρ σ'->EE.nx σ' H'',fun σ' H' z=>⟨k,Nat.lt_succ_self k,z⟩,fun y H' yl=>?_⟩
     obtain ⟨A,vd⟩:=hy y H' yl
     have xA:=A.ext.toB hB
     have ha':H' acc=some (.lst vs):=A.ext.keep _ _ ha na
     refine ⟨m,S,ρ,d,ρ1,A.rel,E.mono R A.ext,vd,hb,fun σ2 E2=>hts _ _ _ ⟨m,ρ1,S,e1,S1,zs,vs,E2,A.rel,na,ha',vz.mono R A.ext,by omega,c1,fun m3 H3 σ3 vs3 x3 R3 h3 v3 E3=>?_⟩⟩
     refine ⟨m3,S1,_,rs,zs++e1,vs3,E3.weaken (pG (LeR.refl ρ) fr hb),R3,(x.trans xA).trans x3,h3,v3,by rw [List.length_append];omega,c2,fun m4 H4 σ4 vs4 x4 R4 h4 v4 E4=>?_⟩
     refine q m4 H4 σ4 vs4 ((xA.trans x3).trans x4) R4 h4 ?_ E4
     rw [<-List.append_assoc]
     exact v4
theorem xM {acc:Addr} {it:XI} {tg:Tg} {t:TT} {c c':XA} {k:Nat} {D:Ends} {σ:L2.St} {H:Hp} (hts:∀ D σ H,tCl K acc c D σ H->eS t (tCl K acc c') D σ H) (h:tCl K acc (iX it tg c k) D σ H):wx (tIt K [acc] it) (tTg K tg) t (tCl K acc c') D σ H:=by
 obtain ⟨m,ρ,S,es,S',zs,vs,E,R,na,ha,vz,hl,e,q⟩:=h
 unfold iX at e
 split at e
 ·rename_i fr
  obtain ⟨nx,S1,e1,e⟩:=ab e
  have hB:=xL ha na
  refine ⟨m,ρ,S,nx,S1,E,R,hB,e1,fun m1 H1 J A1 hI=>?_⟩
  have xB:=A1.ext.toB hB
  have na1:acc ∉ m1:=xB.nb acc (by simp)
  exact tv hI hts k fr (E.mono R A1.ext) A1.rel (ExtB.refl na1) (A1.ext.keep _ _ ha na) (vz.mono R A1.ext) hl e fun m2 H2 σ2 vs2 x2 R2 h2 v2 E2=>q m2 H2 σ2 vs2 (xB.trans x2) R2 h2 v2 E2
 ·cases e
theorem EnvR.more {ρ:Rho} {σ:L2.St} (E:EnvR K m H ρ σ) (n:Nat):EnvR K m H (ρ++List.replicate n none) (σ++List.replicate n none):=by
 refine ⟨by simp [E.len],fun i d e=>?_⟩
 by_cases hi:i < ρ.length
 ·rw [List.getElem?_append_left hi] at e
  rw [List.getElem?_append_left (by rw [<-E.len];exact hi)]
  exact E.at_ i d e
 ·rw [List.getElem?_append_right (by omega),List.getElem?_replicate] at e
  split at e <;> cases e
theorem tx {own:Nat} {it:XI} {tg:Tg} {t:TT} {c c':XA} {k:Nat} {σ:L2.St} {H:Hp} {Q:VK} (hts:∀ acc D σ H,tCl K acc c D σ H->eS t (tCl K acc c') D σ H) (h:gB K (kE own it tg c k) σ H Q):wy own (tIt K [] it) (tTg K tg) (fun acc=>eS t (tCl K acc c')) σ H Q:=by
 obtain ⟨m,ρ,S,es,S',E,R,e,q⟩:=h
 obtain ⟨nx,S1,e1,e⟩:=ab e
 split at e
 ·rename_i fr
  obtain ⟨es',S2,e2,e⟩:=ab e
  split at e
  ·rename_i hl
   cases e
   refine ⟨m,ρ,S,nx,S1,E,R,fun b hb=>absurd hb (by simp),e1,fun m1 H1 J A1 hI acc hacc=>?_⟩
   have x0:=Ext.beside A1.rel hacc (.lst [])
   have R0:=A1.rel.beside hacc (.lst [])
   have na:=A1.rel.no hacc
   have hI':IOk K [acc] J nx m1 (upd H1 acc (.lst [])):=by
    intro m2 S2 H2 i x2 R2
    refine hI m2 S2 H2 i ⟨x2.pre,fun a o h n _=>?_,fun a h n=>?_,fun b hb=>absurd hb (by simp)⟩ R2
    ·have ne:a ≠ acc:=aR h hacc
     exact x2.keep a o (by rw [aC ne];exact h) n (by simp [ne])
    ·have:=x2.new a h n
     by_cases hz:a=acc
     ·subst hz;exact hacc
     ·rw [aC hz] at this;exact this
   refine tv (zs:=[]) (vs:=[]) hI' (hts acc) k fr ((E.mono R A1.ext |>.mono A1.rel x0).more own) R0 (ExtB.refl na) bx .nil (by simpa using hl) e2 fun m2 H2 σ2 vs2 x2 R2 h2 v2 E2=>?_
   have xx:Ext m1 H1 m2 H2:=⟨x2.pre,fun a o h n=>by
    have ne:a ≠ acc:=aR h hacc
    exact x2.keep a o (by rw [aC ne];exact h) n (by simp [ne]),fun a h n=>by
    have:=x2.new a h n
    by_cases hz:a=acc
    ·subst hz;exact hacc
    ·rw [aC hz] at this;exact this⟩
   have hn:H acc=none:=by
    cases eh:H acc with
    | none=>rfl
    | some o=>
     by_cases hm:acc ∈ m
     ·exact absurd (A1.ext.pre.subset hm) na
     ·have:=A1.ext.keep acc o eh hm
      rw [hacc] at this;cases this
   exact q m2 H2 acc vs2 (A1.trans ⟨xx,R2⟩) h2 (x2.nb acc (by simp)) (fun b hb z=>na (A1.ext.pre.subset (z ▸ hb))) hn (by simpa using v2)
  ·cases e
 ·cases e
end
end Ev
namespace Ev
open PySem PySem.Spec PyProof.Rows L2
section
variable {X:Cx} {K:PySem.W.Frag} {m:List Addr} {H:Hp} {S:Sto}
noncomputable def xN (x y:XE):XE:=fun ρ S=>bnd (x ρ S) fun d S1=>match d with
 | .bl true=>y ρ S1
 | .bl false=>some (.bl false,S1)
 | _=>none
noncomputable def xOr (x y:XE):XE:=fun ρ S=>bnd (x ρ S) fun d S1=>match d with
 | .bl true=>some (.bl true,S1)
 | .bl false=>y ρ S1
 | _=>none
noncomputable def uZ:D->Sto->Option (D × Sto)
 | .bl b,S=>some (.bl (!b),S)
 | _,_=>none
noncomputable def Fc:D->Sto->Option (D × Sto)
 | .int i,S=>some (.int (-i),S)
 | _,_=>none
theorem xO {x y:XE} {σ:L2.St} {H:Hp} {Q:VK} (h:tE K (xN x y) σ H Q):C0 (tE K x) (tE K y) σ H Q:=by
 obtain ⟨m,ρ,S,d,S',E,R,e,q⟩:=h
 obtain ⟨a,S1,e1,e⟩:=ab e
 refine ⟨m,ρ,S,a,S1,E,R,e1,fun m1 H1 v A1 va=>?_⟩
 cases a with
 | bl b=>
  refine ⟨b,va.bls,?_⟩
  cases b with
  | true=>exact ⟨m1,ρ,S1,d,S',E.mono R A1.ext,A1.rel,e,fun m2 H2 w A2 vd=>q m2 H2 w (A1.trans A2) vd⟩
  | false=>cases e;exact q m1 H1 _ A1 cz
 | _=>cases e
theorem Dl {x y:XE} {σ:L2.St} {H:Hp} {Q:VK} (h:tE K (xOr x y) σ H Q):Ir (tE K x) (tE K y) σ H Q:=by
 obtain ⟨m,ρ,S,d,S',E,R,e,q⟩:=h
 obtain ⟨a,S1,e1,e⟩:=ab e
 refine ⟨m,ρ,S,a,S1,E,R,e1,fun m1 H1 v A1 va=>?_⟩
 cases a with
 | bl b=>
  refine ⟨b,va.bls,?_⟩
  cases b with
  | false=>exact ⟨m1,ρ,S1,d,S',E.mono R A1.ext,A1.rel,e,fun m2 H2 w A2 vd=>q m2 H2 w (A1.trans A2) vd⟩
  | true=>cases e;exact q m1 H1 _ A1 cz
 | _=>cases e
theorem Fd {x:XE} {σ:L2.St} {H:Hp} {Q:VK} (h:tE K (xUn uZ x) σ H Q):C1 (tE K x) σ H Q:=by
 obtain ⟨m,ρ,S,d,S',E,R,e,q⟩:=h
 obtain ⟨a,S1,e1,e⟩:=ab e
 refine ⟨m,ρ,S,a,S1,E,R,e1,fun m1 H1 v A1 va=>?_⟩
 cases a with
 | bl b=>cases e;exact ⟨b,va.bls,q m1 H1 _ A1 cz⟩
 | _=>cases e
theorem AJ:UnR X (unaryOp .USub) (rS1 X.K Fc):=by
 intro pins s σ H x v Q I rx h
 refine D9 pins s σ H x v Q I rx ?_
 obtain ⟨m,S,a,d,S',R,va,e,q⟩:=h
 cases a with
 | int i=>cases e;exact ⟨i,va.ints,q m H _ (Aft.refl R) bq⟩
 | _=>cases e
noncomputable def ve (f g:D->D->Sto->Option (D × Sto)) (x y z:XE):XE:=fun ρ S=>bnd (x ρ S) fun a S1=>bnd (y ρ S1) fun b S2=>bnd (f a b S2) fun r S3=>match r with
 | .bl true=>bnd (z ρ S3) fun c S4=>g b c S4
 | .bl false=>some (.bl false,S3)
 | _=>none
theorem xP {f g:D->D->Sto->Option (D × Sto)} {x y z:XE} {σ:L2.St} {H:Hp} {Q:VK} (h:tE K (ve f g x y z) σ H Q):qv (rS K f) (rS K g) (tE K x) (tE K y) (tE K z) σ H Q:=by
 obtain ⟨m,ρ,S,d,S',E,R,e,q⟩:=h
 obtain ⟨a,S1,e1,e⟩:=ab e
 obtain ⟨b,S2,e2,e⟩:=ab e
 obtain ⟨r,S3,e3,e⟩:=ab e
 refine ⟨m,ρ,S,a,S1,E,R,e1,fun m1 H1 v A1 va=>⟨m1,ρ,S1,b,S2,E.mono R A1.ext,A1.rel,e2,fun m2 H2 w A2 vb=>?_⟩⟩
 refine ⟨m2,S2,a,b,r,S3,A2.rel,va.mono A1.rel A2.ext,vb,e3,fun m3 H3 u A3 vr=>?_⟩
 cases r with
 | bl k=>
  refine ⟨k,vr.bls,?_⟩
  cases k with
  | true=>
   dsimp only at e
   obtain ⟨c,S4,e4,e⟩:=ab e
   exact ⟨m3,ρ,S3,c,S4,E.mono R ((A1.trans A2).trans A3).ext,A3.rel,e4,fun m4 H4 y A4 vc=>⟨m4,S4,b,c,d,S',A4.rel,vb.mono A2.rel (A3.trans A4).ext,vc,e,fun m5 H5 t A5 vd=>q m5 H5 t ((((A1.trans A2).trans A3).trans A4).trans A5) vd⟩⟩
  | false=>cases e;exact q m3 H3 _ ((A1.trans A2).trans A3) cz
 | _=>cases e
noncomputable def xQ (x y:XT):XT:=fun ρ S=>bnd (x ρ S) fun b S1=>if b=true then y ρ S1 else some (false,S1)
noncomputable def Fe (x y:XT):XT:=fun ρ S=>bnd (x ρ S) fun b S1=>if b=true then some (true,S1) else y ρ S1
noncomputable def xR (x:XT):XT:=fun ρ S=>bnd (x ρ S) fun b S1=>some (!b,S1)
theorem xS {x y:XT} {σ:L2.St} {H:Hp} {Q:Bool->Hp->Prop} (h:tT K (xQ x y) σ H Q):Ip (tT K x) (tT K y) σ H Q:=by
 obtain ⟨m,ρ,S,d,S',E,R,e,q⟩:=h
 obtain ⟨b,S1,e1,e⟩:=ab e
 refine ⟨m,ρ,S,b,S1,E,R,e1,fun m1 H1 A1=>?_⟩
 dsimp only
 split
 ·rename_i hb
  rw [if_pos hb] at e
  exact ⟨m1,ρ,S1,d,S',E.mono R A1.ext,A1.rel,e,fun m2 H2 A2=>q m2 H2 (A1.trans A2)⟩
 ·rename_i hb
  rw [if_neg hb] at e
  cases e
  exact q m1 H1 A1
theorem Dm {x y:XT} {σ:L2.St} {H:Hp} {Q:Bool->Hp->Prop} (h:tT K (Fe x y) σ H Q):tOr (tT K x) (tT K y) σ H Q:=by
 obtain ⟨m,ρ,S,d,S',E,R,e,q⟩:=h
 obtain ⟨b,S1,e1,e⟩:=ab e
 refine ⟨m,ρ,S,b,S1,E,R,e1,fun m1 H1 A1=>?_⟩
 dsimp only
 split
 ·rename_i hb
  rw [if_pos hb] at e
  cases e
  exact q m1 H1 A1
 ·rename_i hb
  rw [if_neg hb] at e
  exact ⟨m1,ρ,S1,d,S',E.mono R A1.ext,A1.rel,e,fun m2 H2 A2=>q m2 H2 (A1.trans A2)⟩
theorem Ff {x:XT} {σ:L2.St} {H:Hp} {Q:Bool->Hp->Prop} (h:tT K (xR x) σ H Q):Iq (tT K x) σ H Q:=by
 obtain ⟨m,ρ,S,d,S',E,R,e,q⟩:=h
 obtain ⟨b,S1,e1,e⟩:=ab e
 cases e
 exact ⟨m,ρ,S,b,_,E,R,e1,fun m1 H1 A1=>q m1 H1 A1⟩
noncomputable abbrev Calls:=Nat->List D->Sto->Option (D × Sto)
noncomputable def spC (K:PySem.W.Frag) (g:List D->Sto->Option (D × Sto)) (n:Nat):Sp:=fun vs H Q _=>∃ m ds S d S',VDs K m H ds vs/\Rel K m S H/\ds.length=n/\g ds S=some (d,S')/\∀ m' H' v,Aft K m H S' m' H'->VD K m' H' d v->Q v H'
noncomputable def pJ (g:List D->Sto->Option (D × Sto)) (n:Nat) (x:XA):XE:=fun ρ S=>bnd (x ρ S) fun ds S1=>if ds.length=n then g ds S1 else none
theorem AK {g:List D->Sto->Option (D × Sto)} {n:Nat} {x:XA} {σ:L2.St} {H:Hp} {Q:VK} (h:tE K (pJ g n x) σ H Q):Da (spC K g n) [] E0 (tAr K x) σ H Q:=by
 obtain ⟨m,ρ,S,d,S',E,R,e,q⟩:=h
 obtain ⟨ds,S1,e1,e⟩:=ab e
 split at e
 ·rename_i hl
  refine ⟨m,ρ,S,ds,S1,E,R,e1,fun m1 H1 vs A1 vd=>⟨m1,ds,S1,d,S',by rw [List.append_nil];exact vd,A1.rel,hl,e,fun m2 H2 v A2 vv=>q m2 H2 v (A1.trans A2) vv⟩⟩
 ·cases e
end
end Ev
namespace Ev
open PySem PySem.Spec PyProof.Rows L2
mutual
inductive CE where | non | bl (b:Bool) | int (i:Int) | str (x:Str) | var (i:Nat) | con (k:Nat) (v:Int) | tup (es:List CE) | lst (es:List CE) | bin (o:BOp) (a b:CE) | neg (a:CE) | cmp (o:COp) (a b:CE) | chn (o p:COp) (a b c:CE) | and (a b:CE) | or (a b:CE) | not (a:CE) | ix (a b:CE) | sl (a:CE) (lo hi:Option CE) | call (f:Nat) (es:List CE) | inst (t:Ty) (a:CE) | len (a:CE) | all (a:CE) | tupOf (a:CE) | listR (a:CE) | srt (a:CE) | mxL (a:CE) | mxD (a:CE) (c:Int) | intOf (a:CE) | mx (a b:CE) | mn (a b:CE) | rep (a:CE) | comp (own:List Str) (elt:CE) (cls:List Cl) | app (o e:CE) | popAt (o e:CE) | cnt (o e:CE)
inductive CI where
 | val (a:CE) | r1 (a:CE) | r2 (a b:CE) | en (a:CE)
inductive Cl where
 | mk (tg:Tg) (it:CI) (cond:Option CE)
end
noncomputable def ak:CE->Bool
 | .lst _=>true | .comp _ _ _=>true | .listR _=>true | .srt _=>true
 | _=>false
noncomputable def LF:Nat:=1000000
noncomputable def xNo {α:Type}:Rho->Sto->Option (α × Sto):=fun _ _=>none
noncomputable def cu (tu:Bool) (ds:List D):Option (List D):=if tu=false then rm tu ds else none
noncomputable def vf (f:Bool->List D->Option (List D)) (x:XA):XA:=fun ρ S=>bnd (x ρ S) fun ds S1=>(f false ds).map fun es=>(es,S1)
noncomputable def vg (f:Bool->List D->Option (List D)) (x:XE):XA:=fun ρ S=>bnd (x ρ S) fun d S1=>match aq d S1 with
 | some r=>(f r.1 r.2).map fun es=>(es,S1)
 | none=>none
noncomputable def vh (x:XE):XA:=fun ρ S=>bnd (x ρ S) fun d S1=>match d with
 | .int i=>if 0<=i/\i<=1000 then some ((List.range i.toNat).map fun j=>.int (Int.ofNat j),S1) else none
 | _=>none
noncomputable def cnd (t:CE->XT):Option CE->XA->XA
 | some c,x=>xK (t c) x
 | none,x=>x
noncomputable def opt (t:CE->XE):Option CE->XO
 | some l=>qX (t l)
 | none=>qW
mutual
noncomputable def evE (C:Calls) (ar:Nat->Nat):Nat->CE->XE
 | 0,_=>xNo
 | n+1,e=>match e with
  | .non=>xC .non
  | .bl b=>xC (.bl b)
  | .int i=>xC (.int i)
  | .str x=>xC (.str x)
  | .var i=>uH i
  | .con _ v=>xC (.int v)
  | .tup es=>jJ jK (evA C ar n es)
  | .lst es=>dW (mv (evA C ar n es))
  | .bin o a b=>oX (bI o) (evE C ar n a) (evE C ar n b)
  | .neg a=>xUn Fc (evE C ar n a)
  | .cmp o a b=>oX (ay o) (evE C ar n a) (evE C ar n b)
  | .chn o p a b c=>ve (ay o) (ay p) (evE C ar n a) (evE C ar n b) (evE C ar n c)
  | .and a b=>xN (evE C ar n a) (evE C ar n b)
  | .or a b=>xOr (evE C ar n a) (evE C ar n b)
  | .not a=>xUn uZ (evE C ar n a)
  | .ix a b=>if ak a=true then qT (dq C ar n a) (evE C ar n b) else oX ixS (evE C ar n a) (evE C ar n b)
  | .sl a lo hi=>xSl (evE C ar n a) (opt (evE C ar n) lo) (opt (evE C ar n) hi)
  | .call f es=>pJ (C f) (ar f) (evA C ar n es)
  | .inst t a=>xUn (kr t) (evE C ar n a)
  | .len a=>if ak a=true then oY bG (dq C ar n a) else oZ bG (evE C ar n a)
  | .all a=>if ak a=true then oY lU (dq C ar n a) else oZ lU (evE C ar n a)
  | .tupOf a=>if ak a=true then oY dH (dq C ar n a) else oZ dH (evE C ar n a)
  | .listR a=>dW (vh (evE C ar n a))
  | .srt a=>dW (if ak a=true then vf cu (dq C ar n a) else vg cu (evE C ar n a))
  | .mxL a=>if ak a=true then oY ky (dq C ar n a) else oZ ky (evE C ar n a)
  | .mxD a c=>if ak a=true then oY (gg c) (dq C ar n a) else oZ (gg c) (evE C ar n a)
  | .intOf a=>xUn xv (evE C ar n a)
  | .mx a b=>jJ (two xl) (evA C ar n [a,b])
  | .mn a b=>jJ (two xm) (evA C ar n [a,b])
  | .rep a=>xUn kC (evE C ar n a)
  | .comp own elt cls=>dW (match cls with
   | []=>xNo
   | ⟨tg,it,cond⟩::rest=>kE own.length (evI C ar n it) tg (cnd (evT C ar n) cond (f8 C ar n elt rest)) LF)
  | .app o a=>xD fm pA (evE C ar n o) (evA C ar n [a])
  | .popAt o a=>xD fm gC (evE C ar n o) (evA C ar n [a])
  | .cnt o a=>xD (fun d _=>isTup d) rB (evE C ar n o) (evA C ar n [a])
noncomputable def evA (C:Calls) (ar:Nat->Nat):Nat->List CE->XA
 | 0,_=>xNo
 | n+1,es=>match es with
  | []=>Ak
  | e::es=>sT (evE C ar n e) (evA C ar n es)
noncomputable def dq (C:Calls) (ar:Nat->Nat):Nat->CE->XA
 | 0,_=>xNo
 | n+1,e=>match e with
  | .lst es=>mv (evA C ar n es)
  | .listR a=>vh (evE C ar n a)
  | .srt a=>if ak a=true then vf cu (dq C ar n a) else vg cu (evE C ar n a)
  | .comp own elt cls=>match cls with
   | []=>xNo
   | ⟨tg,it,cond⟩::rest=>kE own.length (evI C ar n it) tg (cnd (evT C ar n) cond (f8 C ar n elt rest)) LF
  | _=>xNo
noncomputable def f8 (C:Calls) (ar:Nat->Nat):Nat->CE->List Cl->XA
 | 0,_,_=>xNo
 | n+1,elt,cls=>match cls with
  | []=>Dk (evE C ar n elt)
  | ⟨tg,it,cond⟩::rest=>iX (evI C ar n it) tg (cnd (evT C ar n) cond (f8 C ar n elt rest)) LF
noncomputable def evI (C:Calls) (ar:Nat->Nat):Nat->CI->XI
 | 0,_=>xNo
 | n+1,it=>match it with
  | .val a=>if ak a=true then xIT (dq C ar n a) else xIV (evE C ar n a)
  | .r1 a=>xR1 (evE C ar n a)
  | .r2 a b=>xR2 (evE C ar n a) (evE C ar n b)
  | .en a=>if ak a=true then xET (dq C ar n a) else xEV (evE C ar n a)
noncomputable def evT (C:Calls) (ar:Nat->Nat):Nat->CE->XT
 | 0,_=>xNo
 | n+1,e=>match e with
  | .cmp o a b=>xB (oX (ay o) (evE C ar n a) (evE C ar n b))
  | .chn o p a b c=>xB (ve (ay o) (ay p) (evE C ar n a) (evE C ar n b) (evE C ar n c))
  | .and a b=>xQ (evT C ar n a) (evT C ar n b)
  | .or a b=>Fe (evT C ar n a) (evT C ar n b)
  | .not a=>xR (evT C ar n a)
  | e=>Au (evE C ar n e)
end
end Ev
namespace Ev
open PySem PySem.Spec PyProof.Rows L2
structure Tab where
 con:List (Str × Int)
 fns:List (Str × Nat)
noncomputable def iu:List Str:=["len", "isinstance", "all", "any", "tuple", "list", "max", "min", "repr", "range", "enumerate", "int", "bool", "str", "sorted"]
structure Blk where
 sc:Scope
 fs:Option Scope
 N:List Str
noncomputable def Blk.glo (b:Blk) (x:Str):Bool:=b.sc.names.lookup x == some .globalImplicit && !(x == ("__debug__" : Str))
noncomputable def Blk.vis (b:Blk) (x:Str):Bool:=(match b.sc.names.lookup x with
 | some .local=>true
 | some .cell=>true
 | some .free=>true
 | _=>false) && !(x == ("__debug__" : Str)) && !(x == ("__classdict__" : Str))
noncomputable def Blk.own (b:Blk) (x:Str):Bool:=match b.sc.names.lookup x with
 | some .local=>true
 | some .cell=>(match b.fs with
  | none=>true
  | some sc=>sc.names.lookup x == some .cell)
 | _=>false
noncomputable def aB:Expr->Bool
 | .Starred _ _=>false
 | .Slice _ _ _ _=>false
 | .Set _ _ _=>false
 | _=>true
noncomputable def kF:Expr->Bool
 | .Call (.Name _ _) [] [] _=>false
 | .Starred _ _=>false
 | _=>true
noncomputable def xT:Expr->Bool
 | .UnaryOp .Not _ _=>false
 | .BoolOp _ _ _=>false
 | .IfExp _ _ _ _=>false
 | .Compare _ _ _ _=>false
 | _=>true
noncomputable def kG (own N:List Str):List Nat:=(List.range N.length).filter fun i=>match N[i]? with
 | some x=>own.contains x
 | none=>false
noncomputable def Blk.inner (b:Blk) (own:List Str) (scope:Scope):Blk:=⟨fc scope b.sc,some scope,cK (kG own b.N) b.N++own⟩
noncomputable def rE:Expr->Option (Str × Pos)
 | .Name x p=>some (x,p)
 | _=>none
noncomputable def pK:Expr->Option (List Expr × Nat × Pos)
 | .Tuple es k p=>some (es,k,p)
 | _=>none
theorem nJ {e:Expr} {x:Str} {p:Pos} (h:rE e=some (x,p)):e = .Name x p:=by
 unfold rE at h
 split at h
 ·cases h;rfl
 ·cases h
theorem nK {e:Expr} {es:List Expr} {k:Nat} {p:Pos} (h:pK e=some (es,k,p)):e = .Tuple es k p:=by
 unfold pK at h
 split at h
 ·cases h;rfl
 ·cases h
mutual
noncomputable def lW (b:Blk):Expr->Tg->Bool
 | e,.name i=>match rE e with
  | some r=>b.N[i]? == some r.1 && b.own r.1
  | none=>false
 | e,.tup ts=>match pK e with
  | some r=>dI b r.1 ts
  | none=>false
noncomputable def dI (b:Blk):List Expr->List Tg->Bool
 | es,[]=>es.isEmpty
 | es,t::ts=>match es with
  | []=>false
  | e::es=>lW b e t && aB e && dI b es ts
end
noncomputable def Fg:Expr->Bool
 | .Constant .none _ _=>true
 | _=>false
noncomputable def sBl (v:Bool):Expr->Bool
 | .Constant (.bool v') _ _=>v == v'
 | _=>false
noncomputable def Fh (v:Int):Expr->Bool
 | .Constant (.int v') _ _=>v == v'
 | _=>false
noncomputable def Fi (v:Str):Expr->Bool
 | .Constant (.str v') _ _=>v == v'
 | _=>false
noncomputable def pL (k:Str->Bool):Expr->Bool
 | .Name x _=>k x
 | _=>false
noncomputable def xU (k:List Expr->Bool):Expr->Bool
 | .Tuple es _ _=>k es
 | _=>false
noncomputable def Fj (k:List Expr->Bool):Expr->Bool
 | .List es _=>k es
 | _=>false
noncomputable def Fk (o:Operator) (k l:Expr->Bool):Expr->Bool
 | .BinOp x op y _=>decide (op=o) && k x && l y
 | _=>false
noncomputable def Fm (k:Expr->Bool):Expr->Bool
 | .UnaryOp .USub x _=>k x
 | _=>false
noncomputable def AL (k:Expr->Bool):Expr->Bool
 | .UnaryOp .Not x _=>k x
 | _=>false
noncomputable def AM (o:CmpOp) (k l:Expr->Bool):Expr->Bool
 | .Compare x [op] [y] _=>decide (op=o) && k x && l y && aB y
 | _=>false
noncomputable def AN (o p:CmpOp) (k l m:Expr->Bool):Expr->Bool
 | .Compare x [op,op'] [y,z] _=>decide (op=o) && decide (op'=p) && k x && l y && m z && aB z
 | _=>false
noncomputable def vj (o:BoolOp) (k l:Expr->Bool):Expr->Bool
 | .BoolOp op [x,y] _=>decide (op=o) && k x && l y
 | _=>false
noncomputable def vk (o:BoolOp) (k l:Expr->Bool):Expr->Bool
 | .BoolOp op (x::y::z::ys) p=>decide (op=o) && k x && l (.BoolOp o (y::z::ys) p)
 | _=>false
noncomputable def sIx (k l:Expr->Bool):Expr->Bool
 | .Subscript x y _=>k x && l y && aB y
 | _=>false
noncomputable def sSl (k:Expr->Bool) (l m:Option Expr->Bool):Expr->Bool
 | .Subscript x (.Slice y z none _) _=>k x && l y && m z
 | _=>false
noncomputable def xV (k:Str->Bool) (l:List Expr->Bool):Expr->Bool
 | .Call (.Name x _) (e::es) [] _=>k x && l (e::es)
 | _=>false
noncomputable def nM (b:Blk) (f:Str) (k:List Expr->Bool):Expr->Bool
 | .Call (.Name x _) (e::es) [] _=>x == f && b.glo x && k (e::es)
 | _=>false
noncomputable def bZ (b:Blk) (f:Str) (k:Expr->Bool):Expr->Bool
 | .Call (.Name x _) [e] [] _=>x == f && b.glo x && k e && aB e
 | _=>false
noncomputable def Fn (c:Int):List Keyword->Bool
 | [⟨some d,.Constant (.int v) _ _,_⟩]=>d == "default" && v == c
 | _=>false
noncomputable def xW (b:Blk) (c:Int) (k:Expr->Bool):Expr->Bool
 | .Call (.Name x _) [e] ks _=>x == "max" && b.glo x && k e && aB e && Fn c ks
 | _=>false
noncomputable def nP (b:Blk) (f:Str) (k l:Expr->Bool):Expr->Bool
 | .Call (.Name x _) [e,e'] [] _=>x == f && b.glo x && k e && aB e && l e' && aB e'
 | _=>false
noncomputable def xX (m:Str) (k:Expr->Bool) (l:List Expr->Bool):Expr->Bool
 | .Call (.Attribute x m' ap) es [] p=>m' == m && kF x && (ap.endLine == p.line) && k x && l es
 | _=>false
noncomputable def xY (k:Expr->Expr->Expr->List Expr->List Comprehension->Scope->Bool):Expr->Bool
 | .ListComp e (⟨t,i,ifs,0⟩::gs) scope _=>k e t i ifs gs scope
 | _=>false
theorem jl {x y:Str} (h:(x == y)=true):x=y:=by simpa using h
section
variable {e:Expr} {k l m:Expr->Bool}
theorem Fo (h:Fg e=true):∃ a p,e = .Constant .none a p:=by unfold Fg at h;split at h <;> first | exact ⟨_,_,rfl⟩ | cases h
theorem Jo {v:Bool} (h:sBl v e=true):∃ a p,e = .Constant (.bool v) a p:=by unfold sBl at h;split at h <;> first | (simp at h;subst h;exact ⟨_,_,rfl⟩) | cases h
theorem Fp {v:Int} (h:Fh v e=true):∃ a p,e = .Constant (.int v) a p:=by unfold Fh at h;split at h <;> first | (simp at h;subst h;exact ⟨_,_,rfl⟩) | cases h
theorem Fq {v:Str} (h:Fi v e=true):∃ a p,e = .Constant (.str v) a p:=by unfold Fi at h;split at h <;> first | (simp at h;subst h;exact ⟨_,_,rfl⟩) | cases h
theorem nQ {k:Str->Bool} (h:pL k e=true):∃ x p,e = .Name x p/\k x=true:=by unfold pL at h;split at h <;> first | exact ⟨_,_,rfl,h⟩ | cases h
theorem xZ {k:List Expr->Bool} (h:xU k e=true):∃ x a p,e = .Tuple x a p/\k x=true:=by unfold xU at h;split at h <;> first | exact ⟨_,_,_,rfl,h⟩ | cases h
theorem Fr {k:List Expr->Bool} (h:Fj k e=true):∃ x p,e = .List x p/\k x=true:=by unfold Fj at h;split at h <;> first | exact ⟨_,_,rfl,h⟩ | cases h
theorem Fs {o:Operator} (h:Fk o k l e=true):∃ x y p,e = .BinOp x o y p/\k x=true/\l y=true:=by unfold Fk at h;split at h <;> first | (simp at h;obtain ⟨⟨rfl,a⟩,b⟩:=h;exact ⟨_,_,_,rfl,a,b⟩) | cases h
theorem Ft (h:Fm k e=true):∃ x p,e = .UnaryOp .USub x p/\k x=true:=by unfold Fm at h;split at h <;> first | exact ⟨_,_,rfl,h⟩ | cases h
theorem x5 (h:AL k e=true):∃ x p,e = .UnaryOp .Not x p/\k x=true:=by unfold AL at h;split at h <;> first | exact ⟨_,_,rfl,h⟩ | cases h
theorem x6 {o:CmpOp} (h:AM o k l e=true):∃ x y p,e = .Compare x [o] [y] p/\k x=true/\l y=true/\aB y=true:=by unfold AM at h;split at h <;> first | (simp at h;obtain ⟨⟨⟨rfl,a⟩,b⟩,c⟩:=h;exact ⟨_,_,_,rfl,a,b,c⟩) | cases h
theorem x8 {o p:CmpOp} (h:AN o p k l m e=true):∃ x y z q,e = .Compare x [o,p] [y,z] q/\k x=true/\l y=true/\m z=true/\aB z=true:=by unfold AN at h;split at h <;> first | (simp at h;obtain ⟨⟨⟨⟨⟨rfl,rfl⟩,a⟩,b⟩,c⟩,d⟩:=h;exact ⟨_,_,_,_,rfl,a,b,c,d⟩) | cases h
theorem nS {o:BoolOp} (h:vj o k l e=true):∃ x y p,e = .BoolOp o [x,y] p/\k x=true/\l y=true:=by unfold vj at h;split at h <;> first | (simp at h;obtain ⟨⟨rfl,a⟩,b⟩:=h;exact ⟨_,_,_,rfl,a,b⟩) | cases h
theorem nT {o:BoolOp} (h:vk o k l e=true):∃ x y z ys p,e = .BoolOp o (x::y::z::ys) p/\k x=true/\l (.BoolOp o (y::z::ys) p)=true:=by unfold vk at h;split at h <;> first | (simp at h;obtain ⟨⟨rfl,a⟩,b⟩:=h;exact ⟨_,_,_,_,_,rfl,a,b⟩) | cases h
theorem Jp (h:sIx k l e=true):∃ x y p,e = .Subscript x y p/\k x=true/\l y=true/\aB y=true:=by unfold sIx at h;split at h <;> first | (simp at h;exact ⟨_,_,_,rfl,h.1.1,h.1.2,h.2⟩) | cases h
theorem Jq {l m:Option Expr->Bool} (h:sSl k l m e=true):∃ x y z p q,e = .Subscript x (.Slice y z none p) q/\k x=true/\l y=true/\m z=true:=by unfold sSl at h;split at h <;> first | (simp at h;exact ⟨_,_,_,_,_,rfl,h.1.1,h.1.2,h.2⟩) | cases h
theorem AO {k:Str->Bool} {l:List Expr->Bool} (h:xV k l e=true):∃ x x1 es p q,e = .Call (.Name x p) (x1::es) [] q/\k x=true/\l (x1::es)=true:=by unfold xV at h;split at h <;> first | (simp at h;exact ⟨_,_,_,_,_,rfl,h.1,h.2⟩) | cases h
theorem pM {b:Blk} {f:Str} {k:List Expr->Bool} (h:nM b f k e=true):∃ x es p q,e = .Call (.Name f p) (x::es) [] q/\b.glo f=true/\k (x::es)=true:=by unfold nM at h;split at h <;> first | (simp at h;obtain ⟨⟨rfl,a⟩,b⟩:=h;exact ⟨_,_,_,_,rfl,a,b⟩) | cases h
theorem bu {b:Blk} {f:Str} (h:bZ b f k e=true):∃ x p q,e = .Call (.Name f p) [x] [] q/\b.glo f=true/\k x=true/\aB x=true:=by unfold bZ at h;split at h <;> first | (simp at h;obtain ⟨⟨⟨rfl,a⟩,b⟩,c⟩:=h;exact ⟨_,_,_,rfl,a,b,c⟩) | cases h
theorem Fu {c:Int} {ks:List Keyword} (h:Fn c ks=true):∃ j p q,ks=[⟨some "default", .Constant (.int c) j p,q⟩]:=by
 unfold Fn at h;split at h <;> first | (simp at h;obtain ⟨rfl,rfl⟩:=h;exact ⟨_,_,_,rfl⟩) | cases h
theorem AQ {b:Blk} {c:Int} (h:xW b c k e=true):∃ x p q j p' q',e = .Call (.Name "max" p) [x] [⟨some "default", .Constant (.int c) j p',q'⟩] q/\b.glo "max" = true/\k x=true/\aB x=true:=by
 unfold xW at h;split at h
 ·simp only [bAE] at h
  obtain ⟨⟨⟨⟨h1,h2⟩,h3⟩,h4⟩,h5⟩:=h
  obtain ⟨j,p',q',rfl⟩:=Fu h5
  obtain rfl:=jl h1
  exact ⟨_,_,_,j,p',q',rfl,h2,h3,h4⟩
 ·cases h
theorem kH {b:Blk} {f:Str} (h:nP b f k l e=true):∃ x y p q,e = .Call (.Name f p) [x,y] [] q/\b.glo f=true/\k x=true/\aB x=true/\l y=true/\aB y=true:=by unfold nP at h;split at h <;> first | (simp at h;obtain ⟨⟨⟨⟨⟨rfl,a⟩,b⟩,c⟩,d⟩,e⟩:=h;exact ⟨_,_,_,_,rfl,a,b,c,d,e⟩) | cases h
theorem rF {m:Str} {l:List Expr->Bool} (h:xX m k l e=true):∃ x ap es p,e = .Call (.Attribute x m ap) es [] p/\kF x=true/\(ap.endLine == p.line)=true/\k x=true/\l es=true:=by
 unfold xX at h;split at h
 ·simp only [bAE] at h
  obtain ⟨⟨⟨⟨h1,a⟩,b⟩,c⟩,d⟩:=h
  have:=jl h1
  subst this
  exact ⟨_,_,_,_,rfl,a,b,c,d⟩
 ·cases h
theorem tz {k:Expr->Expr->Expr->List Expr->List Comprehension->Scope->Bool} (h:xY k e=true):∃ el t i ifs gs scope p,e = .ListComp el (⟨t,i,ifs,0⟩::gs) scope p/\k el t i ifs gs scope=true:=by unfold xY at h;split at h <;> first | exact ⟨_,_,_,_,_,_,_,rfl,h⟩ | cases h
end
noncomputable def tB (f:Expr->CE->Bool):Option Expr->Option CE->Bool
 | none,none=>true
 | some e,some c=>f e c
 | _,_=>false
noncomputable def vm (f:Expr->CE->Bool):List Expr->Option CE->Bool
 | [],none=>true
 | [e],some c=>f e c
 | _,_=>false
mutual
noncomputable def am (T:Tab):Nat->Blk->Expr->CE->Bool
 | 0,_,_,_=>false
 | n+1,b,e,c=>match c with
  | .non=>Fg e
  | .bl v=>sBl v e
  | .int i=>Fh i e
  | .str x=>Fi x e
  | .var i=>pL (fun x=>b.N[i]? == some x && b.vis x) e
  | .con k v=>pL (fun x=>T.con[k]? == some (x,v) && b.glo x) e
  | .tup cs=>xU (fun es=>cm T n b es cs) e
  | .lst cs=>Fj (fun es=>cm T n b es cs) e
  | .bin o a c=>Fk o.op (fun x=>am T n b x a) (fun x=>am T n b x c) e
  | .neg a=>Fm (fun x=>am T n b x a) e
  | .cmp o a c=>AM o.op (fun x=>am T n b x a) (fun x=>am T n b x c) e
  | .chn o p a c d=>AN o.op p.op (fun x=>am T n b x a) (fun x=>am T n b x c) (fun x=>am T n b x d) e
  | .and a c=>vj .And (fun x=>am T n b x a) (fun x=>am T n b x c) e || vk .And (fun x=>am T n b x a) (fun x=>am T n b x c) e
  | .or a c=>vj .Or (fun x=>am T n b x a) (fun x=>am T n b x c) e || vk .Or (fun x=>am T n b x a) (fun x=>am T n b x c) e
  | .not a=>AL (fun x=>am T n b x a) e
  | .ix a c=>sIx (fun x=>am T n b x a) (fun x=>am T n b x c) e
  | .sl a lo hi=>sSl (fun x=>am T n b x a) (fun l=>tB (am T n b) l lo) (fun l=>tB (am T n b) l hi) e
  | .call f cs=>xV (fun x=>(match T.fns[f]? with | some y=>y.1 == x | none=>false) && b.glo x) (fun es=>cm T n b es cs) e
  | .inst t a=>nP b "isinstance" (fun x=>am T n b x a) (pL fun y=>y == Str.ofString t.nm && b.glo y) e
  | .len a=>bZ b "len" (fun x=>am T n b x a) e
  | .all a=>bZ b "all" (fun x=>am T n b x a) e
  | .tupOf a=>bZ b "tuple" (fun x=>am T n b x a) e
  | .listR a=>bZ b "list" (bZ b "range" fun x=>am T n b x a) e
  | .srt a=>bZ b "sorted" (fun x=>am T n b x a) e
  | .mxL a=>bZ b "max" (fun x=>am T n b x a) e
  | .mxD a c=>xW b c (fun x=>am T n b x a) e
  | .intOf a=>bZ b "int" (fun x=>am T n b x a) e
  | .mx a c=>nM b "max" (fun es=>cm T n b es [a,c]) e
  | .mn a c=>nM b "min" (fun es=>cm T n b es [a,c]) e
  | .rep a=>bZ b "repr" (fun x=>am T n b x a) e
  | .comp own elt cls=>(match cls with
   | []=>false
   | ⟨tg,it,cond⟩::rest=>xY (fun el t i ifs gs scope=>cmB own (kG own b.N) b.N scope b.sc && eZ T n b t i it && lW (b.inner own scope) t tg && vm (cF T n (b.inner own scope)) ifs cond && jm T n (b.inner own scope) el gs elt rest) e)
  | .app o a=>xX "append" (fun x=>am T n b x o) (fun es=>cm T n b es [a]) e
  | .popAt o a=>xX "pop" (fun x=>am T n b x o) (fun es=>cm T n b es [a]) e
  | .cnt o a=>xX "count" (fun x=>am T n b x o) (fun es=>cm T n b es [a]) e
noncomputable def cm (T:Tab):Nat->Blk->List Expr->List CE->Bool
 | 0,_,_,_=>false
 | n+1,b,es,cs=>match es,cs with
  | [],[]=>true
  | e::es,c::cs=>am T n b e c && aB e && cm T n b es cs
  | _,_=>false
noncomputable def jm (T:Tab):Nat->Blk->Expr->List Comprehension->CE->List Cl->Bool
 | 0,_,_,_,_,_=>false
 | n+1,b,e,gs,elt,cls=>match gs,cls with
  | [],[]=>am T n b e elt
  | ⟨t,i,ifs,0⟩::gs,⟨tg,it,cond⟩::rest=>eZ T n b t i it && lW b t tg && vm (cF T n b) ifs cond && jm T n b e gs elt rest
  | _,_=>false
noncomputable def eZ (T:Tab):Nat->Blk->Expr->Expr->CI->Bool
 | 0,_,_,_,_=>false
 | n+1,b,t,e,c=>match c with
  | .val a=>am T n b e a && aB e
  | .r1 a=>bZ b "range" (fun x=>am T n b x a) e
  | .r2 a c=>nP b "range" (fun x=>am T n b x a) (fun x=>am T n b x c) e
  | .en a=>bZ b "enumerate" (fun x=>am T n b x a) e && xU (fun _=>true) t
noncomputable def cF (T:Tab):Nat->Blk->Expr->CE->Bool
 | 0,_,_,_=>false
 | n+1,b,e,c=>match c with
  | .cmp o a c=>AM o.op (fun x=>am T n b x a) (fun x=>am T n b x c) e
  | .chn o p a c d=>AN o.op p.op (fun x=>am T n b x a) (fun x=>am T n b x c) (fun x=>am T n b x d) e
  | .and a c=>vj .And (fun x=>cF T n b x a) (fun x=>cF T n b x c) e || vk .And (fun x=>cF T n b x a) (fun x=>cF T n b x c) e
  | .or a c=>vj .Or (fun x=>cF T n b x a) (fun x=>cF T n b x c) e || vk .Or (fun x=>cF T n b x a) (fun x=>cF T n b x c) e
  | .not a=>AL (fun x=>cF T n b x a) e
  | c=>am T n b e c && xT e
end
theorem fT {T:Tab} {n:Nat} {b:Blk} {t e:Expr} {c:CI} (h:eZ T n b t e c=true) (hp:∀ e,aB e=true->∀ env x,foldedSetIterable e env x=pure x):∀ env x,foldedSetIterable e env x=pure x:=by
 cases n with
 | zero=>simp [eZ] at h
 | succ n=>
  cases c with
  | val a=>simp only [eZ,bAE] at h;exact hp e h.2
  | r1 a=>simp only [eZ] at h;obtain ⟨x,p,q,rfl,_⟩:=bu h;intro _ _;rfl
  | r2 a c=>simp only [eZ] at h;obtain ⟨x,y,p,q,rfl,_⟩:=kH h;intro _ _;rfl
  | en a=>simp only [eZ,bAE] at h;obtain ⟨x,p,q,rfl,_⟩:=bu h.1;intro _ _;rfl
end Ev
namespace Ev
open PySem PySem.Spec PyProof.Rows L2
structure CtxOk (T:Tab) (C:Calls) (ar:Nat->Nat) (k:Nat) (b:Blk) (X:Cx):Prop where
 calm:X.calm=true
 xe:X.xe=fun _ _=>False
 hN:X.N=b.N
 hs:X.env.scope=b.sc
 nd:b.N.Nodup
 fn:∀ x,(match b.fs with | none=>true | some sc=>sc.names.lookup x == some .cell)=true->X.fn x=true
 room:Room k X.A
 con:∀ (i:Nat) (x:Str) (v:Int),T.con[i]?=some (x,v)->∃ tk,X.mg x=some (.int v tk)
 bl:∀ x,x ∈ iu->X.mg x=none
 fns:∀ (i:Nat) (y:Str × Nat),T.fns[i]?=some y->ar i=y.2/\∃ f fd ps,X.mg y.1=some (.ref f)/\PySem.W.keepIn X.K (.ref f)=true/\lZ X.K fd ps []/\FnOk X.prog X.w X.K X.mg X.base CX0 k f fd ps (spC X.K (C i) (ar i))
section
variable {T:Tab} {C:Calls} {ar:Nat->Nat} {k:Nat} {b:Blk} {X:Cx}
theorem av {e:Expr} {es:List Expr} {env:Env} (h:aB e=true):starEach (e::es) env=(false,eval e env)::starEach es env:=by
 cases e <;> first | rfl | (exact absurd h (by simp [aB]))
theorem pO {e:Expr} (h:aB e=true):sI e:=by
 intro o i
 cases e <;> first | rfl | (exact absurd h (by simp [aB]))
theorem gD {e:Expr} {op:CmpOp} (h:aB e=true):behindInMarks op e=false:=by
 cases e <;> first | rfl | (exact absurd h (by simp [aB]))
theorem kI {e f:Expr} {op op':CmpOp} (h:aB e=true):lastMarks [op,op'] [f,e]=false:=by
 show behindInMarks op' e=false
 exact gD h
theorem ek {e:Expr} {env:Env} (h:aB e=true):∀ x,foldedSetIterable e env x=pure x:=by
 intro x
 cases e <;> first | rfl | (exact absurd h (by simp [aB]))
theorem gF {e:Expr} {m:Str} {env:Env} {w:Sem Value} (h:kF e=true):attributeBase e m env w=w:=by
 cases e with
 | Call f as ks p=>
  cases f with
  | Name x q=>
   cases as with
   | nil=>cases ks with | nil=>simp [kF] at h | cons _ _=>rfl
   | cons _ _=>rfl
  | _=>rfl
 | _=>first | rfl | (exact absurd h (by simp [kF]))
theorem rG {e:Expr} {env:Env} (h:xT e=true):∀ whole,isTrue e env whole=(do let v <-whole;standAt e.pos;holding [v] (truthy v)):=by
 intro whole
 cases e with
 | UnaryOp op x p=>cases op <;> first | rfl | (exact absurd h (by simp [xT]))
 | _=>first | rfl | (exact absurd h (by simp [xT]))
theorem iY {es:List Expr} {env:Env} {pos:Pos} (h:∀ e ∈ es,aB e=true):(backTo pos (starEach es env)).any (·.1)=false:=by
 induction es with
 | nil=>rfl
 | cons e es ih=>
  rw [av (h e List.mem_cons_self)]
  show (false || (backTo pos (starEach es env)).any (·.1))=false
  rw [ih fun e he=>h e (List.mem_cons_of_mem _ he)];rfl
theorem bJ:∀ {n:Nat} {es:List Expr} {cs:List CE},cm T n b es cs=true->∀ e ∈ es,aB e=true
 | 0,_,_,h=>by simp [cm] at h
 | n+1,[],_,_=>by simp
 | n+1,e::es,[],h=>by simp [cm] at h
 | n+1,e::es,c::cs,h=>by
  simp only [cm,bAE] at h
  intro x hx
  rcases List.mem_cons.mp hx with rfl | hx
  ·exact h.1.2
  ·exact bJ h.2 x hx
theorem CtxOk.gl (G:CtxOk T C ar k b X) {x:Str} (h:b.glo x=true):Gl X x/\(x == ("__debug__" : Str))=false:=by
 unfold Blk.glo at h
 rw [bAE] at h
 refine ⟨?_,by simpa using h.2⟩
 show X.env.scope.names.lookup x=_
 rw [G.hs]
 simpa using h.1
theorem CtxOk.vis (G:CtxOk T C ar k b X) {x:Str} (h:b.vis x=true):Vis X.env.scope x/\(x == ("__debug__" : Str))=false/\(x == ("__classdict__" : Str))=false:=by
 unfold Blk.vis at h
 rw [bAE,bAE] at h
 refine ⟨?_,by simpa using h.1.2,by simpa using h.2⟩
 unfold Vis
 rw [G.hs]
 have h1:=h.1.1
 split at h1
 ·rename_i e;exact .inl e
 ·rename_i e;exact .inr (.inl e)
 ·rename_i e;exact .inr (.inr e)
 ·cases h1
theorem CtxOk.own (G:CtxOk T C ar k b X) {x:Str} (h:b.own x=true):L2.Loc X.env.scope x/\(X.fn x=true\/X.env.scope.names.lookup x=some .local):=by
 unfold Blk.own at h
 unfold L2.Loc
 rw [G.hs]
 split at h
 ·rename_i e;exact ⟨.inl e,.inr e⟩
 ·rename_i e
  refine ⟨.inr e,.inl (G.fn x ?_)⟩
  cases hf:b.fs with
  | none=>rfl
  | some sc=>rw [hf] at h;exact h
 ·cases h
theorem CtxOk.inner (G:CtxOk T C ar k b X) {own:List Str} {scope:Scope} (S:CmScope own (kG own b.N) b.N scope b.sc) {C':Addr} {ex:List Addr} {s:Shared} {H:Hp}:CtxOk T C ar k (b.inner own scope) (cxC X own (kG own b.N) scope C' ex s H):=
 ⟨G.calm,rfl,by show cK (kG own b.N) X.N++own=_;rw [G.hN];rfl,by show fc scope X.env.scope=_;rw [G.hs];rfl,S.nd,fun x h=>h,G.room,G.con,G.bl,G.fns⟩
mutual
theorem fU (G:CtxOk T C ar k b X):∀ {e:Expr} {t:Tg},lW b e t=true->PG X e (tTg X.K t)
 | e,.name i,h=>by
  rw [lW] at h
  cases hx:rE e with
  | none=>rw [hx] at h;cases h
  | some r=>
   rw [hx] at h
   simp only [bAE] at h
   rw [nJ hx]
   have o:=G.own h.2
   exact PG.imp (zG (i:=i) (x:=r.1) (by rw [G.hN];exact G.nd) (by rw [G.hN];simpa using h.1) o.1 o.2) fun x σ H Q q=>nI q
 | e,.tup ts,h=>by
  rw [lW] at h
  cases hx:pK e with
  | none=>rw [hx] at h;cases h
  | some r=>
   rw [hx] at h
   rw [nK hx]
   have hl:=mF h
   exact PG.imp (DX G.calm (pP G h) rfl hl.2) fun x σ H Q q=>E6 hl.1 q
theorem pP (G:CtxOk T C ar k b X):∀ {es:List Expr} {ts:List Tg},dI b es ts=true->PGs X es (xF X.K ts)
 | es,[],h=>by
  rw [dI] at h
  rw [List.isEmpty_iff.mp h]
  exact PGs.imp zH fun x σ H Q q=>AC q
 | es,t::ts,h=>by
  cases es with
  | nil=>rw [dI] at h;cases h
  | cons e es=>
   rw [dI] at h
   simp only [bAE] at h
   refine PGs.imp (vX (fU G h.1.1) (pP G h.2) ?_) fun x σ H Q q=>xG q
   have:=h.1.2
   cases e <;> first | rfl | (exact absurd this (by simp [aB]))
theorem mF:∀ {es:List Expr} {ts:List Tg},dI b es ts=true->(assignEach es X.env).length=ts.length/\(assignEach es X.env).findIdx? (·.1)=none
 | es,[],h=>by
  rw [dI] at h
  rw [List.isEmpty_iff.mp h]
  exact ⟨rfl,rfl⟩
 | es,t::ts,h=>by
  cases es with
  | nil=>rw [dI] at h;cases h
  | cons e es=>
   rw [dI] at h
   simp only [bAE] at h
   have ih:=mF h.2
   have pl:=h.1.2
   have e1:assignEach (e::es) X.env=(false,assign e X.env)::assignEach es X.env:=by cases e <;> first | rfl | (exact absurd pl (by simp [aB]))
   rw [e1]
   refine ⟨by simp [ih.1],?_⟩
   rw [List.findIdx?_cons]
   simp [ih.2]
end
end
end Ev
namespace Ev
open PySem PySem.Spec PyProof.Rows L2
structure Snd (T:Tab) (C:Calls) (ar:Nat->Nat) (k n:Nat):Prop where
 e:∀ (b:Blk) (X:Cx) (e:Expr) (c:CE),CtxOk T C ar k b X->am T n b e c=true->PE X e (tE X.K (evE C ar n c))
 tm:∀ (b:Blk) (X:Cx) (e:Expr) (c:CE),CtxOk T C ar k b X->ak c=true->am T n b e c=true->PE X e (gB X.K (dq C ar n c))
 a:∀ (b:Blk) (X:Cx) (es:List Expr) (cs:List CE),CtxOk T C ar k b X->cm T n b es cs=true->PA X es (tAr X.K (evA C ar n cs))
 t:∀ (b:Blk) (X:Cx) (e:Expr) (c:CE),CtxOk T C ar k b X->cF T n b e c=true->PT X e (tT X.K (evT C ar n c))
 i:∀ (B:List Addr) (b:Blk) (X:Cx) (t e:Expr) (c:CI),CtxOk T C ar k b X->eZ T n b t e c=true->PI X t e (tIt X.K B (evI C ar n c))
 cl:∀ (b:Blk) (X:Cx) (e:Expr) (gs:List Comprehension) (elt:CE) (cls:List Cl),CtxOk T C ar k b X->jm T n b e gs elt cls=true ->
  ∀ (gens:List Comprehension) (scope:Scope) (pos:Pos) (acc:Addr) (d:Nat),gens.drop (d+1)=gs->PTl X e gens scope pos acc d (tCl X.K acc (f8 C ar n elt cls))
section
variable {T:Tab} {C:Calls} {ar:Nat->Nat} {k n:Nat} {b:Blk} {X:Cx}
theorem iw {e:Expr} {es:List Expr} {te:TE} {t:TA} (ha:PE X e te) (hr:PA X es t) (hp:aB e=true):PA X (e::es) (cW te t):=zP ha hr (av hp)
theorem Jr (ih:Snd T C ar k n) (es:List Expr) (cs:List CE) (G:CtxOk T C ar k b X) (h:cm T (n+1) b es cs=true):PA X es (tAr X.K (evA C ar (n+1) cs)):=by
 cases es with
 | nil=>
  cases cs with
  | nil=>exact PA.imp wc fun σ H Q q=>ED q
  | cons _ _=>simp [cm] at h
 | cons e es=>
  cases cs with
  | nil=>simp [cm] at h
  | cons c cs=>
   simp only [cm,bAE] at h
   exact PA.imp (iw (ih.e b X e c G h.1.1) (ih.a b X es cs G h.2) h.1.2) fun σ H Q q=>Al q
theorem cQ {e:Expr} {te:TE} (h:PE X e te) (hp:aB e=true):PA X [e] (cW te j7):=iw h wc hp
theorem fV {x:Str} {id:String} {e:Expr} {te:TE} {r:V->Hp->VK->Prop} {p pos:Pos} (hc:a8 X (.builtin id) (r1 r)) (G:CtxOk T C ar k b X) (hg:b.glo x=true) (hb:x ∈ iu) (hv:bootBuiltins x=some (.builtin id)) (hn:x ≠ "__name__") (h:PE X e te) (hp:aB e=true) :
  PE X (.Call (.Name x p) [e] [] pos) (tUn r te):=
 PE.imp (hU hc (G.gl hg).1 (G.bl x hb) hv (cQ h hp) hn (G.gl hg).2 (av hp) rfl) fun σ H Q q=>q
theorem tD {x:Str} {id:String} {e:Expr} {te:TE} {r:V->Hp->VK->Prop} {p pos:Pos} (hc:a8 X (.type id) (r1 r)) (G:CtxOk T C ar k b X) (hg:b.glo x=true) (hb:x ∈ iu) (hv:bootBuiltins x=some (.type id)) (hn:x ≠ "__name__") (h:PE X e te) (hp:aB e=true) :
  PE X (.Call (.Name x p) [e] [] pos) (tUn r te):=
 PE.imp (iP hc (G.gl hg).1 (G.bl x hb) hv (cQ h hp) hn (G.gl hg).2 (av hp) rfl) fun σ H Q q=>q
theorem kJ {x:Str} {e:Expr} {a:CE} {f:Bool->List D->Sto->Option (D × Sto)} {ks:List Keyword} {p pos:Pos} (ih:Snd T C ar k n) (G:CtxOk T C ar k b X) (hq:∀ te:TE,PE X e te->PE X (.Call (.Name x p) [e] ks pos) (tUn (rSq X.K f) te)) (h:am T n b e a=true) :
  PE X (.Call (.Name x p) [e] ks pos) (tE X.K (if ak a=true then oY f (dq C ar n a) else oZ f (evE C ar n a))):=by
 split
 ·rename_i ht
  exact PE.imp (hq _ (ih.tm b X e a G ht h)) fun σ H Q q=>EB q
 ·exact PE.imp (hq _ (ih.e b X e a G h)) fun σ H Q q=>EG q
theorem tF {x y:Str} (h:(x == y)=true):x=y:=by simpa using h
theorem nU {K:PySem.W.Frag} {x:XE} {σ:L2.St} {H:Hp} {Q Q':VK} (h:tE K x σ H Q) (f:∀ v H',Q v H'->Q' v H'):tE K x σ H Q':=by
 obtain ⟨m,ρ,S,d,S',E,R,e,q⟩:=h
 exact ⟨m,ρ,S,d,S',E,R,e,fun m' H' v A vd=>f _ _ (q m' H' v A vd)⟩
noncomputable def ifT (C:Calls) (ar:Nat->Nat) (n:Nat) (K:PySem.W.Frag):Option CE->TT
 | none=>z4
 | some c=>tT K (evT C ar n c)
theorem kK (ih:Snd T C ar k n) (G:CtxOk T C ar k b X) {ifs:List Expr} {cond:Option CE} (h:vm (cF T n b) ifs cond=true):PTs X ifs (ifT C ar n X.K cond):=by
 unfold vm at h
 split at h
 ·exact z5
 ·rename_i e c
  exact z6 (ih.t b X e c G h)
 ·cases h
theorem rH {K:PySem.W.Frag} {cond:Option CE} {acc:Addr} {c:XA} {D:Ends} {σ:L2.St} {H:Hp} (q:tCl K acc (cnd (evT C ar n) cond c) D σ H):eS (ifT C ar n K cond) (tCl K acc c) D σ H:=by
 cases cond with
 | none=>exact Fb q
 | some c=>exact AI q
theorem pQ (ih:Snd T C ar k n) (G:CtxOk T C ar k b X) {l:Option Expr} {lo:Option CE} (h:tB (am T n b) l lo=true):PO X l (tOI X.K (opt (evE C ar n) lo)):=by
 unfold tB at h
 split at h
 ·exact PO.imp zT fun σ H Q q=>Ar q
 ·rename_i e c
  exact PO.imp (zU (ih.e b X e c G h)) fun σ H Q q=>As q
 ·cases h
theorem Fv (ih:Snd T C ar k n) (e:Expr) (gs:List Comprehension) (elt:CE) (cls:List Cl) (G:CtxOk T C ar k b X) (h:jm T (n+1) b e gs elt cls=true) (gens:List Comprehension) (scope:Scope) (pos:Pos) (acc:Addr) (d:Nat) (hd:gens.drop (d+1)=gs) :
  PTl X e gens scope pos acc d (tCl X.K acc (f8 C ar (n+1) elt cls)):=by
 have imp:∀ {t t':TS},PTl X e gens scope pos acc d t->(∀ D σ H,t' D σ H->t D σ H)->PTl X e gens scope pos acc d t':=fun h f pins s σ H D I q=>h pins s σ H D I (f D σ H q)
 unfold jm at h
 split at h
 ·have hn:gens[d+1]?=none:=by
   have:=congrArg List.length hd
   simp at this
   exact List.getElem?_eq_none_iff.mpr (by omega)
  exact imp (ww G.xe hn (ih.e b X e elt G h)) fun D σ H q=>AH q
 ·rename_i t i ifs gs' tg it cond rest
  simp only [bAE] at h
  obtain ⟨⟨⟨h1,h2⟩,h3⟩,h4⟩:=h
  have hn:gens[d+1]?=some ⟨t,i,ifs,0⟩:=by
   have:=congrArg (·[0]?) hd
   simpa using this
  have hd':gens.drop (d+1+1)=gs':=by
   have:=congrArg (List.drop 1) hd
   simpa [List.drop_drop] using this
  have hpl:=fT h1 (fun e he env=>ek he) X.env
  exact imp (z7 hn (ih.i [acc] b X t i it G h1) (fU G h2) (kK ih G h3) (ih.cl b X e gs' elt rest G h4 gens scope pos acc (d+1) hd') G.xe G.calm hpl) fun D σ H q=>xM (fun D σ H z=>rH z) q
 ·cases h
theorem Js (ih:Snd T C ar k n) (B:List Addr) (t e:Expr) (c:CI) (G:CtxOk T C ar k b X) (h:eZ T (n+1) b t e c=true):PI X t e (tIt X.K B (evI C ar (n+1) c)):=by
 cases c with
 | val a=>
  simp only [eZ,bAE] at h
  show PI X t _ (tIt X.K B (if ak a=true then xIT (dq C ar n a) else xIV (evE C ar n a)))
  split
  ·rename_i ht
   exact PI.imp (sD (ih.tm b X _ a G ht h.1)) fun σ H R q=>La q
  ·exact PI.imp (PI.or (sD (ih.e b X _ a G h.1)) (D1 (ih.e b X _ a G h.1))) fun σ H R q=>K9 q
 | r1 a=>
  simp only [eZ] at h
  obtain ⟨x,p,q,rfl,h2,h3,h4⟩:=bu h
  exact PI.imp (ui (G.gl h2).1 (G.bl _ (by decide)) (cQ (ih.e b X x a G h3) h4) (av h4)) fun σ H R q=>Jk q
 | r2 a c=>
  simp only [eZ] at h
  obtain ⟨x,y,p,q,rfl,h2,h3,h4,h5,h6⟩:=kH h
  exact PI.imp (uj (G.gl h2).1 (G.bl _ (by decide)) (iw (ih.e b X x a G h3) (cQ (ih.e b X y c G h5) h6) h4) (by rw [av h4,av h6];rfl) (av h6)) fun σ H R q=>Jl q
 | en a=>
  simp only [eZ,bAE] at h
  obtain ⟨x,p,q,rfl,h2,h3,h4⟩:=bu h.1
  obtain ⟨elts,x1,tp,rfl,_⟩:=xZ h.2
  show PI X _ _ (tIt X.K B (if ak a=true then xET (dq C ar n a) else xEV (evE C ar n a)))
  split
  ·rename_i ht
   exact PI.imp (wH (G.gl h2).1 (G.bl _ (by decide)) (cQ (ih.tm b X x a G ht h3) h4) (av h4)) fun σ H R q=>Jj q
  ·exact PI.imp (PI.or (wH (G.gl h2).1 (G.bl _ (by decide)) (cQ (ih.e b X x a G h3) h4) (av h4)) (Er (G.gl h2).1 (G.bl _ (by decide)) (cQ (ih.e b X x a G h3) h4) (av h4))) fun σ H R q=>Ji q
end
end Ev
namespace Ev
open PySem PySem.Spec PyProof.Rows L2
section
variable {T:Tab} {C:Calls} {ar:Nat->Nat} {k n:Nat} {b:Blk} {X:Cx}
theorem pR {k:Nat} {A:Around} (r:Room k A):A.units+64 < cLine:=r.units
theorem iy (K:PySem.W.Frag) (m:List Addr) (H:Hp):∀ l:List Nat,VDs K m H (l.map fun j=>D.int (Int.ofNat j)) (l.map fun (j:Nat)=>V.int j)
 | []=>by rw [List.map_nil,List.map_nil,VDs]
 | a::l=>by rw [List.map_cons,List.map_cons,VDs];exact ⟨_,_,rfl,bq,iy K m H l⟩
theorem rJ {es:List Expr} {a:CE} (h:cm T n b es [a]=true):∃ y,es=[y]:=by
 cases n with
 | zero=>simp [cm] at h
 | succ n=>
  cases es with
  | nil=>simp [cm] at h
  | cons e es=>
   cases es with
   | nil=>exact ⟨e,rfl⟩
   | cons e' es=>
    simp only [cm,bAE] at h
    cases n with
    | zero=>have:=h.2;simp [cm] at this
    | succ n=>have:=h.2;simp [cm] at this
theorem AR (ih:Snd T C ar k n) {own:List Str} {elt:CE} {tg:Tg} {it:CI} {cond:Option CE} {rest:List Cl} {e t i:Expr} {ifs:List Expr} {gs:List Comprehension} {scope:Scope} {pos:Pos} (G:CtxOk T C ar k b X)
  (h0:cmB own (kG own b.N) b.N scope b.sc=true) (h1:eZ T n b t i it=true) (h2:lW (b.inner own scope) t tg=true) (h3:vm (cF T n (b.inner own scope)) ifs cond=true) (h4:jm T n (b.inner own scope) e gs elt rest=true) :
  PE X (.ListComp e (⟨t,i,ifs,0⟩::gs) scope pos) (gB X.K (kE own.length (evI C ar n it) tg (cnd (evT C ar n) cond (f8 C ar n elt rest)) LF)):=by
 have S:CmScope own (kG own b.N) b.N scope b.sc:=wJ _ h0
 have S':CmScope own (kG own b.N) X.N scope X.env.scope:=by rw [G.hN,G.hs];exact S
 have hpl:=fT h1 (fun e he env=>ek he) X.env
 refine PE.imp (z8 (g:=tTg X.K tg) (ti:=ifT C ar n X.K cond) (t:=fun acc=>tCl X.K acc (f8 C ar n elt rest)) G.calm S' (ih.i [] b X t i it G h1) (fun C' ex s H=>fU (G.inner S (C':=C') (ex:=ex) (s:=s) (H:=H)) h2) (fun C' ex s H=>kK ih (G.inner S (C':=C') (ex:=ex) (s:=s) (H:=H)) h3)
  (fun C' ex s H acc=>ih.cl _ _ e gs elt rest (G.inner S (C':=C') (ex:=ex) (s:=s) (H:=H)) h4 _ scope pos acc 0 rfl) hpl) fun σ H Q q=>?_
 exact tx (fun acc D σ H z=>rH z) q
theorem Fw {x:XE} {σ:L2.St} {H:Hp} {Q:VK} {K:PySem.W.Frag} (h:gB K (vh x) σ H Q):tE K x σ H fun v H1=>∃ i:Nat,v = .int i/\i<=1000/\∀ p,H1 p=none->∀ l,upd H1 p (.rng 0 i) l=none->Q (.ref l) (upd (upd H1 p (.rng 0 i)) l (.lst ((List.range i).map fun (j:Nat)=>V.int j))):=by
 obtain ⟨m,ρ,S,ds,S',E,R,e,q⟩:=h
 obtain ⟨d,S1,e1,e⟩:=ab e
 cases d with
 | int i=>
  dsimp only at e
  split at e
  ·rename_i hi
   cases e
   refine ⟨m,ρ,S,.int i,_,E,R,e1,fun m1 H1 v A1 vd=>⟨i.toNat,by rw [vd.ints];congr 1;omega,by omega,fun p hp l hl=>?_⟩⟩
   have A2:Aft K m1 H1 S' m1 (upd H1 p (.rng 0 i.toNat)):=⟨Ext.beside A1.rel hp _,A1.rel.beside hp _⟩
   have A3:Aft K m1 (upd H1 p (.rng 0 i.toNat)) S' m1 (upd (upd H1 p (.rng 0 i.toNat)) l (.lst ((List.range i.toNat).map fun (j:Nat)=>V.int j))):=⟨Ext.beside A2.rel hl _,A2.rel.beside hl _⟩
   have nl:l ∉ m1:=A2.rel.no hl
   have n1:H1 l=none:=by
    cases hh:H1 l with
    | none=>rfl
    | some o=>rw [(Ext.beside A1.rel hp (.rng 0 i.toNat)).keep l o hh nl] at hl;cases hl
   have nH:H l=none:=by
    cases hh:H l with
    | none=>rfl
    | some o=>
     by_cases hm:l ∈ m
     ·exact absurd (A1.ext.pre.subset hm) nl
     ·rw [A1.ext.keep l o hh hm] at n1;cases n1
   refine q m1 _ l _ (A1.trans (A2.trans A3)) bx nl (fun b hb z=>nl (z ▸ A1.ext.pre.subset hb)) nH ?_
   exact iy _ _ _ _
  ·cases e
 | _=>cases e
theorem Fx {f:Bool->List D->Option (List D)} {x:XE} {σ:L2.St} {H:Hp} {Q:VK} {K:PySem.W.Frag} (h:gB K (vg f x) σ H Q):tUn (rTm K f) (tE K x) σ H Q:=by
 obtain ⟨m,ρ,S,ds,S',E,R,e,q⟩:=h
 obtain ⟨d,S1,e1,e⟩:=ab e
 cases hi:aq d S1 with
 | none=>rw [hi] at e;cases e
 | some r=>
  rw [hi] at e
  dsimp only at e
  cases hf:f r.1 r.2 with
  | none=>rw [hf] at e;cases e
  | some es=>
  rw [hf] at e
  cases e
  refine ⟨m,ρ,S,d,_,E,R,e1,fun m1 H1 v A1 vd=>?_⟩
  obtain ⟨a,vs,ev,sq,vds⟩:=fh (tu:=r.1) (ds:=r.2) A1.rel vd hi
  refine ⟨m1,_,r.1,r.2,a,vs,ds,A1.rel,ev,sq,vds,hf,fun m2 H2 p ws A2 hp n1 n2 n3 vw=>?_⟩
  have hn:H p=none:=by
   cases eh:H p with
   | none=>rfl
   | some o=>
    by_cases hm:p ∈ m
    ·exact absurd rfl (n2 p (A1.ext.pre.subset hm))
    ·have:=A1.ext.keep p o eh hm
     rw [n3] at this;cases this
  exact q m2 H2 p ws (A1.trans A2) hp n1 (fun b hb=>n2 b (A1.ext.pre.subset hb)) hn vw
theorem Fy {f:Bool->List D->Option (List D)} {x:XA} {σ:L2.St} {H:Hp} {Q:VK} {K:PySem.W.Frag} (h:gB K (vf f x) σ H Q):tUn (rTm K f) (gB K x) σ H Q:=by
 obtain ⟨m,ρ,S,es,S',E,R,e,q⟩:=h
 obtain ⟨ds,S1,e1,e⟩:=ab e
 cases hf:f false ds with
 | none=>rw [hf] at e;cases e
 | some es'=>
 rw [hf] at e
 cases e
 refine ⟨m,ρ,S,ds,_,E,R,e1,fun m1 H1 a vs A1 ha na _ _ vd=>?_⟩
 refine ⟨m1,_,false,ds,a,vs,es,A1.rel,rfl,show SqL K H1 a vs from SqL.of ha,vd,hf,fun m2 H2 p ws A2 hp n1 n2 n3 vw=>?_⟩
 have hn:H p=none:=by
  cases eh:H p with
  | none=>rfl
  | some o=>
   by_cases hm:p ∈ m
   ·exact absurd rfl (n2 p (A1.ext.pre.subset hm))
   ·have:=A1.ext.keep p o eh hm
    rw [n3] at this;cases this
 exact q m2 H2 p ws (A1.trans A2) hp n1 (fun b hb=>n2 b (A1.ext.pre.subset hb)) hn vw
theorem x9 (ih:Snd T C ar k n) (e:Expr) (c:CE) (G:CtxOk T C ar k b X) (ht:ak c=true) (h:am T (n+1) b e c=true):PE X e (gB X.K (dq C ar (n+1) c)):=by
 cases c with
 | lst cs=>
  simp only [am] at h
  obtain ⟨es,p,rfl,hh⟩:=Fr h
  exact PE.imp (Ed (ih.a b X es cs G hh)) fun σ H Q q=>Am q
 | listR a=>
  simp only [am] at h
  obtain ⟨x,p,q,rfl,h2,h3,h4⟩:=bu h
  obtain ⟨y,p',q',rfl,h5,h6,h7⟩:=bu h3
  exact PE.imp (iP (ng G.calm) (G.gl h2).1 (G.bl _ (by decide)) PyProof.Rows.boot_list (cQ (iP oM (G.gl h5).1 (G.bl _ (by decide)) PyProof.Rows.boot_range (cQ (ih.e b X y a G h6) h7) (by decide) (G.gl h5).2 (av h7) rfl) h4) (by decide) (G.gl h2).2 (av h4) rfl) fun σ H Q q=>nU (Fw q) fun v H1 ⟨i,ev,hi,z⟩=>by
    subst ev
    exact ⟨i,rfl,fun p hp=>⟨p,i,rfl,bx,hi,fun l hl=>z p hp l hl⟩⟩
 | srt a=>
  simp only [am] at h
  obtain ⟨x,p,q,rfl,h2,h3,h4⟩:=bu h
  show PE X _ (gB X.K (if ak a=true then vf cu (dq C ar n a) else vg cu (evE C ar n a)))
  split
  ·rename_i ht
   exact PE.imp (fV mB G h2 (by decide) PyProof.Rows.boot_sorted (by decide) (ih.tm b X x a G ht h3) h4) fun σ H Q q=>Fy (f:=cu) q
  ·exact PE.imp (fV mB G h2 (by decide) PyProof.Rows.boot_sorted (by decide) (ih.e b X x a G h3) h4) fun σ H Q q=>Fx (f:=cu) q
 | comp own elt cls=>
  simp only [am] at h
  cases cls with
  | nil=>cases h
  | cons g rest=>
   obtain ⟨tg,it,cond⟩:=g
   obtain ⟨el,t,i,ifs,gs,scope,p,rfl,hh⟩:=tz h
   simp only [bAE] at hh
   obtain ⟨⟨⟨⟨h0,h1⟩,h2⟩,h3⟩,h4⟩:=hh
   exact AR ih G h0 h1 h2 h3 h4
 | _=>simp [ak] at ht
theorem nV {y:Expr} {pos:Pos} (h:aB y=true):((backTo pos (starEach [y] X.env)).all (fun x=>!x.1) && (backToKw pos (keywordEach [] X.env)).all (fun x=>x.1.isSome) && decide (([y]:List Expr).length+([]:List Keyword).length+(if ([]:List Keyword).isEmpty then 0 else 1) < 30))=true:=by
 rw [av h];rfl
theorem Jt (ih:Snd T C ar k n) (e:Expr) (c:CE) (G:CtxOk T C ar k b X) (h:am T (n+1) b e c=true):PE X e (tE X.K (evE C ar (n+1) c)):=by
 have hu:=pR G.room
 have tmp:ak c=true->evE C ar (n+1) c=dW (dq C ar (n+1) c)->PE X e (tE X.K (evE C ar (n+1) c)):=fun ht he=>by
  rw [he]
  exact PE.imp (x9 ih e c G ht h) fun σ H Q q=>o4 q
 cases c with
 | non=>simp only [am] at h;obtain ⟨_,_,rfl⟩:=Fo h;exact PE.imp DP fun σ H Q q=>w8 (fun _ _=>qP) q
 | bl v=>simp only [am] at h;obtain ⟨_,_,rfl⟩:=Jo h;exact PE.imp Io fun σ H Q q=>w8 (fun _ _=>cz) q
 | int v=>simp only [am] at h;obtain ⟨_,_,rfl⟩:=Fp h;exact PE.imp vR fun σ H Q q=>w8 (fun _ _=>bq) q
 | str v=>simp only [am] at h;obtain ⟨_,_,rfl⟩:=Fq h;exact PE.imp DQ fun σ H Q q=>w8 (fun _ _=>nz) q
 | var i=>
  simp only [am] at h
  obtain ⟨x,p,rfl,hh⟩:=nQ h
  simp only [bAE] at hh
  have v:=G.vis hh.2
  exact PE.imp (DN (i:=i) (by rw [G.hN];simpa using hh.1) v.1 v.2.1 v.2.2) fun σ H Q q=>EC q
 | con k' v=>
  simp only [am] at h
  obtain ⟨x,p,rfl,hh⟩:=nQ h
  simp only [bAE] at hh
  have g:=G.gl hh.2
  obtain ⟨tk,hm⟩:=G.con k' x v (by simpa using hh.1)
  exact PE.imp (zB (v:=.int v) g.1 hm ⟨tk,rfl⟩ g.2) fun σ H Q q=>w8 (fun _ _=>bq) q
 | tup cs=>simp only [am] at h;obtain ⟨es,_,_,rfl,hh⟩:=xZ h;exact PE.imp (Ec (ih.a b X es cs G hh)) fun σ H Q q=>EF q
 | lst cs=>exact tmp rfl rfl
 | bin o a c'=>simp only [am] at h;obtain ⟨l,r,p,rfl,h2,h3⟩:=Fs h;exact PE.imp (IG (Aq o) (ih.e b X l a G h2) (ih.e b X r c' G h3)) fun σ H Q q=>ny q
 | neg a=>simp only [am] at h;obtain ⟨x,p,rfl,hh⟩:=Ft h;exact PE.imp (IH AJ (ih.e b X x a G hh)) fun σ H Q q=>w5 q
 | cmp o a c'=>simp only [am] at h;obtain ⟨l,r,p,rfl,h2,h3,h4⟩:=x6 h;exact PE.imp (zL (fR hu o) (ih.e b X l a G h2) (ih.e b X r c' G h3) (gD h4)) fun σ H Q q=>ny q
 | chn o p' a c' d=>simp only [am] at h;obtain ⟨l,r,s,p,rfl,h2,h3,h4,h5⟩:=x8 h;exact PE.imp (v9 (fR hu o) (fR hu p') (ih.e b X l a G h2) (ih.e b X r c' G h3) (ih.e b X s d G h4) (kI h5)) fun σ H Q q=>xP q
 | and a c'=>
  simp only [am,Bool.or_eq_true] at h
  rcases h with h | h
  ·obtain ⟨x,y,p,rfl,h1,h2⟩:=nS h;exact PE.imp (vU (ih.e b X x a G h1) (vT (ih.e b X y c' G h2))) fun σ H Q q=>xO q
  ·obtain ⟨x,y,z,ys,p,rfl,h1,h2⟩:=nT h;exact PE.imp (vU (ih.e b X x a G h1) (ih.e b X _ c' G h2)) fun σ H Q q=>xO q
 | or a c'=>
  simp only [am,Bool.or_eq_true] at h
  rcases h with h | h
  ·obtain ⟨x,y,p,rfl,h1,h2⟩:=nS h;exact PE.imp (C2 (ih.e b X x a G h1) (vT (ih.e b X y c' G h2))) fun σ H Q q=>Dl q
  ·obtain ⟨x,y,z,ys,p,rfl,h1,h2⟩:=nT h;exact PE.imp (C2 (ih.e b X x a G h1) (ih.e b X _ c' G h2)) fun σ H Q q=>Dl q
 | not a=>simp only [am] at h;obtain ⟨x,p,rfl,hh⟩:=x5 h;exact PE.imp (DT (ih.e b X x a G hh)) fun σ H Q q=>Fd q
 | ix a c'=>
  simp only [am] at h
  obtain ⟨x,y,p,rfl,h1,h2,h3⟩:=Jp h
  show PE X _ (tE X.K (if ak a=true then qT (dq C ar n a) (evE C ar n c') else oX ixS (evE C ar n a) (evE C ar n c')))
  split
  ·rename_i ht
   exact PE.imp (Dc wn (ih.tm b X x a G ht h1) (ih.e b X y c' G h2) (pO h3)) fun σ H Q q=>ES q
  ·exact PE.imp (Dc K7 (ih.e b X x a G h1) (ih.e b X y c' G h2) (pO h3)) fun σ H Q q=>ny q
 | sl a lo hi=>simp only [am] at h;obtain ⟨x,y,z,p,p',rfl,h1,h2,h3⟩:=Jq h;exact PE.imp (wk K8 (ih.e b X x a G h1) (pQ ih G h2) (pQ ih G h3)) fun σ H Q q=>Jb q
 | call f cs=>
  simp only [am] at h
  obtain ⟨x,e,es,p,p',rfl,h12,h3⟩:=AO h
  simp only [bAE] at h12
  obtain ⟨h1,h2⟩:=h12
  cases hy:T.fns[f]? with
  | none=>rw [hy] at h1;cases h1
  | some y=>
   rw [hy] at h1
   have hx:=tF h1
   subst hx
   obtain ⟨ha,fa,fd,ps,hm,hk,hb,F⟩:=G.fns f y hy
   have hpl:=bJ h3
   have g:=G.gl h2
   exact PE.imp (zQ F G.room g.1 hm hk hb .nil IY (ih.a b X (e::es) cs G h3) g.2 (av (hpl e List.mem_cons_self)) (iY fun e he=>hpl e (List.mem_cons_of_mem _ he))) fun σ H Q q=>AK q
 | inst t a=>
  simp only [am] at h
  obtain ⟨x,y,p,p',rfl,h2,h5,h6,h7,_⟩:=kH h
  obtain ⟨y,p'',rfl,h8⟩:=nQ h7
  simp only [bAE] at h8
  obtain ⟨h3,h4⟩:=h8
  have hy:=tF h3
  subst hy
  have ty:PE X (.Name (Str.ofString t.nm) p'') (tC (.ty t.nm)):=by
   have g:=G.gl h4
   cases t with
   | int=>exact hR g.1 (G.bl _ (by decide)) PyProof.Rows.boot_int rfl (by decide) g.2
   | bool=>exact hR g.1 (G.bl _ (by decide)) PyProof.Rows.boot_bool rfl (by decide) g.2
   | tuple=>exact hR g.1 (G.bl _ (by decide)) PyProof.Rows.boot_tuple rfl (by decide) g.2
   | list=>exact hR g.1 (G.bl _ (by decide)) PyProof.Rows.boot_list rfl (by decide) g.2
   | str=>exact hR g.1 (G.bl _ (by decide)) PyProof.Rows.boot_str rfl (by decide) g.2
  exact PE.imp (hU (nh X.K) (G.gl h2).1 (G.bl _ (by decide)) PyProof.Rows.boot_isinstance (iw (ih.e b X x a G h5) (cQ ty rfl) h6) (by decide) (G.gl h2).2 (av h6) rfl) fun σ H Q q=>Aw q
 | len a=>simp only [am] at h;obtain ⟨x,p,p',rfl,h2,h3,h4⟩:=bu h;exact kJ ih G (fun te z=>fV uO G h2 (by decide) PySem.boot_len (by decide) z h4) h3
 | all a=>simp only [am] at h;obtain ⟨x,p,p',rfl,h2,h3,h4⟩:=bu h;exact kJ ih G (fun te z=>fV (uR G.calm) G h2 (by decide) PyProof.Rows.boot_all (by decide) z h4) h3
 | mxL a=>simp only [am] at h;obtain ⟨x,p,p',rfl,h2,h3,h4⟩:=bu h;exact kJ ih G (fun te z=>fV (uU G.calm) G h2 (by decide) PyProof.Rows.boot_max (by decide) z h4) h3
 | mxD a c=>
  simp only [am] at h
  obtain ⟨x,p,q,j,p',q',rfl,h2,h3,h4⟩:=AQ h
  exact kJ ih G (fun te z=>PE.imp (EY G.calm (G.gl h2).1 (G.bl _ (by decide)) (G.gl h2).2 (cQ z h4) (av h4)) fun σ H Q q=>q) h3
 | intOf a=>simp only [am] at h;obtain ⟨x,p,p',rfl,h2,h3,h4⟩:=bu h;exact PE.imp (tD uV G h2 (by decide) PyProof.Rows.boot_int (by decide) (ih.e b X x a G h3) h4) fun σ H Q q=>w5 q
 | tupOf a=>simp only [am] at h;obtain ⟨x,p,p',rfl,h2,h3,h4⟩:=bu h;exact kJ ih G (fun te z=>tD uQ G h2 (by decide) PyProof.Rows.boot_tuple (by decide) z h4) h3
 | listR a=>exact tmp rfl rfl
 | srt a=>exact tmp rfl rfl
 | mx a c'=>
  simp only [am] at h
  obtain ⟨x,es,p,p',rfl,h2,h3⟩:=pM h
  have hpl:=bJ h3
  exact PE.imp (hU (qY G.calm) (G.gl h2).1 (G.bl _ (by decide)) PyProof.Rows.boot_max (ih.a b X (x::es) [a,c'] G h3) (by decide) (G.gl h2).2 (av (hpl x List.mem_cons_self)) (iY fun e he=>hpl e (List.mem_cons_of_mem _ he))) fun σ H Q q=>w6 q
 | mn a c'=>
  simp only [am] at h
  obtain ⟨x,es,p,p',rfl,h2,h3⟩:=pM h
  have hpl:=bJ h3
  exact PE.imp (hU (qZ G.calm) (G.gl h2).1 (G.bl _ (by decide)) PyProof.Rows.boot_min (ih.a b X (x::es) [a,c'] G h3) (by decide) (G.gl h2).2 (av (hpl x List.mem_cons_self)) (iY fun e he=>hpl e (List.mem_cons_of_mem _ he))) fun σ H Q q=>w6 q
 | rep a=>simp only [am] at h;obtain ⟨x,p,p',rfl,h2,h3,h4⟩:=bu h;exact PE.imp (fV (rC G.room) G h2 (by decide) PyProof.Rows.boot_repr (by decide) (ih.e b X x a G h3) h4) fun σ H Q q=>w5 q
 | comp own elt cls=>exact tmp rfl rfl
 | app o a=>
  simp only [am] at h
  obtain ⟨x,ap,es,p,rfl,h2,h3,h4,h5⟩:=rF h
  obtain ⟨y,rfl⟩:=rJ h5
  have hpl:=bJ h5 y (by simp)
  exact PE.imp (wp PySem.F.plainAttrs_list PySem.F.slot_list_append PySem.F.type_list_append E5 (ih.e b X x o G h4) (ih.a b X [y] [a] G h5) (gF h2) (nV hpl) h3 (av hpl) rfl) fun σ H Q q=>rq (fun R vd c=>xE R vd c) q
 | popAt o a=>
  simp only [am] at h
  obtain ⟨x,ap,es,p,rfl,h2,h3,h4,h5⟩:=rF h
  obtain ⟨y,rfl⟩:=rJ h5
  have hpl:=bJ h5 y (by simp)
  exact PE.imp (wp PySem.F.plainAttrs_list PySem.F.slot_list_pop PySem.F.type_list_pop uY (ih.e b X x o G h4) (ih.a b X [y] [a] G h5) (gF h2) (nV hpl) h3 (av hpl) rfl) fun σ H Q q=>rq (fun R vd c=>xE R vd c) q
 | cnt o a=>
  simp only [am] at h
  obtain ⟨x,ap,es,p,rfl,h2,h3,h4,h5⟩:=rF h
  obtain ⟨y,rfl⟩:=rJ h5
  have hpl:=bJ h5 y (by simp)
  exact PE.imp (wp PySem.F.plainAttrs_tuple PySem.F.slot_tuple_count PySem.F.type_tuple_count Ay (ih.e b X x o G h4) (ih.a b X [y] [a] G h5) (gF h2) (nV hpl) h3 (av hpl) rfl) fun σ H Q q=>rq (fun R vd c=>EZ R vd c) q
end
end Ev
namespace Ev
open PySem PySem.Spec PyProof.Rows L2
section
variable {T:Tab} {C:Calls} {ar:Nat->Nat} {k n:Nat} {b:Blk} {X:Cx}
theorem tG {op:BoolOp} {vs:List Expr} {p:Pos} {t:TT} (h:PT X (.BoolOp op vs p) t):PW X (.BoolOp op vs p) t:=fun whole pins s σ H Q I q=>h pins s σ H Q I q
theorem Ju (ih:Snd T C ar k n) (e:Expr) (c:CE) (G:CtxOk T C ar k b X) (h:cF T (n+1) b e c=true):PT X e (tT X.K (evT C ar (n+1) c)):=by
 have hu:=pR G.room
 have dflt:evT C ar (n+1) c=Au (evE C ar n c)->(am T n b e c && xT e)=true->PT X e (tT X.K (evT C ar (n+1) c)):=fun e1 hh=>by
  rw [e1]
  rw [bAE] at hh
  exact PT.imp (wb (ih.e b X e c G hh.1) (rG hh.2)) fun σ H Q q=>EU q
 cases c with
 | cmp o a c'=>simp only [cF] at h;obtain ⟨l,r,p,rfl,h2,h3,h4⟩:=x6 h;exact PT.imp (zM (fR hu o) (ih.e b X l a G h2) (ih.e b X r c' G h3) (gD h4)) fun σ H Q q=>ny (Jc (t:=tE X.K (evE C ar n a)) q)
 | chn o p' a c' d=>simp only [cF] at h;obtain ⟨l,r,s,p,rfl,h2,h3,h4,h5⟩:=x8 h;exact PT.imp (wa (fR hu o) (fR hu p') (ih.e b X l a G h2) (ih.e b X r c' G h3) (ih.e b X s d G h4) (kI h5)) fun σ H Q q=>xP (Jc (t:=tE X.K (evE C ar n a)) q)
 | and a c'=>
  simp only [cF,Bool.or_eq_true] at h
  rcases h with h | h
  ·obtain ⟨x,y,p,rfl,h1,h2⟩:=nS h;exact PT.imp (vS (ih.t b X x a G h1) (zC (ih.t b X y c' G h2))).pt fun σ H Q q=>xS q
  ·obtain ⟨x,y,z,ys,p,rfl,h1,h2⟩:=nT h;exact PT.imp (vS (ih.t b X x a G h1) (tG (ih.t b X _ c' G h2))).pt fun σ H Q q=>xS q
 | or a c'=>
  simp only [cF,Bool.or_eq_true] at h
  rcases h with h | h
  ·obtain ⟨x,y,p,rfl,h1,h2⟩:=nS h;exact PT.imp (CZ (ih.t b X x a G h1) (DR (ih.t b X y c' G h2))).pt fun σ H Q q=>Dm q
  ·obtain ⟨x,y,z,ys,p,rfl,h1,h2⟩:=nT h;exact PT.imp (CZ (ih.t b X x a G h1) (tG (ih.t b X _ c' G h2))).pt fun σ H Q q=>Dm q
 | not a=>simp only [cF] at h;obtain ⟨x,p,rfl,h1⟩:=x5 h;exact PT.imp (DS (ih.t b X x a G h1)) fun σ H Q q=>Ff q
 | _=>exact dflt rfl (by simpa only [cF] using h)
theorem snd:∀ n,Snd T C ar k n
 | 0=>⟨fun b X e c _ h=>by simp [am] at h,fun b X e c _ _ h=>by simp [am] at h,fun b X e c _ h=>by simp [cm] at h,fun b X e c _ h=>by simp [cF] at h,fun B b X t e c _ h=>by simp [eZ] at h,fun b X e gs elt cls _ h=>by simp [jm] at h⟩
 | n+1=>⟨fun b X e c G h=>Jt (snd n) e c G h,fun b X e c G ht h=>x9 (snd n) e c G ht h,fun b X es cs G h=>Jr (snd n) es cs G h,fun b X e c G h=>Ju (snd n) e c G h,fun B b X t e c G h=>Js (snd n) B t e c G h,fun b X e gs elt cls G h=>Fv (snd n) e gs elt cls G h⟩
end
end Ev
namespace Ev
open PySem PySem.Spec PyProof.Rows L2
inductive CS where | asg (t:Tg) (e:CE) | setI (v o i:CE) | ex (e:CE) | ret (e:CE) | ifs (c:CE) (a b:List CS) | for_ (t:Tg) (it:CI) (b:List CS) | cnt | never
noncomputable def AS:XS:=fun _ _=>none
mutual
noncomputable def evS (C:Calls) (ar:Nat->Nat):Nat->CS->XS
 | 0,_=>AS
 | n+1,s=>match s with
  | .asg t e=>kD (evE C ar n e) t
  | .setI v o i=>pF (evE C ar n v) (evE C ar n o) (evE C ar n i)
  | .ex e=>pE (evE C ar n e)
  | .ret e=>xI (evE C ar n e)
  | .ifs c a b=>xIf (evT C ar n c) (gG C ar n a) (gG C ar n b)
  | .for_ t it b=>xJ (evI C ar n it) t (gG C ar n b) LF
  | .cnt=>Jm
  | .never=>AS
noncomputable def gG (C:Calls) (ar:Nat->Nat):Nat->List CS->XS
 | 0,_=>AS
 | n+1,ss=>match ss with
  | []=>Dj
  | s::ss=>xH (evS C ar n s) (gG C ar n ss)
end
noncomputable def ya:Expr->Bool
 | .Starred _ _=>true
 | _=>false
noncomputable def fW (sc:Scope) (line:Nat) (ts:List Expr):List Str:=ts.filterMap fun
 | .Name id pos=>if sc.names.lookup id == some .local && pos.line == line then some id else none
 | _=>none
noncomputable def tH (sc:Scope) (ts vs:List Expr):Option (Option (List Str)):=
 if (!(ts.length == 2 || ts.length == 3) || vs.length != ts.length)=true then some none
 else if (vs.any ya)=true then some none
 else if ((fW sc ((ts.head?.map (·.pos.line)).getD 0) ts).length != ts.length || (fW sc ((ts.head?.map (·.pos.line)).getD 0) ts).eraseDups.length != (fW sc ((ts.head?.map (·.pos.line)).getD 0) ts).length)=true then some none
 else if (vs.all (foldedForSure 8))=true then some none
 else if (vs.all (constantsAlone 8))=true then none
 else some (some (fW sc ((ts.head?.map (·.pos.line)).getD 0) ts))
theorem Jv {sc:Scope} {ts vs:List Expr} {env:Env} {r:Option (List Str)} {k k2:Nat} {p p2:Pos} (hk:env.blockKind = .function) (hs:env.scope=sc) (h:tH sc ts vs=some r):swappedStores [.Tuple ts k p] (.Tuple vs k2 p2) env=pure r:=by
 unfold tH at h
 unfold swappedStores
 have e1:(vs.any fun | .Starred ..=>true | _=>false)=vs.any ya:=by
  congr 1
 have e2:(ts.filterMap fun
   | .Name id pos=>if env.kindOf id == some .local && pos.line == ((ts.head?.map (·.pos.line)).getD 0) then some id else none
   | _=>none)=fW sc ((ts.head?.map (·.pos.line)).getD 0) ts:=by
  unfold fW Env.kindOf
  rw [hs]
 have e3:(env.blockKind != .function)=false:=by rw [hk];rfl
 simp only [e3,Bool.or_false]
 split at h
 ·rename_i c1;rw [if_pos c1];cases h;rfl
 rename_i c1;rw [if_neg c1]
 split at h
 ·rename_i c2;cases h;exact if_pos (e1.trans c2)
 rename_i c2;refine Eq.trans (if_neg fun z=>c2 (e1.symm.trans z)) ?_
 split at h
 ·rename_i c3;cases h;rw [<-e2] at c3;exact if_pos c3
 rename_i c3;rw [<-e2] at c3 h;refine Eq.trans (if_neg c3) ?_
 split at h
 ·rename_i c4;cases h;exact if_pos c4
 rename_i c4;refine Eq.trans (if_neg c4) ?_
 split at h
 ·cases h
 rename_i c5;cases h;exact if_neg c5
noncomputable def yb:Expr->Option (Scope × Pos)
 | .ListComp _ _ s p=>some (s,p)
 | .SetComp _ _ s p=>some (s,p)
 | .DictComp _ _ _ s p=>some (s,p)
 | _=>none
noncomputable def swW (sc:Scope) (v:Expr) (t:Str) (pos:Pos):Bool:=match yb v with
 | none=>false
 | some (s,p)=>sc.names.lookup t == some .local && pos.line == p.line && !(s.names.any fun y=>y.1 == t && (y.2 == .local || y.2 == .cell))
theorem Fz {sc:Scope} {v:Expr} {t:Str} {pos:Pos} {line:Nat} {env:Env} (hk:env.blockKind = .function) (hs:env.scope=sc):swapsWith v (some (.Name t pos)) line env=pure (swW sc v t pos):=by
 unfold swapsWith swW yb
 have e3:(env.blockKind == .function)=true:=by rw [hk];rfl
 cases v <;> first | rfl | (simp only [e3,Bool.true_and,Env.kindOf,hs];rfl)
theorem pS {v tg:Expr} {line:Nat} {env:Env} (h:∀ x p,tg ≠ .Name x p):swapsWithSole [tg] v line env=pure false:=by
 show swapsWith v (some tg) line env=pure false
 unfold swapsWith
 cases v <;> first | rfl | (cases tg <;> first | rfl | (exact absurd rfl (h _ _)))
theorem tI {v tg:Expr} {env:Env} (h:(∀ es k p,v ≠ .Tuple es k p)\/(∃ x p,tg = .Name x p)\/(∃ o i p,tg = .Subscript o i p)):swappedStores [tg] v env=pure none:=by
 unfold swappedStores
 rcases h with h | ⟨x,p,rfl⟩ | ⟨o,i,p,rfl⟩
 ·split
  ·rename_i e
   split at e
   ·exact absurd rfl (h _ _ _)
   ·exact absurd rfl (h _ _ _)
   ·cases e
  ·rfl
 ·rfl
 ·rfl
end Ev
namespace Ev
open PySem PySem.Spec PyProof.Rows L2
noncomputable def nmL:List Expr->Option (List Str)
 | []=>some []
 | e::es=>match rE e,nmL es with
  | some r,some xs=>some (r.1::xs)
  | _,_=>none
theorem fq {es:List Expr} {x:Str} {xs:List Str} (h:nmL es=some (x::xs)):∃ p es',es = .Name x p::es'/\nmL es'=some xs:=by
 cases es with
 | nil=>cases h
 | cons e es=>
  rw [nmL] at h
  split at h
  ·rename_i r ys h1 h2
   cases h
   exact ⟨_,es,by rw [nJ h1],h2⟩
  ·cases h
theorem tJ {es:List Expr} (h:nmL es=some []):es=[]:=by
 cases es with
 | nil=>rfl
 | cons e es=>
  rw [nmL] at h
  split at h <;> cases h
noncomputable def tgL:List Tg->Option (List Nat)
 | []=>some []
 | .name i::ts=>match tgL ts with
  | some is=>some (i::is)
  | none=>none
 | .tup _::_=>none
theorem yc:∀ {ts:List Tg} {is:List Nat},tgL ts=some is->ts=is.map Tg.name
 | [],_,h=>by cases h;rfl
 | .name i::ts,is,h=>by
  rw [tgL] at h
  cases e:tgL ts with
  | none=>rw [e] at h;cases h
  | some js=>rw [e] at h;cases h;rw [yc e];rfl
 | .tup _::_,_,h=>by cases h
noncomputable def Jw (b:Blk) (ns:List Str) (is:List Nat):Bool:=match ns with
 | [x,y]=>(match is with
  | [i,j]=>b.N[i]? == some x && b.N[j]? == some y && i != j && b.sc.names.lookup x == some .local && b.sc.names.lookup y == some .local
  | _=>false)
 | [x,y,z]=>(match is with
  | [i,j,l]=>b.N[i]? == some x && b.N[j]? == some y && b.N[l]? == some z && i != j && i != l && j != l && b.sc.names.lookup x == some .local && b.sc.names.lookup y == some .local && b.sc.names.lookup z == some .local
  | _=>false)
 | _=>false
noncomputable def Jx:Expr->Bool
 | .ListComp _ _ _ _=>true
 | _=>false
noncomputable def Lb:Expr->Bool
 | .List _ _=>true
 | _=>false
noncomputable def rK (T:Tab) (n:Nat) (b:Blk) (tg e:Expr) (t:Tg) (c:CE):Bool:=match t with
 | .name i=>(match rE tg with
  | some r=>am T n b e c && b.N[i]? == some r.1 && b.own r.1 && (!(swW b.sc e r.1 r.2) || (Jx e && b.sc.names.lookup r.1 == some .local))
  | none=>false)
 | .tup gs=>(match pK tg with
  | some r=>am T n b e c && (match pK e with
   | some q=>(match tH b.sc r.1 q.1 with
    | some none=>dI b r.1 gs
    | some (some ns)=>(match tgL gs with
     | some is=>nmL r.1 == some ns && q.1.length == ns.length && Jw b ns is
     | none=>false)
    | none=>false)
   | none=>!(Lb e) && dI b r.1 gs)
  | none=>false)
noncomputable def nW:Expr->Bool
 | .ListComp _ _ _ _=>true
 | .SetComp _ _ _ _=>true
 | .DictComp _ _ _ _ _=>true
 | _=>false
noncomputable def FA (k:Expr->Expr->Bool):Stmt->Bool
 | .Assign [tg] v _=>k tg v
 | _=>false
noncomputable def yd (k l m:Expr->Bool):Stmt->Bool
 | .Assign [.Subscript x y _] z _=>k z && l x && m y && aB y
 | _=>false
noncomputable def zEx (k:Expr->Bool):Stmt->Bool
 | .Expr v _=>k v && !(nW v)
 | _=>false
noncomputable def FB (k:Expr->Bool):Stmt->Bool
 | .Return (some v) _=>k v
 | _=>false
noncomputable def zIf (k:Expr->Bool) (l m:List Stmt->Bool):Stmt->Bool
 | .If t p q _=>k t && l p && m q
 | _=>false
noncomputable def FC (k:Expr->Expr->Bool) (l:List Stmt->Bool):Stmt->Bool
 | .For tg i p [] _=>k tg i && l p
 | _=>false
noncomputable def FD:Stmt->Bool
 | .Continue _=>true
 | _=>false
section
variable {s:Stmt} {k l m:Expr->Bool}
theorem FE {k:Expr->Expr->Bool} (h:FA k s=true):∃ tg v p,s = .Assign [tg] v p/\k tg v=true:=by unfold FA at h;split at h <;> first | exact ⟨_,_,_,rfl,h⟩ | cases h
theorem AU (h:yd k l m s=true):∃ x y q z p,s = .Assign [.Subscript x y q] z p/\k z=true/\l x=true/\m y=true/\aB y=true:=by unfold yd at h;split at h <;> first | (simp at h;exact ⟨_,_,_,_,_,rfl,h.1.1.1,h.1.1.2,h.1.2,h.2⟩) | cases h
theorem Jy (h:zEx k s=true):∃ v p,s = .Expr v p/\k v=true/\nW v=false:=by unfold zEx at h;split at h <;> first | (simp at h;exact ⟨_,_,rfl,h.1,h.2⟩) | cases h
theorem FF (h:FB k s=true):∃ v p,s = .Return (some v) p/\k v=true:=by unfold FB at h;split at h <;> first | exact ⟨_,_,rfl,h⟩ | cases h
theorem Jz {l m:List Stmt->Bool} (h:zIf k l m s=true):∃ t p q r,s = .If t p q r/\k t=true/\l p=true/\m q=true:=by unfold zIf at h;split at h <;> first | (simp at h;exact ⟨_,_,_,_,rfl,h.1.1,h.1.2,h.2⟩) | cases h
theorem FG {k:Expr->Expr->Bool} {l:List Stmt->Bool} (h:FC k l s=true):∃ tg i p q,s = .For tg i p [] q/\k tg i=true/\l p=true:=by unfold FC at h;split at h <;> first | (simp at h;exact ⟨_,_,_,_,rfl,h.1,h.2⟩) | cases h
theorem FH (h:FD s=true):∃ p,s = .Continue p:=by unfold FD at h;split at h <;> first | exact ⟨_,rfl⟩ | cases h
end
mutual
noncomputable def lX (T:Tab):Nat->Blk->Stmt->CS->Bool
 | 0,_,_,_=>false
 | n+1,b,s,c=>match c with
  | .asg t e=>FA (fun tg v=>rK T n b tg v t e) s
  | .setI v o i=>yd (fun x=>am T n b x v) (fun x=>am T n b x o) (fun x=>am T n b x i) s
  | .ex e=>zEx (fun x=>am T n b x e) s
  | .ret e=>FB (fun x=>am T n b x e) s
  | .ifs c x y=>zIf (fun e=>cF T n b e c) (fun p=>gh T n b p x) (fun p=>gh T n b p y) s
  | .for_ t it x=>FC (fun tg i=>eZ T n b tg i it && lW b tg t) (fun p=>gh T n b p x) s
  | .cnt=>FD s
  | .never=>true
noncomputable def gh (T:Tab):Nat->Blk->List Stmt->List CS->Bool
 | 0,_,_,_=>false
 | n+1,b,ss,cs=>match ss,cs with
  | [],[]=>true
  | s::ss,c::cs=>lX T n b s c && gh T n b ss cs
  | _,_=>false
end
section
variable {T:Tab} {C:Calls} {ar:Nat->Nat} {k n:Nat} {b:Blk} {X:Cx}
theorem AV {es:List Expr} {cs:List CE} {k':Nat} {p:Pos} (h:am T (n+1) b (.Tuple es k' p) (.tup cs)=true):cm T n b es cs=true:=by simpa only [am,xU] using h
theorem ye {es:List Expr} {c:CE} {k':Nat} {p:Pos} (h:am T (n+1) b (.Tuple es k' p) c=true):∃ cs,c = .tup cs:=by
 cases c with
 | tup cs=>exact ⟨cs,rfl⟩
 | comp own elt cls=>
  cases cls with
  | nil=>simp only [am] at h;cases h
  | cons g rest=>obtain ⟨tg,it,cond⟩:=g;simp only [am] at h;cases h
 | _=>simp only [am] at h;cases h
theorem gH:∀ (ts:List Tg) (ds:List D) (ρ ρ':Rho),aK ts ds ρ=some ρ'->ts.length=ds.length
 | [],[],_,_,_=>rfl
 | [],_::_,_,_,e=>by simp [aK] at e
 | _::_,[],_,_,e=>by simp [aK] at e
 | t::ts,d::ds,ρ,ρ',e=>by
  simp only [aK] at e
  split at e
  ·simp [gH _ _ _ _ e]
  ·cases e
theorem pT {K:PySem.W.Frag} {x:XA} {ts:List Tg} {D:Ends} {σ:L2.St} {H:Hp} (h:tSt K (kD (jJ jK x) (.tup ts)) D σ H):tAr K x σ H fun vs H1=>∃ m1 ρ ρ' ds,EnvR K m1 H1 ρ σ/\VDs K m1 H1 ds vs/\aK ts ds ρ=some ρ'/\∀ σ',EnvR K m1 H1 ρ' σ'->D.nx σ' H1:=by
 obtain ⟨m,ρ,S,fl,ρ',S',E,R,e,q⟩:=h
 unfold kD at e
 cases hx:jJ jK x ρ S with
 | none=>rw [hx] at e;cases e
 | some r=>
  rw [hx] at e
  obtain ⟨ds,S1,e1,e2⟩:=ab hx
  unfold jK at e2
  split at e2
  ·cases e2
   dsimp only at e
   simp only [ax] at e
   cases hb:aK ts ds ρ with
   | none=>rw [hb] at e;cases e
   | some ρ1=>
    rw [hb] at e
    cases e
    exact ⟨m,ρ,S,ds,_,E,R,e1,fun m1 H1 vs A1 vd=>⟨m1,ρ,_,ds,E.mono R A1.ext,vd,hb,fun σ' E'=>q m1 H1 A1 σ' E'⟩⟩
  ·cases e2
theorem pU {K:PySem.W.Frag} {x:XA} {σ:L2.St} {H:Hp} {Q Q':List V->Hp->Prop} (h:tAr K x σ H Q) (f:∀ v H',Q v H'->Q' v H'):tAr K x σ H Q':=by
 obtain ⟨m,ρ,S,d,S',E,R,e,q⟩:=h
 exact ⟨m,ρ,S,d,S',E,R,e,fun m' H' v A vd=>f _ _ (q m' H' v A vd)⟩
theorem kL {ρ ρ':Rho} {i:Nat} {d:D} (h:(if i < ρ.length then some (ρ.set i (some d)) else none)=some ρ'):ρ'=ρ.set i (some d):=by
 split at h
 ·cases h;rfl
 ·cases h
theorem AW {K:PySem.W.Frag} {x:XA} {i j:Nat} {D:Ends} {σ:L2.St} {H:Hp} (h:tSt K (kD (jJ jK x) (.tup [.name i,.name j])) D σ H):IB i j (tAr K x) D σ H:=by
 refine pU (pT h) fun vs H1 ⟨m1,ρ,ρ',ds,E,vd,e,q⟩=>?_
 have hl:=gH _ _ _ _ e
 match ds,hl with
 | [a,c],_=>
  obtain ⟨v,w,rfl,va,vc⟩:=xn vd
  refine ⟨v,w,rfl,q _ ?_⟩
  simp only [aK,ax] at e
  split at e
  ·rename_i r1 h1
   have:=kL h1
   subst this
   split at e
   ·rename_i r2 h2
    have:=kL h2
    subst this
    cases e
    exact (E.set va).set vc
   ·cases e
  ·cases e
theorem Lc {K:PySem.W.Frag} {m:List Addr} {H:Hp} {a b c:D} {vs:List V} (h:VDs K m H [a,b,c] vs):∃ v w z,vs=[v,w,z]/\VD K m H a v/\VD K m H b w/\VD K m H c z:=by
 rw [VDs] at h
 obtain ⟨v,r,rfl,p,q⟩:=h
 obtain ⟨w,z,rfl,p',q'⟩:=xn q
 exact ⟨v,w,z,rfl,p,p',q'⟩
theorem AX {K:PySem.W.Frag} {x:XA} {i j l:Nat} {D:Ends} {σ:L2.St} {H:Hp} (h:tSt K (kD (jJ jK x) (.tup [.name i,.name j,.name l])) D σ H):De i j l (tAr K x) D σ H:=by
 refine pU (pT h) fun vs H1 ⟨m1,ρ,ρ',ds,E,vd,e,q⟩=>?_
 have hl:=gH _ _ _ _ e
 match ds,hl with
 | [a,c,d],_=>
  obtain ⟨v,w,z,rfl,va,vc,vd'⟩:=Lc vd
  refine ⟨v,w,z,rfl,q _ ?_⟩
  simp only [aK,ax] at e
  split at e
  ·rename_i r1 h1
   have:=kL h1
   subst this
   split at e
   ·rename_i r2 h2
    have:=kL h2
    subst this
    split at e
    ·rename_i r3 h3
     have:=kL h3
     subst this
     cases e
     exact ((E.set va).set vc).set vd'
    ·cases e
   ·cases e
  ·cases e
theorem yf {e:Expr} {gs:List Comprehension} {scope:Scope} {p:Pos} {c:CE} (h:am T (n+1) b (.ListComp e gs scope p) c=true):∃ own elt tg it cond rest t i ifs gs',c = .comp own elt (⟨tg,it,cond⟩::rest)/\gs=⟨t,i,ifs,0⟩::gs' ∧
  cmB own (kG own b.N) b.N scope b.sc=true/\eZ T n b t i it=true/\lW (b.inner own scope) t tg=true/\vm (cF T n (b.inner own scope)) ifs cond=true/\jm T n (b.inner own scope) e gs' elt rest=true:=by
 cases c with
 | comp own elt cls=>
  cases cls with
  | nil=>simp only [am] at h;cases h
  | cons g rest=>
   obtain ⟨tg,it,cond⟩:=g
   simp only [am] at h
   obtain ⟨el,t,i,ifs,gs',scope',p',he,hh⟩:=tz h
   cases he
   simp only [bAE] at hh
   obtain ⟨⟨⟨⟨h0,h1⟩,h2⟩,h3⟩,h4⟩:=hh
   exact ⟨own,elt,tg,it,cond,rest,t,i,ifs,gs',rfl,rfl,h0,h1,h2,h3,h4⟩
 | _=>simp only [am] at h;cases h
end
end Ev
namespace Ev
open PySem PySem.Spec PyProof.Rows L2
section
variable {T:Tab} {C:Calls} {ar:Nat->Nat} {k n:Nat} {b:Blk} {X:Cx}
theorem AY (h:X.env.scope.kind = .function):X.env.blockKind = .function:=by
 unfold Env.blockKind
 rw [h];rfl
theorem AZ {α:Type} {l:List α} (h:l.length=2):∃ a b,l=[a,b]:=by
 match l,h with
 | [a,b],_=>exact ⟨a,b,rfl⟩
theorem vn {α:Type} {l:List α} (h:l.length=3):∃ a b c,l=[a,b,c]:=by
 match l,h with
 | [a,b,c],_=>exact ⟨a,b,c,rfl⟩
theorem FI (G:CtxOk T C ar k b X) (hk:X.env.scope.kind = .function) {tg e:Expr} {t:Tg} {c:CE} {p:Pos} (h:rK T n b tg e t c=true):PS X (.Assign [tg] e p) (tSt X.K (kD (evE C ar n c) t)):=by
 have hb:=AY hk
 unfold rK at h
 cases t with
 | name i=>
  dsimp only at h
  cases hx:rE tg with
  | none=>rw [hx] at h;cases h
  | some r=>
  obtain ⟨x,px⟩:=r
  rw [hx] at h
  rw [nJ hx]
  simp only [bAE] at h
  obtain ⟨⟨⟨h1,h2⟩,h3⟩,h4⟩:=h
  have hi:X.N[i]?=some x:=by rw [G.hN];simpa using h2
  have nd:X.N.Nodup:=by rw [G.hN];exact G.nd
  have o:=G.own h3
  have sw:=Fz (sc:=b.sc) (v:=e) (t:=x) (pos:=px) (line:=p.line) hb G.hs
  cases hw:swW b.sc e x px with
  | false=>
   rw [hw] at sw
   exact PS.imp (DZ nd hi o.1 ((snd n).e b X e c G h1) sw o.2) fun D σ H q=>nU (rD q) fun v H' z=>nI z
  | true=>
   rw [hw] at h4 sw
   simp only [Bool.not_true,Bool.false_or,bAE] at h4
   obtain ⟨h5,h4⟩:=h4
   unfold Jx at h5
   split at h5
   ·rename_i el gs scope pp
    cases n with
    | zero=>simp [am] at h1
    | succ n=>
     obtain ⟨own,elt,tg',it,cond,rest,tt,ii,ifs,gs',rfl,rfl,c0,c1,c2,c3,c4⟩:=yf h1
     have S:CmScope own (kG own b.N) b.N scope b.sc:=wJ _ c0
     have S':CmScope own (kG own b.N) X.N scope X.env.scope:=by rw [G.hN,G.hs];exact S
     have hpl:=fT c1 (fun e he env=>ek he) X.env
     have hx:X.env.scope.names.lookup x=some .local:=by rw [G.hs];simpa using h4
     refine PS.imp (z9 (g:=tTg X.K tg') (ti:=ifT C ar n X.K cond) (t:=fun acc=>tCl X.K acc (f8 C ar n elt rest)) G.calm S' nd hi hx ((snd n).i [] b X tt ii it G c1) (fun C' ex s H=>fU (G.inner S (C':=C') (ex:=ex) (s:=s) (H:=H)) c2) (fun C' ex s H=>kK (snd n) (G.inner S (C':=C') (ex:=ex) (s:=s) (H:=H)) c3)
      (fun C' ex s H acc=>(snd n).cl _ _ el gs' elt rest (G.inner S (C':=C') (ex:=ex) (s:=s) (H:=H)) c4 _ scope pp acc 0 rfl) sw hpl) fun D σ H q=>?_
     exact tx (fun acc D σ H z=>rH z) (o4 (nU (rD q) fun v H' z=>nI z))
   ·cases h5
 | tup gs=>
  dsimp only at h
  cases hx:pK tg with
  | none=>rw [hx] at h;cases h
  | some r=>
  obtain ⟨ts,kt,pt⟩:=r
  rw [hx] at h
  rw [nK hx]
  simp only [bAE] at h
  obtain ⟨h1,h3⟩:=h
  have so:swapsWithSole [.Tuple ts kt pt] e p.line X.env=pure false:=pS fun x p z=>nomatch z
  have plain:∀ (hw:swappedStores [.Tuple ts kt pt] e X.env=pure none) (hg:dI b ts gs=true),PS X (.Assign [.Tuple ts kt pt] e p) (tSt X.K (kD (evE C ar n c) (.tup gs))):=fun hw hg=>
   PS.imp (vZ ((snd n).e b X e c G h1) (fU G (e:=.Tuple ts kt pt) (t:=.tup gs) (by rw [lW];exact hg)) so hw rfl) fun D σ H q=>rD q
  cases hy:pK e with
  | none=>
   rw [hy] at h3
   simp only [bAE] at h3
   exact plain (tI (.inl fun es k p z=>by rw [z] at hy;cases hy)) h3.2
  | some q=>
   obtain ⟨es,ke,pe⟩:=q
   rw [hy] at h3
   obtain rfl:=nK hy
   cases n with
   | zero=>simp [am] at h1
   | succ n=>
    obtain ⟨cs,rfl⟩:=ye h1
    have ha:=AV h1
    dsimp only at h3
    cases hr:tH b.sc ts es with
    | none=>rw [hr] at h3;cases h3
    | some w=>
     have hw:=Jv (k:=kt) (p:=pt) (k2:=ke) (p2:=pe) hb G.hs hr
     rw [hr] at h3
     cases w with
     | none=>exact plain hw h3
     | some ns=>
      dsimp only at h3
      cases ht:tgL gs with
      | none=>rw [ht] at h3;cases h3
      | some is=>
       rw [ht] at h3
       simp only [bAE] at h3
       obtain ⟨⟨hn0,hl0⟩,h3⟩:=h3
       have hn:nmL ts=some ns:=by simpa using hn0
       have hl:es.length=ns.length:=by simpa using hl0
       clear hn0 hl0
       obtain rfl:=yc ht
       unfold Jw at h3
       split at h3
       ·rename_i x y
        split at h3
        ·rename_i i j
         obtain ⟨p1,t1,rfl,hn1⟩:=fq hn
         obtain ⟨p2,t2,rfl,hn2⟩:=fq hn1
         obtain rfl:=tJ hn2
         obtain ⟨a1,a2,rfl⟩:=AZ hl
         simp only [bAE] at h3
         obtain ⟨⟨⟨⟨q2,q3⟩,q4⟩,q5⟩,q6⟩:=h3
         exact PS.imp (D0 (i:=i) (j:=j) G.calm (by rw [G.hN];exact G.nd) (by rw [G.hN];simpa using q2) (by rw [G.hN];simpa using q3) (by simpa using q4) (by rw [G.hs];simpa using q5) (by rw [G.hs];simpa using q6) ((snd n).a b X _ cs G ha) hw so) fun D σ H q=>AW q
        ·cases h3
       ·rename_i x y z
        split at h3
        ·rename_i i j l
         obtain ⟨p1,t1,rfl,hn1⟩:=fq hn
         obtain ⟨p2,t2,rfl,hn2⟩:=fq hn1
         obtain ⟨p3,t3,rfl,hn3⟩:=fq hn2
         obtain rfl:=tJ hn3
         obtain ⟨a1,a2,a3,rfl⟩:=vn hl
         simp only [bAE] at h3
         obtain ⟨⟨⟨⟨⟨⟨⟨⟨q2,q3⟩,q3'⟩,q4⟩,q4'⟩,q4''⟩,q5⟩,q6⟩,q7⟩:=h3
         exact PS.imp (Ac (i:=i) (j:=j) (k:=l) G.calm (by rw [G.hN];exact G.nd) (by rw [G.hN];simpa using q2) (by rw [G.hN];simpa using q3) (by rw [G.hN];simpa using q3') (by simpa using q4) (by simpa using q4') (by simpa using q4'') (by rw [G.hs];simpa using q5) (by rw [G.hs];simpa using q6) (by rw [G.hs];simpa using q7) ((snd n).a b X _ cs G ha) hw so) fun D σ H q=>AX q
        ·cases h3
       ·cases h3
theorem yg {v:Expr} {line:Nat} (h:nW v=false):swapsWith v none line X.env=pure false:=by
 unfold swapsWith
 cases v <;> first | rfl | (exact absurd h (by simp [nW]))
structure SndS (T:Tab) (C:Calls) (ar:Nat->Nat) (k n:Nat):Prop where
 s:∀ (b:Blk) (X:Cx) (s:Stmt) (c:CS),CtxOk T C ar k b X->X.env.scope.kind = .function->lX T n b s c=true->PS X s (tSt X.K (evS C ar n c))
 ss:∀ (b:Blk) (X:Cx) (s:List Stmt) (c:List CS),CtxOk T C ar k b X->X.env.scope.kind = .function->gh T n b s c=true->PSs X s (tSt X.K (gG C ar n c))
theorem JA {K:PySem.W.Frag} {D:Ends} {σ:L2.St} {H:Hp} (h:tSt K AS D σ H):False:=by
 obtain ⟨m,ρ,S,fl,ρ',S',E,R,e,q⟩:=h
 cases e
theorem JB:∀ n,SndS T C ar k n
 | 0=>⟨fun b X s c _ _ h=>by simp [lX] at h,fun b X s c _ _ h=>by simp [gh] at h⟩
 | n+1=>by
  have ih:=JB n
  refine ⟨fun b X s c G hk h=>?_,fun b X ss cs G hk h=>?_⟩
  ·have hp:PassesOwn (model X.prog X.w) X.A X.env X.xe:=by rw [G.xe];exact PassesOwn.never
   cases c with
   | asg t e=>simp only [lX] at h;obtain ⟨tg,v,p,rfl,h1⟩:=FE h;exact FI G hk h1
   | setI v o i=>
    simp only [lX] at h
    obtain ⟨x,y,px,z,p,rfl,h1,h2,h3,pl⟩:=AU h
    exact PS.imp (vZ ((snd n).e b X z v G h1) (DY ((snd n).e b X x o G h2) ((snd n).e b X y i G h3) Jg (fun v=>by
     cases y <;> first | rfl | (exact absurd pl (by simp [aB])))) (pS fun x p z=>nomatch z) (tI (.inr (.inr ⟨_,_,_,rfl⟩))) rfl) fun D σ H q=>AF q
   | ex e=>simp only [lX] at h;obtain ⟨v,p,rfl,h1,h2⟩:=Jy h;exact PS.imp (zE ((snd n).e b X v e G h1) (yg h2)) fun D σ H q=>AE q
   | ret e=>simp only [lX] at h;obtain ⟨v,p,rfl,h1⟩:=FF h;exact PS.imp (DU ((snd n).e b X _ _ G h1)) fun D σ H q=>E8 q
   | ifs c x y=>simp only [lX] at h;obtain ⟨t,p,q,r,rfl,h1,h2,h3⟩:=Jz h;exact PS.imp (Ix ((snd n).t b X _ _ G h1) (ih.ss b X _ _ G hk h2) (ih.ss b X _ _ G hk h3)) fun D σ H q=>Jn q
   | for_ t it x=>
    simp only [lX] at h
    obtain ⟨tg,i,p,pos,rfl,h1,h2⟩:=FG h
    simp only [bAE] at h1
    exact PS.imp (D2 hp G.calm ((snd n).i [] b X _ _ _ G h1.1) (fU G h1.2) (ih.ss b X _ _ G hk h2) (fT h1.1 (fun e he env=>ek he) X.env)) fun D σ H q=>Fa q
   | cnt=>simp only [lX] at h;obtain ⟨p,rfl⟩:=FH h;exact PS.imp oD fun D σ H q=>E9 q
   | never=>exact PS.imp vW fun D σ H q=>(JA q).elim
  ·cases ss with
   | nil=>
    cases cs with
    | nil=>exact PSs.imp zD fun D σ H q=>AD q
    | cons _ _=>simp [gh] at h
   | cons s ss=>
    cases cs with
    | nil=>simp [gh] at h
    | cons c cs=>
     simp only [gh,bAE] at h
     exact PSs.imp (vV (ih.s b X s c G hk h.1) (ih.ss b X ss cs G hk h.2)) fun D σ H q=>E7 q
end
end Ev
namespace Ev
open PySem PySem.Spec PyProof.Rows L2
structure DefE where
 x:Str
 st:Stmt
 N:List Str
 ps:List Str
 body:List CS
noncomputable def FU:Nat:=60
noncomputable def iZ (aj:List DefE) (f:Nat):Nat:=match aj[f]? with
 | some d=>d.ps.length
 | none=>0
noncomputable def FJ (C:Calls) (ar:Nat->Nat) (d:DefE) (ds:List D) (S:Sto):Option (D × Sto):=
 match gG C ar FU d.body (ds.map some++List.replicate (d.N.length - ds.length) none) S with
 | some (.rt v,_,S')=>some (v,S')
 | some (.nx,_,S')=>some (.non,S')
 | _=>none
noncomputable def evC (aj:List DefE):Nat->Calls
 | 0=>fun _ _ _=>none
 | k+1=>fun f ds S=>match aj[f]? with
  | some d=>FJ (evC aj k) (iZ aj) d ds S
  | none=>none
noncomputable def yh (N ps:List Str) (sc:Scope):Bool:=sc.kind == .function && sc.isCoroutine == false && sc.isGenerator == false && iT N && N.take ps.length == ps && (ps.all fun x=>sc.names.lookup x == some .local || sc.names.lookup x == some .cell) && sc.names.all fun y=>y.2 != .free
theorem A0 {N ps:List Str} {sc:Scope} (h:yh N ps sc=true):FnScope N ps sc:=by
 unfold yh at h
 simp only [bAE,List.all_eq_true] at h
 obtain ⟨⟨⟨⟨⟨⟨h1,h2⟩,h3⟩,h4⟩,h5⟩,h6⟩,h7⟩:=h
 refine ⟨by simpa using h1,by simpa using h2,by simpa using h3,hY h4,by simpa using h5,fun x hx=>?_,fun y hy=>by simpa using h7 y hy⟩
 have:=h6 x hx
 simpa using this
noncomputable def A6 (T:Tab) (d:DefE):Bool:=yh d.N d.ps (bh d.st) && gh T FU ⟨bh d.st,none,d.N⟩ (b9 d.st) d.body
noncomputable def tK (con:List (Str × Int)) (aj:List DefE):Tab:=⟨con,aj.map fun d=>(d.x,d.ps.length)⟩
structure TextOk (K:PySem.W.Frag) (mg:Str->Option Value) (con:List (Str × Int)) (aj:List DefE):Prop where
 con:∀ (i:Nat) (x:Str) (v:Int),con[i]?=some (x,v)->∃ tk,mg x=some (.int v tk)
 bl:∀ x,x ∈ iu->mg x=none
 fn:∀ (i:Nat) (d:DefE),aj[i]?=some d->∃ f fd,mg d.x=some (.ref f)/\PySem.W.keepIn K (.ref f)=true/\lZ K fd d.ps []/\Fun K d.x d.x d.st f fd
section
variable {P:Program} {w:World} {K:PySem.W.Frag} {mg:Str->Option Value} {base:Heap} {con:List (Str × Int)} {aj:List DefE}
theorem A7 {f:Addr} {fd:FuncData} {ps:List Str} {i n:Nat}:FnOk P w K mg base CX0 0 f fd ps (spC K (evC aj 0 i) n):=
 ⟨fun vs H Q E h=>(by obtain ⟨m,ds,S,d,S',_,_,_,e,_⟩:=h;cases e),fun A outer s H args us vs Q E _ _ _ _ h=>(by obtain ⟨m,ds,S,d,S',_,_,_,e,_⟩:=h;cases e)⟩
theorem vo {m:List Addr} {H:Hp} {N:List Str} {ds:List D} {vs:List V} (vd:VDs K m H ds vs):EnvR K m H (ds.map some++List.replicate (N.length - ds.length) none) (L2.f9 N vs):=by
 have hl:=vd.length
 unfold L2.f9
 refine ⟨by simp [hl],fun i d e=>?_⟩
 by_cases hi:i < ds.length
 ·rw [List.getElem?_append_left (by simpa using hi),List.getElem?_map] at e
  cases h:ds[i]? with
  | none=>rw [h] at e;cases e
  | some d'=>
   rw [h] at e
   cases e
   obtain ⟨v,hv,vv⟩:=vd.get h
   exact ⟨v,by rw [List.getElem?_append_left (by simp;omega),List.getElem?_map,hv];rfl,vv⟩
 ·rw [List.getElem?_append_right (by simpa using hi),List.getElem?_replicate] at e
  split at e <;> cases e
theorem tL (T:TextOk K mg con aj) (hc:aj.all (A6 (tK con aj))=true):∀ (k i:Nat) (d:DefE),aj[i]?=some d->∀ f fd,mg d.x=some (.ref f)->Fun K d.x d.x d.st f fd->FnOk P w K mg base CX0 k f fd d.ps (spC K (evC aj k i) d.ps.length)
 | 0,i,d,_,f,fd,_,_=>A7
 | k+1,i,d,hd,f,fd,hm,F=>by
  have ih:=tL T hc k
  have ck:=List.all_eq_true.mp hc d (List.mem_of_getElem? hd)
  unfold A6 at ck
  rw [bAE] at ck
  have S:=A0 ck.1
  refine F.ok S (fun vs H Q E h=>?_) fun cdv A outer s H vs Q E hr h=>?_
  ·obtain ⟨m,ds,S,d',S',vd,_,hl,_⟩:=h
   rw [<-vd.length,hl]
  ·have G:CtxOk (tK con aj) (evC aj k) (iZ aj) k ⟨bh d.st,none,d.N⟩ (qz CX0 P w K mg base d.N d.x (bh d.st) f cdv A outer s H E).nox:=by
    refine ⟨rfl,rfl,rfl,rfl,S.nd,fun _ _=>rfl,hr,T.con,T.bl,fun j y hy=>?_⟩
    have hy':(aj.map fun d=>(d.x,d.ps.length))[j]?=some y:=hy
    rw [List.getElem?_map] at hy'
    cases hj:aj[j]? with
    | none=>rw [hj] at hy';cases hy'
    | some e=>
     rw [hj] at hy'
     cases hy'
     have ha:iZ aj j=e.ps.length:=by unfold iZ;rw [hj]
     obtain ⟨f',fd',m',k',b',F'⟩:=T.fn j e hj
     refine ⟨ha,f',fd',e.ps,m',k',b',?_⟩
     rw [ha]
     exact ih j e hj f' fd' m' F'
   refine ⟨_,(JB FU).ss _ _ (b9 d.st) d.body G S.kind ck.2,?_⟩
   obtain ⟨m,ds,S0,r,S',vd,R,hl,e,q⟩:=h
   simp only [evC,hd,FJ] at e
   cases hx:gG (evC aj k) (iZ aj) FU d.body (ds.map some++List.replicate (d.N.length - ds.length) none) S0 with
   | none=>rw [hx] at e;cases e
   | some z=>
    obtain ⟨fl,ρ',S1⟩:=z
    rw [hx] at e
    refine ⟨m,_,S0,fl,ρ',S1,vo vd,R,hx,fun m' H' A'=>?_⟩
    cases fl with
    | nx=>cases e;exact fun σ _=>q m' H' .non A' qP
    | rt v=>cases e;exact fun u vu=>q m' H' u A' vu
    | bk=>cases e
    | ct=>cases e
end
end Ev
namespace Ev
open PySem PySem.Spec PyProof.Rows L2
noncomputable abbrev tM:=(Str × Str) × (Arguments × List Stmt) × (Scope × Addr) × (List (Str × Addr) × Value) × (Addr × Option Str)
noncomputable def Dn (h:Heap):Value->Option Str
 | .ref c=>(match h.get? c with
  | some ⟨_,_,.fields vs,_⟩=>(match vs.toList with | _ :: .str n _::_=>some n | _=>none)
  | _=>none)
 | _=>none
noncomputable def JC (h:Heap):Option Obj->Option tM
 | some ⟨_,_,.func ⟨nm,qn,ps,.stmts b,sc,gl,cl,dv,_,_,_,_,cd,_,bi⟩,_⟩=>some ((nm,qn),(ps,b),(sc,gl),(cl,dv),(bi,Dn h cd))
 | _=>none
noncomputable def A8 (h:Heap) (x:Str):Option tM:=match h.nsMap mainGlobals x with
 | some (.ref f)=>JC h (h.get? f)
 | _=>none
noncomputable def tN (d:DefE):Option tM:=some ((d.x,d.x),(dS d.st,b9 d.st),(bh d.st,mainGlobals),([],.none),(builtinsNs,some d.x))
noncomputable def JD (h:Heap) (x:Str):Option Int:=match h.nsMap mainGlobals x with
 | some (.int v _)=>some v
 | _=>none
noncomputable abbrev yi:=Bool × List (Option tM) × List (Option Int) × List Bool
noncomputable def FK (con:List (Str × Int)) (aj:List DefE) (h:Heap):yi:=(h.isNs mainGlobals,aj.map (fun d=>A8 h d.x),con.map (fun c=>JD h c.1),iu.map fun x=>(h.nsMap mainGlobals x).isNone)
noncomputable def yj (con:List (Str × Int)) (aj:List DefE):yi:=(true,aj.map tN,con.map (fun c=>some c.2),iu.map fun _=>true)
noncomputable def Dp (d:DefE):Prop:=∀ (kV doc pm:Value) (an:Option Addr) (cdv ct:Value) (us:List Value),us.length=d.ps.length->bindArgs (PySem.W.fnOf d.x d.x (dS d.st) (b9 d.st) (bh d.st) .none kV doc pm an cdv ct) ⟨us,[]⟩=pure (d.ps.zip us)
noncomputable def vq:List DefE->Prop
 | []=>True
 | d::ds=>Dp d/\vq ds
theorem vq.at:∀ {ds:List DefE} {d:DefE},vq ds->d ∈ ds->Dp d
 | e::ds,d,h,hd=>by
  rcases List.mem_cons.mp hd with rfl | hd
  ·exact h.1
  ·exact vq.at h.2 hd
noncomputable def mG (h:Heap) (f:Addr):PySem.W.Frag:=match h.get? f with
 | some o=>(f,o)::(match o.data with
  | .func fd=>(match fd.code with
   | .ref c=>(match h.get? c with | some oc=>[(c,oc)] | none=>[])
   | _=>[])
  | _=>[])
 | none=>[]
noncomputable def cZ (h:Heap) (d:DefE):PySem.W.Frag:=match h.nsMap mainGlobals d.x with
 | some (.ref f)=>mG h f
 | _=>[]
noncomputable def JE (K:PySem.W.Frag):Prop:=∀ a o,K.lookup a=some o->∀ its n,o.data ≠ .seq its n
structure Says (con:List (Str × Int)) (aj:List DefE) (h:Heap):Prop where
 ns:∃ m,h.Ns mainGlobals m
 frag:∃ K:PySem.W.Frag,K.In h/\JE K/\∀ mg,h.Ns mainGlobals mg->TextOk K mg con aj
theorem kM {K:PySem.W.Frag} {a:Addr} {o:Obj} (h:K.lookup a=some o):(a,o) ∈ K:=by
 induction K with
 | nil=>cases h
 | cons p K ih=>
  obtain ⟨b,q⟩:=p
  rw [List.lookup_cons] at h
  cases hb:a == b with
  | true=>
   rw [hb] at h
   cases h
   have:a=b:=by simpa using hb
   subst this
   exact List.mem_cons_self
  | false=>rw [hb] at h;exact List.mem_cons_of_mem _ (ih h)
theorem yk {K:PySem.W.Frag} {a:Addr} {o:Obj} (h:(a,o) ∈ K):∃ o',K.lookup a=some o':=by
 induction K with
 | nil=>cases h
 | cons p K ih=>
  obtain ⟨b,q⟩:=p
  rw [List.lookup_cons]
  cases hb:a == b with
  | true=>exact ⟨_,rfl⟩
  | false=>
   rcases List.mem_cons.mp h with e | h
   ·cases e;simp at hb
   ·exact ih h
theorem ym {h:Heap} {f a:Addr} {o:Obj} (e:(a,o) ∈ mG h f):h.get? a=some o:=by
 unfold mG at e
 cases hf:h.get? f with
 | none=>rw [hf] at e;cases e
 | some of=>
  rw [hf] at e
  dsimp only at e
  rcases List.mem_cons.mp e with q | e
  ·cases q;exact hf
  ·split at e
   ·split at e
    ·rename_i c hc
     cases hc':h.get? c with
     | none=>rw [hc'] at e;cases e
     | some oc=>
      rw [hc'] at e
      dsimp only at e
      rcases List.mem_cons.mp e with q | e
      ·cases q;exact hc'
      ·cases e
    ·cases e
   ·cases e
theorem FL {h:Heap} {a:Addr} {mg:Str->Option Value} (N:h.Ns a mg):h.nsMap a=mg:=by
 obtain ⟨o,es,ep,ho,hd,_,hm⟩:=N
 funext x
 unfold Heap.nsMap
 rw [ho]
 dsimp only
 rw [hd]
 exact hm x
theorem yn {h:Heap} {d:DefE} (e:A8 h d.x=tN d):∃ f oc od kV doc pm an c ct osl cc cd vs a t r cs,h.nsMap mainGlobals d.x=some (.ref f)/\h.get? f=some ⟨oc,od,.func (PySem.W.fnOf d.x d.x (dS d.st) (b9 d.st) (bh d.st) .none kV doc pm an (.ref c) ct),osl⟩ ∧
  h.get? c=some ⟨cc,cd,.fields vs,cs⟩/\vs.toList=a :: .str d.x t::r:=by
 unfold A8 tN at e
 split at e
 ·rename_i f hf
  unfold JC at e
  split at e
  ·rename_i oc od nm qn ps b sc gl cl dv kV doc pm an cdv ct bi osl hg
   simp only [Option.some.injEq,Prod.mk.injEq] at e
   obtain ⟨⟨rfl,rfl⟩,⟨rfl,rfl⟩,⟨rfl,rfl⟩,⟨rfl,rfl⟩,rfl,e⟩:=e
   unfold Dn at e
   split at e
   ·rename_i c
    split at e
    ·rename_i cc cd vs cs hc
     split at e
     ·rename_i a n t r hv
      cases e
      exact ⟨f,oc,od,kV,doc,pm,an,c,ct,osl,cc,cd,vs,a,t,r,cs,hf,hg,hc,hv⟩
     ·cases e
    ·cases e
   ·cases e
  ·cases e
 ·cases e
theorem A9 {con:List (Str × Int)} {aj:List DefE} (hb:vq aj) {h:Heap} (e:FK con aj h=yj con aj):Says con aj h:=by
 unfold FK yj at e
 simp only [Prod.mk.injEq] at e
 obtain ⟨e0,e1,e2,e3⟩:=e
 have N:=Heap.Ns.of_isNs e0
 have D:∀ d ∈ aj,A8 h d.x=tN d:=fun d hd=>List.map_inj_left.mp e1 d hd
 have inK:∀ a o,(a,o) ∈ aj.flatMap (cZ h)->h.get? a=some o:=fun a o he=>by
  obtain ⟨d,hd,he⟩:=List.mem_flatMap.mp he
  obtain ⟨f,oc,od,kV,doc,pm,an,c,ct,osl,cc,cd,vs,a',t,r,cs,g1,g2,g3,g4⟩:=yn (D d hd)
  unfold cZ at he
  rw [g1] at he
  exact ym he
 have lk:∀ a o,(a,o) ∈ aj.flatMap (cZ h)->(aj.flatMap (cZ h)).lookup a=some o:=fun a o he=>by
  obtain ⟨o',q⟩:=yk he
  have z:=inK a o' (kM q)
  rw [inK a o he] at z
  cases z
  exact q
 refine ⟨⟨_,N⟩,aj.flatMap (cZ h),fun a o q=>inK a o (kM q),fun a o q its n hs=>?_,fun mg G=>?_⟩
 ·obtain ⟨d,hd,he⟩:=List.mem_flatMap.mp (kM q)
  obtain ⟨f,oc,od,kV,doc,pm,an,c,ct,osl,cc,cd,vs,a',t,r,cs,g1,g2,g3,g4⟩:=yn (D d hd)
  unfold cZ at he
  rw [g1] at he
  dsimp only at he
  unfold mG at he
  rw [g2] at he
  dsimp only at he
  rw [g3] at he
  dsimp only at he
  rcases List.mem_cons.mp he with z | he
  ·cases z;cases hs
  ·rcases List.mem_cons.mp he with z | he
   ·cases z;cases hs
   ·cases he
 ·have hm:=FL G
  refine ⟨fun i x v hi=>?_,fun x hx=>?_,fun i d hi=>?_⟩
  ·have z:=List.map_inj_left.mp e2 (x,v) (List.mem_of_getElem? hi)
   unfold JD at z
   rw [hm] at z
   dsimp only at z
   split at z
   ·rename_i v' t hv;cases z;exact ⟨t,hv⟩
   ·cases z
  ·have z:=List.map_inj_left.mp e3 x hx
   rw [hm] at z
   simpa using z
  ·have hd:=List.mem_of_getElem? hi
   obtain ⟨f,oc,od,kV,doc,pm,an,c,ct,osl,cc,cd,vs,a',t,r,cs,g1,g2,g3,g4⟩:=yn (D d hd)
   have m1:(f,_) ∈ aj.flatMap (cZ h):=List.mem_flatMap.mpr ⟨d,hd,by
    show _ ∈ cZ h d
    unfold cZ
    rw [g1]
    dsimp only
    unfold mG
    rw [g2]
    exact List.mem_cons_self⟩
   have m2:(c,_) ∈ aj.flatMap (cZ h):=List.mem_flatMap.mpr ⟨d,hd,by
    show _ ∈ cZ h d
    unfold cZ
    rw [g1]
    dsimp only
    unfold mG
    rw [g2]
    dsimp only
    rw [g3]
    exact List.mem_cons_of_mem _ List.mem_cons_self⟩
   have l1:=lk _ _ m1
   have l2:=lk _ _ m2
   have kp:PySem.W.keepIn (aj.flatMap (cZ h)) (.ref f)=true:=by unfold PySem.W.keepIn;dsimp only;rw [l1]
   have cdI:PySem.W.codeIn (aj.flatMap (cZ h)) (.ref c) d.x=true:=by
    unfold PySem.W.codeIn
    dsimp only
    rw [l2]
    dsimp only
    rw [g4]
    simp
   have F:=En (st:=d.st) (x:=d.x) (qual:=d.x) l1 cdI kp
   refine ⟨f,_,by rw [<-hm];exact g1,kp,F.binds (hb.at hd),F⟩
theorem rL {con:List (Str × Int)} {aj:List DefE} {h h':Heap} (x:Says con aj h) (k:∀ b o,h.get? b=some o->h'.get? b=some o):Says con aj h':=by
 obtain ⟨⟨m,N⟩,K,KX,ns,T⟩:=x
 have back:∀ mg,h'.Ns mainGlobals mg->h.Ns mainGlobals mg:=fun mg ⟨o,es,ep,ho,r⟩=>by
  obtain ⟨o',es',ep',ho',r'⟩:=N
  have z:=k _ _ ho'
  rw [ho] at z
  cases z
  exact ⟨o,es,ep,ho',r⟩
 refine ⟨⟨m,let ⟨o,es,ep,ho,r⟩:=N;⟨o,es,ep,k _ _ ho,r⟩⟩,K,fun a o q=>k _ _ (KX a o q),ns,fun mg G=>T mg (back mg G)⟩
noncomputable def nX (con:List (Str × Int)) (aj:List DefE) (hb:vq aj):PySem.W.Hook:=
 ⟨yi,fun s=>FK con aj s.heap,fun _=>yj con aj,fun _ h=>Says con aj h,fun _ _ e=>A9 hb e,fun _ _ _ x k=>rL x k⟩
theorem kN {K:PySem.W.Frag} {m:List Addr} {H:Hp}:∀ ns:List Int,VDs K m H (ns.map D.int) (ns.map V.int)
 | []=>by rw [List.map_nil,List.map_nil,VDs]
 | a::l=>by rw [List.map_cons,List.map_cons,VDs];exact ⟨_,_,rfl,bq,kN l⟩
theorem Ba {l:PySem.W.OpenLaw} {n k i:Nat} {q:Program} {loose:List Str} {XP:(Str->Option Value)->Heap->Prop} {d:DefRec} {con:List (Str × Int)} {aj:List DefE} {hb:vq aj} {dl:DefE} {x:Str}
  (hn:l.most=some n) (hn2:n<=sizeLine) (hdf:d.params.defaults=[]) (hr:Room k callerA) (hx:d.name=dl.x) (hi:aj[i]?=some dl) (hps:dl.ps=[x]) (hc:aj.all (A6 (tK con aj))=true)
  (main:∀ ns:List Int,ns.length<=n->∃ S',evC aj k i [.ref 0] [.frz (ns.map D.int)]=some (.bl true,S')) :
  PySem.W.WalkO q loose XP (nX con aj hb).says l.row.toRowW d [] (fun f vs=>PySem.call f vs):=by
 refine Att.attach_call hn hdf fun w s₀ s₁ mg mb fa o pm cd doc a vs ns G Y ho hd hcd hmg hobj hints hlen hg=>?_
 obtain ⟨_,K,KX,noS,T⟩:=(show Says con aj s₁.heap from Y)
 have T:=T mg G.T.g
 obtain ⟨f,fd,hm,kp,_,F⟩:=T.fn i dl hi
 rw [hx] at hmg
 rw [hmg] at hm
 cases hm
 have bd:∀ (s:Shared) (u:Value),BindsTo s fd ⟨[u],[]⟩ [(x,u)]:=fun s u=>by
  obtain ⟨oc,od,kV,doc,pm,an,cdv,ct,osl,rfl,lk,hcd⟩:=F.ex
  have z:=(hb.at (List.mem_of_getElem? hi)) kV doc pm an cdv ct [u] (by rw [hps];rfl)
  rw [hps] at z
  exact .of_eq z
 refine wt (CX:=CX0) (sp:=spC K (evC aj k i) dl.ps.length) KX G.T.g G.T.b G.T.builtins G.T.nolimit hg hobj hints (Nat.le_trans hlen hn2) hr (fun base _ _=>by
  have:=tL (P:=l.row.toRowW.prog) (w:=w) (base:=base) T hc k i dl hi fa fd hmg F
  rw [hps] at this ⊢
  exact this) bd (fun H hO hS=>?_) fun H e s' z=>z
 have fz:∃ o,H a=some (.frz o (.lst (ns.map V.int))):=by
  rcases hS with (z | ⟨o,z⟩) | ⟨o,its,n',hk,hc,hdd,hdt,_⟩
  ·rcases hO a with y | ⟨o',xs,y⟩
   ·rw [y] at z;cases z
   ·rw [y] at z;cases z
  ·exact ⟨o,z⟩
  ·exact absurd hdt (noS a o hk its n')
 obtain ⟨o,fz⟩:=fz
 obtain ⟨S',e⟩:=main ns hlen
 refine ⟨[a],[.ref 0],[.frz (ns.map D.int)],.bl true,S',?_,⟨rfl,by simp,fun j ob ej=>?_⟩,by rw [hps];rfl,e,fun m' H' v A vv=>vv.bls⟩
 ·rw [VDs]
  exact ⟨_,_,rfl,by rw [VD];exact ⟨a,rfl,rfl⟩,by rw [VDs]⟩
 ·cases j with
  | zero=>cases ej;exact ⟨a,rfl,o,_,fz,kN ns⟩
  | succ j=>simp at ej
end Ev
namespace Lw
open PySem Ev
noncomputable def top (i:Nat):Stmt:=PySem.Challenge.pw_downrings_k34_stuck_in_each_way.main.body.getD i (.Pass ⟨0,0,0,0⟩)
noncomputable abbrev kO:Nat:=0
noncomputable abbrev bm:Nat:=1
noncomputable abbrev cn:Nat:=2
noncomputable abbrev bc:Nat:=3
noncomputable abbrev eA:Nat:=4
noncomputable abbrev jp:Nat:=5
noncomputable abbrev kP:Nat:=6
noncomputable abbrev iz:Nat:=7
noncomputable abbrev bE:Nat:=8
noncomputable abbrev jq:Nat:=9
noncomputable abbrev iA:Nat:=10
noncomputable abbrev i6:Nat:=11
noncomputable abbrev dJ:Nat:=12
noncomputable abbrev pV:Nat:=13
noncomputable abbrev kQ:Nat:=14
noncomputable abbrev gj:Nat:=15
noncomputable abbrev jr:Nat:=16
noncomputable abbrev jt:Nat:=17
noncomputable abbrev ju:Nat:=18
noncomputable abbrev eT:Nat:=19
noncomputable abbrev mH:Nat:=20
noncomputable abbrev eB:Nat:=21
noncomputable abbrev eU:Nat:=22
noncomputable abbrev bR:Nat:=23
noncomputable abbrev gk:Nat:=24
noncomputable abbrev gm:Nat:=25
noncomputable abbrev mI:Nat:=26
noncomputable abbrev kR:Nat:=27
noncomputable abbrev cR:Nat:=28
noncomputable abbrev dL:Nat:=29
noncomputable abbrev c6:Nat:=30
noncomputable abbrev gq:Nat:=31
noncomputable abbrev mJ:Nat:=32
noncomputable abbrev ai:Nat:=33
noncomputable abbrev kS:Nat:=34
noncomputable abbrev iB:Nat:=35
noncomputable abbrev mK:Nat:=36
noncomputable abbrev kT:Nat:=37
noncomputable abbrev ft:Nat:=38
noncomputable abbrev gI:Nat:=39
noncomputable abbrev kU:Nat:=40
noncomputable abbrev dr:Nat:=41
noncomputable abbrev kW:Nat:=42
noncomputable abbrev eC:Nat:=43
noncomputable abbrev kY:Nat:=44
noncomputable abbrev eD:Nat:=45
noncomputable abbrev tO:Nat:=46
noncomputable def kZ:List CS:=[.ret (.and (.inst .int (.var 0)) (.not (.inst .bool (.var 0))))]
noncomputable def jv:List CS:=[.ret (.and (.call kO [(.var 0)]) (.chn .le .le (.var 1) (.var 0) (.var 2)))]
noncomputable def jw:List CS:=[.ret (.call bm [(.var 0),(.int 0),(.con 0 9999)])]
noncomputable def k6:List CS:=[.ret (.and (.inst .tuple (.var 0)) (.chn .le .le (.var 1) (.len (.var 0)) (.var 2)))]
noncomputable def iC:List CS:=[.ifs (.or (.not (.call bc [(.var 0),(.int 0),(.var 1)])) (.not (.all (.comp ["number"] (.call bm [(.var 2),(.int 0),(.bin .sub (.var 1) (.int 1))]) [⟨(.name 2),(.val (.var 0)),none⟩])))) [.ret (.bl false)] [],.ret (.all (.comp ["number"] (.cmp .eq (.cnt (.var 0) (.var 2)) (.int 1)) [⟨(.name 2),(.val (.var 0)),none⟩]))]
noncomputable def jx:List CS:=[.ifs (.not (.call bc [(.var 0),(.int 4),(.int 4)])) [.ret (.bl false)] [],.asg (.tup [(.name 1),(.name 2),(.name 3),(.name 4)]) (.var 0),.ret (.and (.call bm [(.var 1),(.int 0),(.con 1 8)]) (.and (.call bm [(.var 2),(.int 0),(.con 2 60)]) (.and (.call kP [(.var 3)]) (.call jq [(.var 4)]))))]
noncomputable def k7:List CS:=[.ifs (.not (.call bc [(.var 0),(.int 1),(.con 3 4)])) [.ret (.bl false)] [],.ret (.and (.all (.comp ["row"] (.call iz [(.var 1),(.len (.var 0))]) [⟨(.name 1),(.val (.var 0)),none⟩])) (.call bE [(.var 0)]))]
noncomputable def iE:List CS:=[.ret (.and (.call bc [(.var 0),(.var 1),(.var 1)]) (.all (.comp ["gap"] (.call bm [(.var 2),(.int 1),(.con 4 99)]) [⟨(.name 2),(.val (.var 0)),none⟩])))]
noncomputable def bF:List CS:=[.asg (.name 1) (.listR (.len (.var 0))),.ret (.all (.comp ["a", "b", "c"] (.cmp .le (.ix (.ix (.var 0) (.var 2)) (.var 3)) (.bin .add (.ix (.ix (.var 0) (.var 2)) (.var 4)) (.ix (.ix (.var 0) (.var 4)) (.var 3)))) [⟨(.name 2),(.val (.var 1)),none⟩,⟨(.name 3),(.val (.var 1)),none⟩,⟨(.name 4),(.val (.var 1)),none⟩]))]
noncomputable def jy:List CS:=[.ifs (.or (.not (.call bc [(.var 0),(.int 0),(.con 5 4)])) (.not (.all (.comp ["part"] (.call iA [(.var 1)]) [⟨(.name 1),(.val (.var 0)),none⟩])))) [.ret (.bl false)] [],.ret (.all (.comp ["at"] (.cmp .gt (.ix (.ix (.var 0) (.var 1)) (.int 0)) (.ix (.ix (.var 0) (.bin .sub (.var 1) (.int 1))) (.int 1))) [⟨(.name 1),(.r2 (.int 1) (.len (.var 0))),none⟩]))]
noncomputable def iG:List CS:=[.ret (.and (.call bc [(.var 0),(.int 2),(.int 2)]) (.and (.call cn [(.ix (.var 0) (.int 0))]) (.and (.call cn [(.ix (.var 0) (.int 1))]) (.cmp .lt (.ix (.var 0) (.int 0)) (.ix (.var 0) (.int 1))))))]
noncomputable def mL:List CS:=[.ret (.call bm [(.var 1),(.int 0),(.bin .sub (.len (.ix (.var 0) (.int 2))) (.int 1))])]
noncomputable def dM:List CS:=[.for_ (.tup [(.name 2),(.name 3)]) (.val (.ix (.var 0) (.int 3))) [.ifs (.chn .le .lt (.var 2) (.var 1) (.var 3)) [.ret (.var 3)] []],.ret (.var 1)]
noncomputable def pW:List CS:=[.ifs (.not (.call bc [(.var 0),(.int 4),(.int 4)])) [.ret (.bl false)] [],.asg (.tup [(.name 1),(.name 2),(.name 3),(.name 4)]) (.var 0),.ret (.and (.call jp [(.var 1)]) (.and (.call kQ [(.var 1),(.var 2)]) (.and (.call gj [(.var 1),(.var 3)]) (.call jt [(.var 3),(.var 4)]))))]
noncomputable def k8:List CS:=[.ifs (.cmp .is (.var 1) .non) [.ret (.bl true)] [],.ret (.and (.call bc [(.var 1),(.int 2),(.int 2)]) (.and (.call i6 [(.var 0),(.ix (.var 1) (.int 0))]) (.call cn [(.ix (.var 1) (.int 1))])))]
noncomputable def gr:List CS:=[.ret (.and (.call bc [(.var 1),(.int 0),(.con 6 7)]) (.all (.comp ["part"] (.call jr [(.var 0),(.var 2)]) [⟨(.name 2),(.val (.var 1)),none⟩])))]
noncomputable def jz:List CS:=[.ifs (.not (.call bc [(.var 1),(.int 7),(.int 7)])) [.ret (.bl false)] [],.asg (.tup [(.name 2),(.name 3),(.name 4),(.name 5),(.name 6),(.name 7),(.name 8)]) (.var 1),.ifs (.not (.all (.comp ["minute"] (.call cn [(.var 9)]) [⟨(.name 9),(.val (.tup [(.var 3),(.var 4),(.var 5),(.var 6)])),none⟩]))) [.ret (.bl false)] [],.ifs (.not (.chn .le .le (.bin .add (.var 3) (.ix (.var 0) (.int 1))) (.var 4) (.var 5))) [.ret (.bl false)] [],.ret (.and (.call i6 [(.var 0),(.var 2)]) (.and (.call bm [(.var 7),(.int 0),(.con 7 99)]) (.call bm [(.var 8),(.int 0),(.ix (.var 0) (.int 0))])))]
noncomputable def jA:List CS:=[.ifs (.not (.call eA [(.var 1),(.len (.var 0))])) [.ret (.bl false)] [],.ret (.all (.comp ["number", "glider"] (.or (.cmp .eq (.ix (.var 3) (.int 6)) (.int 0)) (.cmp .isin (.var 2) (.var 1))) [⟨(.tup [(.name 2),(.name 3)]),(.en (.var 0)),none⟩]))]
noncomputable def jB:List CS:=[.ifs (.not (.call pV [(.var 0)])) [.never] []]
noncomputable def eV:List CS:=[.ifs (.not (.var 1)) [.ret (.ix (.var 0) (.int 1))] [],.asg (.tup [(.name 2),(.name 3)]) (.ix (.var 1) (.neg (.int 1))),.ret (.tup [(.ix (.ix (.ix (.var 0) (.int 2)) (.var 2)) (.int 0)),(.var 3)])]
noncomputable def mM:List CS:=[.ifs (.cmp .is (.var 1) .non) [.ret (.int 0)] [],.ret (.bin .add (.ix (.var 1) (.int 1)) (.ix (.ix (.ix (.ix (.var 0) (.int 0)) (.int 2)) (.ix (.var 1) (.int 0))) (.var 2)))]
noncomputable def k9:List CS:=[.asg (.tup [(.name 3),(.name 4)]) (.var 1),.ret (.chn .le .lt (.ix (.ix (.ix (.var 0) (.int 2)) (.var 3)) (.int 1)) (.var 2) (.bin .sub (.var 4) (.ix (.ix (.var 0) (.int 0)) (.int 1))))]
noncomputable def eW:List CS:=[.ret (.len (.comp ["landing"] (.var 3) [⟨(.name 3),(.val (.var 1)),some (.call eB [(.var 0),(.var 3),(.var 2)])⟩]))]
noncomputable def c7:List CS:=[.ret (.srt (.comp ["glider"] (.ix (.var 1) (.int 1)) [⟨(.name 1),(.val (.ix (.var 0) (.int 2))),none⟩]))]
noncomputable def gu:List CS:=[.asg (.tup [(.name 3),(.name 4),(.name 5),(.name 6),(.name 7),(.name 8),(.name 9)]) (.ix (.ix (.var 0) (.int 2)) (.ix (.ix (.var 1) (.var 2)) (.int 0))),.ret (.and (.cmp .gt (.var 9) (.int 0)) (.and (.call eB [(.var 0),(.ix (.var 1) (.var 2)),(.var 4)]) (.cmp .gt (.call gm [(.var 0),(.var 1),(.var 2),(.var 4)]) (.var 9))))]
noncomputable def gw:List CS:=[.asg (.name 4) (.sl (.var 1) none (some (.var 2))),.asg (.name 5) (.comp ["when"] (.var 6) [⟨(.name 6),(.val (.call bR [(.var 0)])),some (.and (.cmp .gt (.var 6) (.var 3)) (.call eB [(.var 0),(.ix (.var 1) (.var 2)),(.var 6)]))⟩]),.ret (.mxL (.comp ["when"] (.bin .add (.int 1) (.call eU [(.var 0),(.var 4),(.var 6)])) [⟨(.name 6),(.val (.bin .add (.lst [(.var 3)]) (.var 5))),none⟩]))]
noncomputable def mN:List CS:=[.ex (.call ju [(.var 0)]),.ifs (.not (.call kR [(.var 0),(.var 1)])) [.never] [],.asg (.name 2) (.call cR [(.var 0),(.var 1)]),.ifs (.cmp .lt (.len (.var 2)) (.len (.var 1))) [.ret (.tup [(.str "stuck"),(.len (.var 2))])] [],.ret (.tup [(.str "lands"),(.var 2)])]
noncomputable def lb:List CS:=[.asg (.name 2) (.len (.ix (.var 0) (.int 2))),.ret (.and (.call eA [(.var 1),(.var 2)]) (.and (.cmp .eq (.len (.var 1)) (.var 2)) (.cmp .eq (.sl (.var 1) none (some (.len (.ix (.var 0) (.int 3))))) (.ix (.var 0) (.int 3)))))]
noncomputable def cS:List CS:=[.asg (.name 2) (.lst []),.for_ (.tup [(.name 3),(.name 4)]) (.en (.var 1)) [.asg (.name 5) (.call dL [(.var 0),(.call eT [(.var 0),(.var 2)]),(.var 4),(.var 3)]),.ifs (.cmp .is (.var 5) .non) [.ret (.var 2)] [],.ex (.app (.var 2) (.tup [(.var 4),(.var 5)])),.ifs (.call gk [(.var 0),(.var 2),(.var 3)]) [.ret (.sl (.var 2) none (some (.var 3)))] []],.ret (.var 2)]
noncomputable def dN:List CS:=[.asg (.tup [(.name 4),(.name 5),(.name 6),(.name 7),(.name 8),(.name 9),(.name 10)]) (.ix (.ix (.var 0) (.int 2)) (.var 2)),.asg (.name 11) (.call dJ [(.ix (.var 0) (.int 0)),(.mx (.var 6) (.call mH [(.var 0),(.var 1),(.var 4)]))]),.ifs (.or (.cmp .gt (.var 11) (.var 7)) (.call c6 [(.var 0),(.var 3),(.var 11)])) [.ret .non] [],.ret (.var 11)]
noncomputable def c9:List CS:=[.asg (.tup [(.name 3),(.name 4),(.name 5),(.name 6)]) (.ix (.var 0) (.int 0)),.asg (.name 7) (.call bR [(.var 0)]),.asg (.name 8) (.bin .add (.var 3) (.var 1)),.ret (.and (.cmp .lt (.var 8) (.len (.var 7))) (.cmp .gt (.bin .sub (.var 2) (.var 4)) (.ix (.var 7) (.var 8))))]
noncomputable def gx:List CS:=[.ifs (.cmp .lt (.var 1) (.len (.var 0))) [.ret (.ix (.var 0) (.var 1))] [],.ret (.int 0)]
noncomputable def mO:List CS:=[.ifs (.cmp .ge (.var 0) (.bin .pow (.int 10) (.int 18))) [.ret (.lst [(.bin .sub (.var 0) (.bin .pow (.int 10) (.int 18)))])] [],.asg (.name 1) (.int 0),.for_ (.name 2) (.r1 (.int 64)) [.asg (.name 3) (.bin .mod (.bin .mul (.bin .add (.bin .add (.bin .mod (.var 0) (.int 2147483629)) (.bin .mul (.int 7919) (.var 2))) (.int 1)) (.int 48271)) (.int 2147483647)),.asg (.name 3) (.bin .mod (.bin .add (.bin .add (.bin .mul (.var 3) (.var 3)) (.bin .mul (.int 69621) (.var 2))) (.int 7)) (.int 2147483587)),.asg (.name 1) (.bin .add (.bin .mul (.var 1) (.int 2147483587)) (.var 3))],.ret (.lst [(.var 1)])]
noncomputable def lh:List CS:=[.asg (.name 2) (.bin .mod (.ix (.var 0) (.int 0)) (.var 1)),.setI (.bin .fdiv (.ix (.var 0) (.int 0)) (.var 1)) (.var 0) (.int 0),.ret (.var 2)]
noncomputable def eF:List CS:=[.asg (.tup [(.name 1),(.name 2)]) (.tup [(.bin .add (.int 1) (.call ai [(.var 0),(.int 4)])),(.ix (.lst [(.int 3),(.int 12),(.int 40)]) (.call ai [(.var 0),(.int 3)]))]),.asg (.name 3) (.comp ["_law_a"] (.comp ["_law_b"] (.bin .add (.int 1) (.call ai [(.var 0),(.var 2)])) [⟨(.name 7),(.r1 (.var 1)),none⟩]) [⟨(.name 6),(.r1 (.var 1)),none⟩]),.for_ (.name 4) (.r1 (.var 1)) [.for_ (.name 5) (.r1 (.var 1)) [.setI (.comp ["_law_b"] (.mn (.ix (.ix (.var 3) (.var 5)) (.var 6)) (.bin .add (.ix (.ix (.var 3) (.var 5)) (.var 4)) (.ix (.ix (.var 3) (.var 4)) (.var 6)))) [⟨(.name 6),(.r1 (.var 1)),none⟩]) (.var 3) (.var 5)]],.ret (.tupOf (.comp ["_law_row"] (.tupOf (.var 6)) [⟨(.name 6),(.val (.var 3)),none⟩]))]
noncomputable def iH:List CS:=[.asg (.tup [(.name 1),(.name 2)]) (.tup [(.lst []),(.int 0)]),.for_ (.name 3) (.r1 (.call ai [(.var 0),(.ix (.lst [(.int 1),(.int 5)]) (.call ai [(.var 0),(.int 2)]))])) [.asg (.name 4) (.bin .add (.var 2) (.call ai [(.var 0),(.int 25)])),.ex (.app (.var 1) (.tup [(.var 4),(.bin .add (.bin .add (.var 4) (.int 1)) (.call ai [(.var 0),(.int 25)]))])),.asg (.name 2) (.bin .add (.ix (.ix (.var 1) (.neg (.int 1))) (.int 1)) (.int 1))],.ret (.tup [(.ix (.lst [(.int 8),(.int 1),(.int 2),(.int 3),(.int 0)]) (.call ai [(.var 0),(.int 5)])),(.ix (.lst [(.int 0),(.int 2),(.int 9),(.int 60)]) (.call ai [(.var 0),(.int 4)])),(.call kS [(.var 0)]),(.tupOf (.var 1))])]
noncomputable def fX:List CS:=[.asg (.tup [(.name 2),(.name 3)]) (.tup [(.call iB [(.var 0)]),(.lst [])]),.asg (.tup [(.name 4),(.name 5)]) (.tup [(.ix (.lst [(.int 5),(.int 20),(.int 60)]) (.call ai [(.var 0),(.int 3)])),(.ix (.lst [(.int 4),(.int 30),(.int 90),(.int 400)]) (.call ai [(.var 0),(.int 4)]))]),.for_ (.name 6) (.r1 (.call ai [(.var 0),(.bin .add (.var 1) (.int 1))])) [.asg (.name 7) (.call ai [(.var 0),(.var 4)]),.asg (.name 8) (.bin .add (.bin .add (.var 7) (.ix (.var 2) (.int 1))) (.ix (.lst [(.int 0),(.call ai [(.var 0),(.int 9)])]) (.call ai [(.var 0),(.int 2)]))),.asg (.tup [(.name 9),(.name 10)]) (.tup [(.bin .add (.var 8) (.call ai [(.var 0),(.var 5)])),(.bin .add (.var 7) (.call ai [(.var 0),(.var 5)]))]),.ex (.app (.var 3) (.lst [(.call ai [(.var 0),(.len (.ix (.var 2) (.int 2)))]),(.var 7),(.var 8),(.var 9),(.var 10),(.ix (.lst [(.int 0),(.int 1),(.int 7),(.int 99)]) (.call ai [(.var 0),(.int 4)])),(.int 0)]))],.asg (.tup [(.name 11),(.name 12)]) (.tup [(.listR (.len (.var 3))),(.lst [])]),.for_ (.name 13) (.r1 (.ix (.lst [(.int 0),(.call ai [(.var 0),(.bin .add (.len (.var 3)) (.int 1))])]) (.call ai [(.var 0),(.int 2)]))) [.ex (.app (.var 12) (.popAt (.var 11) (.call ai [(.var 0),(.len (.var 11))]))),.ifs (.and (.cmp .gt (.ix (.var 2) (.int 0)) (.int 0)) (.cmp .eq (.call ai [(.var 0),(.int 3)]) (.int 0))) [.setI (.bin .add (.int 1) (.call ai [(.var 0),(.ix (.var 2) (.int 0))])) (.ix (.var 3) (.ix (.var 12) (.neg (.int 1)))) (.int 6)] []],.asg (.name 14) (.ix (.lst [.non,(.tup [(.call ai [(.var 0),(.len (.ix (.var 2) (.int 2)))]),(.call ai [(.var 0),(.int 30)])])]) (.call ai [(.var 0),(.int 2)])),.ret (.tup [(.var 2),(.var 14),(.tupOf (.comp ["_law_one"] (.tupOf (.var 15)) [⟨(.name 15),(.val (.var 3)),none⟩])),(.tupOf (.var 12))])]
noncomputable def ll:List CS:=[.for_ (.tup [(.name 2),(.name 3)]) (.val (.var 0)) [.ifs (.chn .le .lt (.var 2) (.var 1) (.var 3)) [.asg (.name 1) (.var 3)] []],.ret (.var 1)]
noncomputable def jC:List CS:=[.ret (.comp ["_law_one", "_law_minute"] (.var 3) [⟨(.tup [(.name 3),(.name 4)]),(.val (.var 1)),some (.chn .le .lt (.ix (.ix (.ix (.var 0) (.int 2)) (.var 3)) (.int 1)) (.var 2) (.bin .sub (.var 4) (.ix (.ix (.var 0) (.int 0)) (.int 1))))⟩])]
noncomputable def lp:List CS:=[.asg (.name 4) (.ix (.ix (.ix (.var 0) (.int 2)) (.var 2)) (.int 1)),.asg (.name 5) (.bin .add (.lst [(.var 4)]) (.comp ["_law_one", "_law_when"] (.ix (.ix (.ix (.var 0) (.int 2)) (.var 7)) (.int 1)) [⟨(.tup [(.name 7),(.name 8)]),(.val (.var 1)),none⟩])),.asg (.name 6) (.comp ["_law_at"] (.bin .add (.int 1) (.len (.call ft [(.var 0),(.var 1),(.var 7)]))) [⟨(.name 7),(.val (.var 5)),some (.chn .le .lt (.var 4) (.var 7) (.bin .sub (.var 3) (.ix (.ix (.var 0) (.int 0)) (.int 1))))⟩]),.ret (.mxD (.var 6) 0)]
noncomputable def eG:List CS:=[.asg (.tup [(.name 4),(.name 5),(.name 6),(.name 7)]) (.sl (.ix (.ix (.var 0) (.int 2)) (.var 2)) none (some (.int 4))),.ifs (.cmp .isnot (.var 1) .non) [.asg (.name 6) (.mx (.var 6) (.bin .add (.ix (.var 1) (.int 1)) (.ix (.ix (.ix (.ix (.var 0) (.int 0)) (.int 2)) (.ix (.var 1) (.int 0))) (.var 4))))] [],.asg (.name 8) (.call kT [(.ix (.ix (.var 0) (.int 0)) (.int 3)),(.var 6)]),.asg (.name 9) (.sl (.srt (.comp ["_law_one"] (.ix (.var 10) (.int 1)) [⟨(.name 10),(.val (.ix (.var 0) (.int 2))),none⟩])) (some (.bin .add (.ix (.ix (.var 0) (.int 0)) (.int 0)) (.var 3))) none),.ifs (.or (.cmp .gt (.var 8) (.var 7)) (.and (.cmp .ne (.var 9) (.lst [])) (.cmp .gt (.bin .sub (.var 8) (.ix (.ix (.var 0) (.int 0)) (.int 1))) (.ix (.var 9) (.int 0))))) [.ret .non] [],.ret (.var 8)]
noncomputable def gy:List CS:=[.asg (.tup [(.name 2),(.name 3)]) (.tup [(.ix (.var 0) (.int 1)),(.lst [])]),.for_ (.tup [(.name 4),(.name 5)]) (.en (.var 1)) [.asg (.tup [(.name 6),(.name 7)]) (.tup [(.call kU [(.var 0),(.var 2),(.var 5),(.var 4)]),(.ix (.ix (.ix (.var 0) (.int 2)) (.var 5)) (.int 6))]),.ifs (.or (.cmp .is (.var 6) .non) (.chn .lt .lt (.int 0) (.var 7) (.call gI [(.var 0),(.var 3),(.var 5),(.var 6)]))) [.ret (.tup [(.str "stuck"),(.var 4)])] [],.ex (.app (.var 3) (.tup [(.var 5),(.var 6)])),.asg (.name 2) (.tup [(.ix (.ix (.ix (.var 0) (.int 2)) (.var 5)) (.int 0)),(.var 6)])],.ret (.tup [(.str "lands"),(.var 3)])]
noncomputable def gJ:List CS:=[.asg (.tup [(.name 1),(.name 2),(.name 3),(.name 4)]) (.call mK [(.var 0),(.int 7)]),.ifs (.cmp .eq (.var 3) (.tup [])) [.asg (.name 3) (.tup [(.tup [(.int 0),(.int 4),(.bin .add (.int 4) (.ix (.var 1) (.int 1))),(.bin .add (.int 9) (.ix (.var 1) (.int 1))),(.int 0),(.int 1),(.int 0)])])] [],.asg (.name 5) (.comp ["_law_one"] (.bin .add (.bin .add (.bin .add (.sl (.var 6) none (some (.int 3))) (.tup [(.bin .add (.ix (.var 6) (.int 2)) (.int 5000))])) (.sl (.var 6) (some (.int 4)) (some (.int 6)))) (.tup [(.int 0)])) [⟨(.name 6),(.val (.var 3)),none⟩]),.ret (.tup [(.bin .add (.tup [(.int 8)]) (.sl (.var 1) (some (.int 1)) none)),(.var 2),(.tupOf (.var 5)),(.var 4)])]
noncomputable def ls:List CS:=[.asg (.name 4) (.ix (.ix (.var 0) (.int 2)) (.var 1)),.asg (.name 5) (.bin .add (.bin .add (.sl (.var 4) none (some (.var 2))) (.tup [(.var 3)])) (.sl (.var 4) (some (.bin .add (.var 2) (.int 1))) none)),.ret (.tup [(.ix (.var 0) (.int 0)),(.ix (.var 0) (.int 1)),(.bin .add (.bin .add (.sl (.ix (.var 0) (.int 2)) none (some (.var 1))) (.tup [(.var 5)])) (.sl (.ix (.var 0) (.int 2)) (some (.bin .add (.var 1) (.int 1))) none)),(.ix (.var 0) (.int 3))])]
noncomputable def lu:List CS:=[.ret (.mxL (.comp ["_law_one"] (.len (.call ft [(.var 0),(.var 1),(.ix (.var 2) (.int 1))])) [⟨(.name 2),(.val (.ix (.var 0) (.int 2))),none⟩]))]
noncomputable def iI:List CS:=[.asg (.name 4) (.call ai [(.var 0),(.len (.var 2))]),.asg (.tup [(.name 5),(.name 6)]) (.ix (.var 2) (.var 4)),.ifs (.cmp .eq (.var 3) (.int 0)) [.asg (.name 7) (.mx (.ix (.ix (.ix (.var 1) (.int 2)) (.var 5)) (.int 2)) (.bin .sub (.var 6) (.int 1))),.ret (.lst [(.call eC [(.var 1),(.var 5),(.int 3),(.var 6)]),(.call eC [(.var 1),(.var 5),(.int 3),(.var 7)])])] [],.ifs (.cmp .eq (.var 3) (.int 1)) [.asg (.name 8) (.call kY [(.var 1),(.var 2)]),.asg (.name 9) (.comp ["_law_glider"] (.ix (.var 10) (.int 6)) [⟨(.name 10),(.val (.ix (.var 1) (.int 2))),none⟩]),.ret (.comp ["_law_k"] (.bin .add (.tup [(.bin .add (.tup [(.mxL (.bin .add (.lst [(.bin .sub (.var 8) (.var 10))]) (.var 9)))]) (.sl (.ix (.var 1) (.int 0)) (some (.int 1)) none))]) (.sl (.var 1) (some (.int 1)) none)) [⟨(.name 10),(.r1 (.bin .add (.int 1) (.intOf (.cmp .gt (.var 8) (.int 0))))),none⟩])] [],.asg (.name 8) (.call gI [(.var 1),(.sl (.var 2) none (some (.var 4))),(.var 5),(.var 6)]),.ifs (.or (.cmp .ge (.var 4) (.len (.ix (.var 1) (.int 3)))) (.or (.cmp .eq (.var 8) (.int 0)) (.cmp .gt (.var 8) (.ix (.ix (.var 1) (.int 0)) (.int 0))))) [.ret (.lst [(.var 1)])] [],.ret (.comp ["_law_ring"] (.call eC [(.var 1),(.var 5),(.int 6),(.var 10)]) [⟨(.name 10),(.val (.tup [(.var 8),(.mx (.int 1) (.bin .sub (.var 8) (.int 1)))])),none⟩])]
noncomputable def Dq:List CS:=[.for_ (.name 1) (.r1 (.mx (.int 1) (.mn (.len (.var 0)) (.int 8)))) [.asg (.name 2) (.call mJ [(.call gq [(.var 0),(.var 1)])]),.asg (.name 3) (.call kW [(.var 2)]),.asg (.name 4) (.srt (.comp ["_law_one"] (.tup [(.ix (.ix (.ix (.var 3) (.int 2)) (.var 11)) (.int 2)),(.var 11)]) [⟨(.name 11),(.r1 (.len (.ix (.var 3) (.int 2)))),some (.cmp .notin (.var 11) (.ix (.var 3) (.int 3)))⟩])),.asg (.name 5) (.bin .add (.ix (.var 3) (.int 3)) (.tupOf (.comp ["_law_first", "_law_one"] (.var 12) [⟨(.tup [(.name 11),(.name 12)]),(.val (.var 4)),none⟩]))),.asg (.name 6) (.ix (.call dr [(.var 3),(.var 5)]) (.int 1)),.for_ (.name 7) (.r1 (.int 3)) [.for_ (.name 8) (.val (.call eD [(.var 2),(.var 3),(.var 6),(.var 7)])) [.for_ (.name 9) (.val (.call eD [(.var 2),(.var 8),(.var 6),(.call ai [(.var 2),(.int 3)])])) [.for_ (.name 10) (.val (.tup [(.var 3),(.var 8),(.var 9)])) [.ifs (.cmp .ne (.rep (.call mI [(.var 10),(.var 5)])) (.rep (.call dr [(.var 10),(.var 5)]))) [.ret (.bl false)] []]]]]],.ret (.bl true)]
noncomputable def gK:DefE:=⟨"is_whole", top 6,["thing"],["thing"],kZ⟩
noncomputable def fu:DefE:=⟨"is_within", top 7,["thing", "least", "most"],["thing", "least", "most"],jv⟩
noncomputable def fv:DefE:=⟨"is_minute", top 8,["thing"],["thing"],jw⟩
noncomputable def gL:DefE:=⟨"is_tuple", top 9,["thing", "least", "most"],["thing", "least", "most"],k6⟩
noncomputable def eI:DefE:=⟨"are_unlike", top 10,["thing", "many"],["thing", "many"],iC⟩
noncomputable def fw:DefE:=⟨"is_meadow", top 17,["thing", "rings", "sink", "gaps", "shuts"],["thing"],jx⟩
noncomputable def gM:DefE:=⟨"are_gaps", top 18,["thing"],["thing"],k7⟩
noncomputable def eJ:DefE:=⟨"is_gap_row", top 19,["thing", "many"],["thing", "many"],iE⟩
noncomputable def bg:DefE:=⟨"no_glider_between_helps", top 20,["gaps", "kinds"],["gaps"],bF⟩
noncomputable def fA:DefE:=⟨"are_shuts", top 21,["thing"],["thing"],jy⟩
noncomputable def eK:DefE:=⟨"is_stretch", top 22,["thing"],["thing"],iG⟩
noncomputable def i7:DefE:=⟨"is_kind", top 23,["meadow", "thing"],["meadow", "thing"],mL⟩
noncomputable def b5:DefE:=⟨"first_not_shut", top 24,["meadow", "minute", "begin", "end"],["meadow", "minute"],dM⟩
noncomputable def lv:DefE:=⟨"is_sky", top 28,["thing", "meadow", "ahead", "gliders", "fixed"],["thing"],pW⟩
noncomputable def gN:DefE:=⟨"is_ahead", top 29,["meadow", "thing"],["meadow", "thing"],k8⟩
noncomputable def dz:DefE:=⟨"are_gliders", top 30,["meadow", "thing"],["meadow", "thing"],gr⟩
noncomputable def fB:DefE:=⟨"is_glider", top 31,["meadow", "thing", "kind", "joins", "first", "last", "due", "weight", "ring"],["meadow", "thing"],jz⟩
noncomputable def fC:DefE:=⟨"are_fixed", top 32,["gliders", "thing"],["gliders", "thing"],jA⟩
noncomputable def fD:DefE:=⟨"check_sky", top 33,["thing"],["thing"],jB⟩
noncomputable def cv:DefE:=⟨"landing_ahead", top 35,["sky", "sooner", "number", "minute"],["sky", "sooner"],eV⟩
noncomputable def i8:DefE:=⟨"gap_end", top 36,["sky", "ahead", "kind"],["sky", "ahead", "kind"],mM⟩
noncomputable def gO:DefE:=⟨"waits_at", top 37,["sky", "landing", "minute", "number", "lands"],["sky", "landing", "minute"],k9⟩
noncomputable def cw:DefE:=⟨"how_many_wait", top 38,["sky", "landings", "minute"],["sky", "landings", "minute"],eW⟩
noncomputable def bS:DefE:=⟨"joining_minutes", top 39,["sky"],["sky"],c7⟩
noncomputable def dA:DefE:=⟨"is_too_high", top 40,["sky", "landings", "place", "kind", "joins", "first", "last", "due", "weight", "ring"],["sky", "landings", "place"],gu⟩
noncomputable def dB:DefE:=⟨"ring_needed", top 41,["sky", "landings", "place", "minute", "sooner", "later"],["sky", "landings", "place", "minute"],gw⟩
noncomputable def i9:DefE:=⟨"soonest", top 43,["sky", "order", "landings"],["sky", "order"],mN⟩
noncomputable def gP:DefE:=⟨"is_order", top 44,["sky", "thing", "many"],["sky", "thing"],lb⟩
noncomputable def bK:DefE:=⟨"soonest_landings", top 45,["sky", "numbers", "landings", "place", "number", "minute"],["sky", "numbers"],cS⟩
noncomputable def b6:DefE:=⟨"soonest_minute", top 46,["sky", "ahead", "number", "place", "kind", "joins", "first", "last", "due", "weight", "ring", "minute"],["sky", "ahead", "number", "place"],dN⟩
noncomputable def bT:DefE:=⟨"leaves_too_late", top 47,["sky", "place", "minute", "rings", "sink", "gaps", "shuts", "joins", "one_too_many"],["sky", "place", "minute"],c9⟩
noncomputable def dC:DefE:=⟨"_law_cell_at", top 49,["_law_script", "_law_k"],["_law_script", "_law_k"],gx⟩
noncomputable def ja:DefE:=⟨"_law_pot", top 50,["_law_cell", "_law_number", "_law_j", "_law_more"],["_law_cell"],mO⟩
noncomputable def gQ:DefE:=⟨"_law_take", top 51,["_law_pot_here", "_law_wide_here", "_law_found"],["_law_pot_here", "_law_wide_here"],lh⟩
noncomputable def gR:DefE:=⟨"_law_gaps", top 52,["_law_pot_here", "_law_many", "_law_far", "_law_found", "_law_c", "_law_a"],["_law_pot_here"],eF⟩
noncomputable def eL:DefE:=⟨"_law_meadow", top 53,["_law_pot_here", "_law_shuts", "_law_at", "_law_turn", "_law_begin"],["_law_pot_here"],iH⟩
noncomputable def jb:DefE:=⟨"_law_sky", top 54,["_law_pot_here", "_law_most_here", "_law_meadow_here", "_law_gliders", "_law_wide_here", "_law_long", "_law_number", "_law_joins", "_law_first", "_law_last", "_law_due", "_law_left", "_law_fixed", "_law_turn", "_law_ahead"],["_law_pot_here", "_law_most_here"],fX⟩
noncomputable def gU:DefE:=⟨"_law_open", top 55,["_law_shuts", "_law_minute", "_law_begin", "_law_end"],["_law_shuts", "_law_minute"],ll⟩
noncomputable def fE:DefE:=⟨"_law_waits", top 56,["_law_sky_here", "_law_landed", "_law_at"],["_law_sky_here", "_law_landed", "_law_at"],jC⟩
noncomputable def gX:DefE:=⟨"_law_need", top 57,["_law_sky_here", "_law_landed", "_law_number", "_law_minute", "_law_joins", "_law_known", "_law_counts"],["_law_sky_here", "_law_landed", "_law_number", "_law_minute"],lp⟩
noncomputable def gY:DefE:=⟨"_law_step", top 58,["_law_sky_here", "_law_ahead", "_law_number", "_law_place", "_law_kind", "_law_joins", "_law_first", "_law_last", "_law_minute", "_law_late"],["_law_sky_here", "_law_ahead", "_law_number", "_law_place"],eG⟩
noncomputable def dD:DefE:=⟨"_law_soonest", top 59,["_law_sky_here", "_law_order", "_law_ahead", "_law_landed", "_law_place", "_law_number", "_law_minute", "_law_ring"],["_law_sky_here", "_law_order"],gy⟩
noncomputable def gZ:DefE:=⟨"_law_wide", top 60,["_law_pot_here", "_law_meadow_here", "_law_ahead", "_law_gliders", "_law_fixed", "_law_some"],["_law_pot_here"],gJ⟩
noncomputable def g5:DefE:=⟨"_law_with", top 61,["_law_sky_here", "_law_number", "_law_at", "_law_what", "_law_glider", "_law_other"],["_law_sky_here", "_law_number", "_law_at", "_law_what"],ls⟩
noncomputable def g6:DefE:=⟨"_law_most", top 62,["_law_sky_here", "_law_landed"],["_law_sky_here", "_law_landed"],lu⟩
noncomputable def eM:DefE:=⟨"_law_turned", top 63,["_law_pot_here", "_law_sky_here", "_law_landed", "_law_way", "_law_at", "_law_number", "_law_minute", "_law_less", "_law_most_here", "_law_rings"],["_law_pot_here", "_law_sky_here", "_law_landed", "_law_way"],iI⟩
noncomputable def tP:DefE:=⟨"law", top 64,["_law_script", "_law_k", "_law_pot_here", "_law_sky_here", "_law_rest", "_law_order", "_law_landed", "_law_way", "_law_less", "_law_other", "_law_some"],["_law_script"],Dq⟩
noncomputable def aj:List DefE:=[gK,fu,fv,gL,eI,fw,gM,eJ,bg,fA,eK,i7,b5,lv,gN,dz,fB,fC,fD,cv,i8,gO,cw,bS,dA,dB,i9,gP,bK,b6,bT,dC,ja,gQ,gR,eL,jb,gU,fE,gX,gY,dD,gZ,g5,g6,eM,tP]
noncomputable def con:List (Str × Int):=[("LAST_MINUTE", 9999),("MOST_RINGS", 8),("MOST_SINK", 60),("MOST_KINDS", 4),("MOST_GAP", 99),("MOST_SHUTS", 4),("MOST_GLIDERS", 7),("MOST_WEIGHT", 99)]
end Lw
namespace Lw
open PySem Ev
theorem chk:aj.all (A6 (tK con aj))=true:=by kernel_rfl
theorem us1:∀ {us:List Value},us.length=1->∃ a0,us=[a0]
 | [a0],_=>⟨a0,rfl⟩
theorem us2:∀ {us:List Value},us.length=2->∃ a0 a1,us=[a0,a1]
 | [a0,a1],_=>⟨a0,a1,rfl⟩
theorem us3:∀ {us:List Value},us.length=3->∃ a0 a1 a2,us=[a0,a1,a2]
 | [a0,a1,a2],_=>⟨a0,a1,a2,rfl⟩
theorem us4:∀ {us:List Value},us.length=4->∃ a0 a1 a2 a3,us=[a0,a1,a2,a3]
 | [a0,a1,a2,a3],_=>⟨a0,a1,a2,a3,rfl⟩
theorem bind:vq aj:=
 ⟨fun _ _ _ _ _ _ us hl=>by obtain ⟨_,rfl⟩:=us1 hl;rfl,
  fun _ _ _ _ _ _ us hl=>by obtain ⟨_,_,_,rfl⟩:=us3 hl;rfl,
  fun _ _ _ _ _ _ us hl=>by obtain ⟨_,rfl⟩:=us1 hl;rfl,
  fun _ _ _ _ _ _ us hl=>by obtain ⟨_,_,_,rfl⟩:=us3 hl;rfl,
  fun _ _ _ _ _ _ us hl=>by obtain ⟨_,_,rfl⟩:=us2 hl;rfl,
  fun _ _ _ _ _ _ us hl=>by obtain ⟨_,rfl⟩:=us1 hl;rfl,
  fun _ _ _ _ _ _ us hl=>by obtain ⟨_,rfl⟩:=us1 hl;rfl,
  fun _ _ _ _ _ _ us hl=>by obtain ⟨_,_,rfl⟩:=us2 hl;rfl,
  fun _ _ _ _ _ _ us hl=>by obtain ⟨_,rfl⟩:=us1 hl;rfl,
  fun _ _ _ _ _ _ us hl=>by obtain ⟨_,rfl⟩:=us1 hl;rfl,
  fun _ _ _ _ _ _ us hl=>by obtain ⟨_,rfl⟩:=us1 hl;rfl,
  fun _ _ _ _ _ _ us hl=>by obtain ⟨_,_,rfl⟩:=us2 hl;rfl,
  fun _ _ _ _ _ _ us hl=>by obtain ⟨_,_,rfl⟩:=us2 hl;rfl,
  fun _ _ _ _ _ _ us hl=>by obtain ⟨_,rfl⟩:=us1 hl;rfl,
  fun _ _ _ _ _ _ us hl=>by obtain ⟨_,_,rfl⟩:=us2 hl;rfl,
  fun _ _ _ _ _ _ us hl=>by obtain ⟨_,_,rfl⟩:=us2 hl;rfl,
  fun _ _ _ _ _ _ us hl=>by obtain ⟨_,_,rfl⟩:=us2 hl;rfl,
  fun _ _ _ _ _ _ us hl=>by obtain ⟨_,_,rfl⟩:=us2 hl;rfl,
  fun _ _ _ _ _ _ us hl=>by obtain ⟨_,rfl⟩:=us1 hl;rfl,
  fun _ _ _ _ _ _ us hl=>by obtain ⟨_,_,rfl⟩:=us2 hl;rfl,
  fun _ _ _ _ _ _ us hl=>by obtain ⟨_,_,_,rfl⟩:=us3 hl;rfl,
  fun _ _ _ _ _ _ us hl=>by obtain ⟨_,_,_,rfl⟩:=us3 hl;rfl,
  fun _ _ _ _ _ _ us hl=>by obtain ⟨_,_,_,rfl⟩:=us3 hl;rfl,
  fun _ _ _ _ _ _ us hl=>by obtain ⟨_,rfl⟩:=us1 hl;rfl,
  fun _ _ _ _ _ _ us hl=>by obtain ⟨_,_,_,rfl⟩:=us3 hl;rfl,
  fun _ _ _ _ _ _ us hl=>by obtain ⟨_,_,_,_,rfl⟩:=us4 hl;rfl,
  fun _ _ _ _ _ _ us hl=>by obtain ⟨_,_,rfl⟩:=us2 hl;rfl,
  fun _ _ _ _ _ _ us hl=>by obtain ⟨_,_,rfl⟩:=us2 hl;rfl,
  fun _ _ _ _ _ _ us hl=>by obtain ⟨_,_,rfl⟩:=us2 hl;rfl,
  fun _ _ _ _ _ _ us hl=>by obtain ⟨_,_,_,_,rfl⟩:=us4 hl;rfl,
  fun _ _ _ _ _ _ us hl=>by obtain ⟨_,_,_,rfl⟩:=us3 hl;rfl,
  fun _ _ _ _ _ _ us hl=>by obtain ⟨_,_,rfl⟩:=us2 hl;rfl,
  fun _ _ _ _ _ _ us hl=>by obtain ⟨_,rfl⟩:=us1 hl;rfl,
  fun _ _ _ _ _ _ us hl=>by obtain ⟨_,_,rfl⟩:=us2 hl;rfl,
  fun _ _ _ _ _ _ us hl=>by obtain ⟨_,rfl⟩:=us1 hl;rfl,
  fun _ _ _ _ _ _ us hl=>by obtain ⟨_,rfl⟩:=us1 hl;rfl,
  fun _ _ _ _ _ _ us hl=>by obtain ⟨_,_,rfl⟩:=us2 hl;rfl,
  fun _ _ _ _ _ _ us hl=>by obtain ⟨_,_,rfl⟩:=us2 hl;rfl,
  fun _ _ _ _ _ _ us hl=>by obtain ⟨_,_,_,rfl⟩:=us3 hl;rfl,
  fun _ _ _ _ _ _ us hl=>by obtain ⟨_,_,_,_,rfl⟩:=us4 hl;rfl,
  fun _ _ _ _ _ _ us hl=>by obtain ⟨_,_,_,_,rfl⟩:=us4 hl;rfl,
  fun _ _ _ _ _ _ us hl=>by obtain ⟨_,_,rfl⟩:=us2 hl;rfl,
  fun _ _ _ _ _ _ us hl=>by obtain ⟨_,rfl⟩:=us1 hl;rfl,
  fun _ _ _ _ _ _ us hl=>by obtain ⟨_,_,_,_,rfl⟩:=us4 hl;rfl,
  fun _ _ _ _ _ _ us hl=>by obtain ⟨_,_,rfl⟩:=us2 hl;rfl,
  fun _ _ _ _ _ _ us hl=>by obtain ⟨_,_,_,_,rfl⟩:=us4 hl;rfl,
  fun _ _ _ _ _ _ us hl=>by obtain ⟨_,rfl⟩:=us1 hl;rfl,trivial⟩
end Lw
section
open PySem PySem.W PyProof.Rows
noncomputable abbrev Lw.view:Program:={ PySem.Challenge.pw_downrings_k34_stuck_in_each_way with main:={ PySem.Challenge.pw_downrings_k34_stuck_in_each_way.main with body:=[Lw.top 64] } }
noncomputable abbrev Lw.loose:List PySem.Str:=[Str.ofString "is_whole", Str.ofString "is_within", Str.ofString "is_minute", Str.ofString "is_tuple", Str.ofString "are_unlike", Str.ofString "is_meadow", Str.ofString "are_gaps", Str.ofString "is_gap_row", Str.ofString "no_glider_between_helps", Str.ofString "are_shuts", Str.ofString "is_stretch", Str.ofString "is_kind", Str.ofString "first_not_shut", Str.ofString "is_sky", Str.ofString "is_ahead", Str.ofString "are_gliders", Str.ofString "is_glider", Str.ofString "are_fixed", Str.ofString "check_sky", Str.ofString "landing_ahead", Str.ofString "gap_end", Str.ofString "waits_at", Str.ofString "how_many_wait", Str.ofString "joining_minutes", Str.ofString "is_too_high", Str.ofString "ring_needed", Str.ofString "soonest", Str.ofString "is_order", Str.ofString "soonest_landings", Str.ofString "soonest_minute", Str.ofString "leaves_too_late", Str.ofString "_law_cell_at", Str.ofString "_law_pot", Str.ofString "_law_take", Str.ofString "_law_gaps", Str.ofString "_law_meadow", Str.ofString "_law_sky", Str.ofString "_law_open", Str.ofString "_law_waits", Str.ofString "_law_need", Str.ofString "_law_step", Str.ofString "_law_soonest", Str.ofString "_law_wide", Str.ofString "_law_with", Str.ofString "_law_most", Str.ofString "_law_turned", Str.ofString "LAST_MINUTE", Str.ofString "MOST_RINGS", Str.ofString "MOST_SINK", Str.ofString "MOST_KINDS", Str.ofString "MOST_GAP", Str.ofString "MOST_SHUTS", Str.ofString "MOST_GLIDERS", Str.ofString "MOST_WEIGHT", Str.ofString "RingError", Str.ofString "NoSky", Str.ofString "NoOrder"]
set_option maxHeartbeats 0 in
theorem Lw.said:PySem.Challenge.rw_downrings_k34_stuck_in_each_way.wellSaid=true:=by kernel_rfl
set_option maxHeartbeats 0 in
theorem Lw.head (hmain:∀ ns:List Int,ns.length<=63->∃ S',Ev.evC Lw.aj 40 Lw.tO [.ref 0] [.frz (ns.map Ev.D.int)]=some (.bl true,S')):PySem.Challenge.rw_downrings_k34_stuck_in_each_way.Holds:=by
 w_on;refine holds_law Lw.said fun said=>?_
 refine holds_open (q:=Lw.view) (loose:=Lw.loose) (Xt:=fun s=>xlAt Lw.view [] s && recOk (RowW.records PySem.Challenge.rw_downrings_k34_stuck_in_each_way.row.toRowW) s) (XP:=XL Lw.view []) (Yf:=Hook.obs (Ev.nX Lw.con Lw.aj Lw.bind)) (Ya:=Hook.val (Ev.nX Lw.con Lw.aj Lw.bind)) (YP:=Hook.says (Ev.nX Lw.con Lw.aj Lw.bind)) (N:=12000) ?hl (Hook.of _) (Hook.keeps _) (fun s e=>xl_of s (Bool.and_eq_true_iff.mp e).1) XL.keeps (by rfl) (by rfl) (by rfl) (fun s e=>recFacts_of (Bool.and_eq_true_iff.mp e).2) (by rfl) (by first | assumption | decide +kernel) (by decide +kernel) ⟨rfl,rfl,rfl,rfl,rfl,by decide +kernel⟩ ?hw ?hc
 case hw=>w_witness2
 case hl=>exact fun w=>by kernel_rfl
 case hc=>exact Ev.Ba (l:=PySem.Challenge.rw_downrings_k34_stuck_in_each_way) (n:=63) (k:=40) (i:=Lw.tO) (dl:=Lw.tP) rfl (by decide) rfl ⟨rfl,by decide,by decide,rfl⟩ rfl rfl rfl Lw.chk hmain
end
namespace Ev
open PySem PySem.Spec PyProof.Rows L2
noncomputable def Ok {α:Type} (x:Option (α × Sto)) (Q:α->Sto->Prop):Prop:=∃ a S,x=some (a,S)/\Q a S
noncomputable def OkS (x:Option (Fl × Rho × Sto)) (Q:Fl->Rho->Sto->Prop):Prop:=∃ f ρ S,x=some (f,ρ,S)/\Q f ρ S
section
variable {α β:Type} {S S':Sto} {ρ ρ':Rho}
theorem ao {a:α} {Q:α->Sto->Prop}:Ok (some (a,S)) Q=Q a S:=by
 apply propext
 exact ⟨fun ⟨_,_,e,q⟩=>by cases e;exact q,fun q=>⟨a,S,rfl,q⟩⟩
theorem aZ {Q:α->Sto->Prop}:Ok none Q=False:=propext ⟨fun ⟨_,_,e,_⟩=>(nomatch e),fun h=>h.elim⟩
theorem bB {x:Option (α × Sto)} {f:α->Sto->Option (β × Sto)} {Q:β->Sto->Prop}:Ok (bnd x f) Q=Ok x fun a S=>Ok (f a S) Q:=by
 apply propext
 constructor
 ·rintro ⟨b,S',e,q⟩
  obtain ⟨a,S,e1,e2⟩:=ab e
  exact ⟨a,S,e1,b,S',e2,q⟩
 ·rintro ⟨a,S,e1,b,S',e2,q⟩
  exact ⟨b,S',by rw [e1];exact e2,q⟩
theorem cT {c:Prop} [Decidable c] {x y:Option (α × Sto)} {Q:α->Sto->Prop}:Ok (if c then x else y) Q=if c then Ok x Q else Ok y Q:=by split <;> rfl
theorem FM {x:Option β} {f:β->α × Sto} {Q:α->Sto->Prop}:Ok (x.map f) Q=∃ b,x=some b/\Q (f b).1 (f b).2:=by
 apply propext
 cases x with
 | none=>exact ⟨fun ⟨_,_,e,_⟩=>(nomatch e),fun ⟨_,e,_⟩=>(nomatch e)⟩
 | some b=>exact ⟨fun ⟨a,S,e,q⟩=>⟨b,rfl,by have e':=Option.some.inj e;rw [e'];exact q⟩,fun ⟨b',e,q⟩=>by cases e;exact ⟨_,_,rfl,q⟩⟩
theorem Ok.mono {x:Option (α × Sto)} {Q Q':α->Sto->Prop} (h:Ok x Q) (f:∀ a S,Q a S->Q' a S):Ok x Q':=let ⟨a,S,e,q⟩:=h;⟨a,S,e,f a S q⟩
theorem OkS.mono {x:Option (Fl × Rho × Sto)} {Q Q':Fl->Rho->Sto->Prop} (h:OkS x Q) (f:∀ a ρ S,Q a ρ S->Q' a ρ S):OkS x Q':=let ⟨a,ρ,S,e,q⟩:=h;⟨a,ρ,S,e,f a ρ S q⟩
noncomputable def nxt (y:XS) (Q:Fl->Rho->Sto->Prop) (f:Fl) (ρ:Rho) (S:Sto):Prop:=match f with
 | .nx=>OkS (y ρ S) Q
 | f=>Q f ρ S
theorem Bb {x y:XS} {Q:Fl->Rho->Sto->Prop}:OkS (xH x y ρ S) Q=OkS (x ρ S) (nxt y Q):=by
 apply propext
 unfold xH
 constructor
 ·rintro ⟨f,ρ1,S1,e,q⟩
  split at e
  ·cases e
  ·rename_i ρ2 S2 h;exact ⟨_,_,_,h,f,ρ1,S1,e,q⟩
  ·rename_i r n h
   cases e
   cases f with
   | nx=>exact absurd rfl (n ρ1 S1)
   | _=>exact ⟨_,_,_,h,q⟩
 ·rintro ⟨f,ρ1,S1,e,q⟩
  rw [e]
  cases f with
  | nx=>exact q
  | _=>exact ⟨_,_,_,rfl,q⟩
theorem FN {c:XT} {x y:XS} {Q:Fl->Rho->Sto->Prop}:OkS (xIf c x y ρ S) Q=Ok (c ρ S) fun b S1=>if b=true then OkS (x ρ S1) Q else OkS (y ρ S1) Q:=by
 apply propext
 unfold xIf
 constructor
 ·rintro ⟨f,ρ1,S1,e,q⟩
  cases h:c ρ S with
  | none=>rw [h] at e;cases e
  | some r=>
   obtain ⟨b,S2⟩:=r
   rw [h] at e
   refine ⟨b,S2,rfl,?_⟩
   dsimp only at e ⊢
   split
   ·rename_i hb;rw [if_pos hb] at e;exact ⟨f,ρ1,S1,e,q⟩
   ·rename_i hb;rw [if_neg hb] at e;exact ⟨f,ρ1,S1,e,q⟩
 ·rintro ⟨b,S2,e,q⟩
  rw [e]
  dsimp only
  split
  ·rename_i hb;rw [if_pos hb] at q;exact q
  ·rename_i hb;rw [if_neg hb] at q;exact q
theorem Bc {x:XE} {t:Tg} {Q:Fl->Rho->Sto->Prop}:OkS (kD x t ρ S) Q=Ok (x ρ S) fun d S1=>∃ ρ1,ax t d ρ=some ρ1/\Q .nx ρ1 S1:=by
 apply propext
 unfold kD
 constructor
 ·rintro ⟨f,ρ1,S1,e,q⟩
  cases h:x ρ S with
  | none=>rw [h] at e;cases e
  | some r=>
   obtain ⟨d,S2⟩:=r
   rw [h] at e
   dsimp only at e
   cases h2:ax t d ρ with
   | none=>rw [h2] at e;cases e
   | some ρ2=>rw [h2] at e;cases e;exact ⟨d,_,rfl,ρ1,h2,q⟩
 ·rintro ⟨d,S2,e,ρ1,e2,q⟩
  rw [e]
  dsimp only
  rw [e2]
  exact ⟨_,_,_,rfl,q⟩
theorem yo {x:XE} {Q:Fl->Rho->Sto->Prop}:OkS (pE x ρ S) Q=Ok (x ρ S) fun _ S1=>Q .nx ρ S1:=by
 apply propext
 unfold pE
 constructor
 ·rintro ⟨f,ρ1,S1,e,q⟩
  cases h:x ρ S with
  | none=>rw [h] at e;cases e
  | some r=>rw [h] at e;cases e;exact ⟨_,_,rfl,q⟩
 ·rintro ⟨d,S2,e,q⟩
  rw [e];exact ⟨_,_,_,rfl,q⟩
theorem Be {x:XE} {Q:Fl->Rho->Sto->Prop}:OkS (xI x ρ S) Q=Ok (x ρ S) fun d S1=>Q (.rt d) ρ S1:=by
 apply propext
 unfold xI
 constructor
 ·rintro ⟨f,ρ1,S1,e,q⟩
  cases h:x ρ S with
  | none=>rw [h] at e;cases e
  | some r=>rw [h] at e;cases e;exact ⟨_,_,rfl,q⟩
 ·rintro ⟨d,S2,e,q⟩
  rw [e];exact ⟨_,_,_,rfl,q⟩
theorem yp {v o i:XE} {Q:Fl->Rho->Sto->Prop}:OkS (pF v o i ρ S) Q=Ok (v ρ S) fun a S1=>Ok (o ρ S1) fun b S2=>Ok (i ρ S2) fun c S3=>∃ S4,kB b c a S3=some S4/\Q .nx ρ S4:=by
 apply propext
 unfold pF
 constructor
 ·rintro ⟨f,ρ1,S1,e,q⟩
  cases h:v ρ S with
  | none=>rw [h] at e;cases e
  | some r=>
   rw [h] at e
   dsimp only at e
   cases h2:o ρ r.2 with
   | none=>rw [h2] at e;cases e
   | some r2=>
    rw [h2] at e
    dsimp only at e
    cases h3:i ρ r2.2 with
    | none=>rw [h3] at e;cases e
    | some r3=>
     rw [h3] at e
     dsimp only at e
     cases h4:kB r2.1 r3.1 r.1 r3.2 with
     | none=>rw [h4] at e;cases e
     | some S4=>rw [h4] at e;cases e;exact ⟨_,_,rfl,_,_,h2,_,_,h3,_,h4,q⟩
 ·rintro ⟨a,S1,e1,b,S2,e2,c,S3,e3,S4,e4,q⟩
  rw [e1];dsimp only;rw [e2];dsimp only;rw [e3];dsimp only;rw [e4];exact ⟨_,_,_,rfl,q⟩
theorem Bf {it:XI} {tg:Tg} {b:XS} {k:Nat} {Q:Fl->Rho->Sto->Prop}:OkS (xJ it tg b k ρ S) Q=Ok (it ρ S) fun nx S1=>OkS (dZ nx tg b k 0 ρ S1) Q:=by
 apply propext
 unfold xJ
 constructor
 ·rintro ⟨f,ρ1,S1,e,q⟩
  cases h:it ρ S with
  | none=>rw [h] at e;cases e
  | some r=>rw [h] at e;exact ⟨_,_,rfl,_,_,_,e,q⟩
 ·rintro ⟨d,S2,e,q⟩
  rw [e];exact q
noncomputable def out (Q:D->Sto->Prop) (f:Fl) (_:Rho) (S:Sto):Prop:=match f with
 | .rt v=>Q v S
 | .nx=>Q .non S
 | _=>False
theorem FO {Q:D->Sto->Prop} {d:D}:out Q (.rt d) ρ S=Q d S:=rfl
theorem FP {Q:D->Sto->Prop}:out Q .nx ρ S=Q .non S:=rfl
theorem aG {aj:List DefE} {k f:Nat} {d:DefE} {ds:List D} {Q:D->Sto->Prop} (hd:aj[f]?=some d) (hρ:ds.map some++List.replicate (d.N.length - ds.length) none=ρ) (h:OkS (gG (evC aj k) (iZ aj) 60 d.body ρ S) (out Q)):Ok (evC aj (k+1) f ds S) Q:=by
 subst hρ
 simp only [evC,hd,FJ]
 obtain ⟨fl,ρ1,S1,e,q⟩:=h
 show Ok (match gG (evC aj k) (iZ aj) FU d.body _ S with | some (.rt v,_,S')=>some (v,S') | some (.nx,_,S')=>some (.non,S') | _=>none) Q
 unfold FU
 rw [e]
 cases fl with
 | rt v=>exact ⟨_,_,rfl,q⟩
 | nx=>exact ⟨_,_,rfl,q⟩
 | bk=>exact q.elim
 | ct=>exact q.elim
theorem mP {nx:Nxt} {tg:Tg} {c:XA} {N:Nat} (I:Nat->List D->Sto->Prop)
  (step:∀ i acc S,i < N->I i acc S->∃ d ρ1,nx i S=some (some d)/\ax tg d ρ=some ρ1/\Ok (c ρ1 S) fun es S1=>I (i+1) (acc++es) S1) (stop:∀ acc S,I N acc S->nx N S=some none) :
  ∀ (n i k:Nat) (acc:List D) (S:Sto),N=i+n->n < k->I i acc S->Ok (bj nx tg c ρ k i S) fun es S'=>I N (acc++es) S'
 | 0,i,k+1,acc,S,hN,hk,h=>by
  obtain rfl:N=i:=by omega
  simp only [bj,stop acc S h]
  exact ⟨_,_,rfl,by show I _ (acc++[]) S;rw [List.append_nil];exact h⟩
 | n+1,i,k+1,acc,S,hN,hk,h=>by
  obtain ⟨d,ρ1,e1,e2,es,S1,e3,h'⟩:=step i acc S (by omega) h
  simp only [bj,e1,e2,e3,bnd]
  obtain ⟨rs,S2,e4,h2⟩:=mP I step stop n (i+1) k (acc++es) S1 (by omega) (by omega) h'
  simp only [e4]
  exact ⟨_,_,rfl,by show I _ (acc++(es++rs)) S2;rw [<-List.append_assoc];exact h2⟩
theorem cU {nx:Nxt} {tg:Tg} {c:XA} {k:Nat} (N:Nat) (I:Nat->List D->Sto->Prop) (hk:N < k)
  (step:∀ i acc S,i < N->I i acc S->∃ d ρ1,nx i S=some (some d)/\ax tg d ρ=some ρ1/\Ok (c ρ1 S) fun es S1=>I (i+1) (acc++es) S1) (stop:∀ acc S,I N acc S->nx N S=some none) (h:I 0 [] S) :
  Ok (bj nx tg c ρ k 0 S) (I N):=(mP I step stop N 0 k [] S (by omega) hk h).mono fun es S' z=>by rw [List.nil_append] at z;exact z
theorem lw {nx:Nxt} {tg:Tg} {b:XS} {N:Nat} {Q:Fl->Rho->Sto->Prop} (I:Nat->Rho->Sto->Prop)
  (step:∀ i ρ S,i < N->I i ρ S->∃ d ρ1,nx i S=some (some d)/\ax tg d ρ=some ρ1/\OkS (b ρ1 S) fun fl ρ2 S2=>match fl with | .nx=>I (i+1) ρ2 S2 | .ct=>I (i+1) ρ2 S2 | .bk=>Q .nx ρ2 S2 | .rt d=>Q (.rt d) ρ2 S2)
  (stop:∀ ρ S,I N ρ S->nx N S=some none/\Q .nx ρ S) :
  ∀ (n i k:Nat) (ρ:Rho) (S:Sto),N=i+n->n < k->I i ρ S->OkS (dZ nx tg b k i ρ S) Q
 | 0,i,k+1,ρ,S,hN,hk,h=>by
  obtain rfl:N=i:=by omega
  simp only [dZ,(stop ρ S h).1]
  exact ⟨_,_,_,rfl,(stop ρ S h).2⟩
 | n+1,i,k+1,ρ,S,hN,hk,h=>by
  obtain ⟨d,ρ1,e1,e2,fl,ρ2,S2,e3,h'⟩:=step i ρ S (by omega) h
  simp only [dZ,e1,e2,e3]
  cases fl with
  | nx=>exact lw I step stop n (i+1) k ρ2 S2 (by omega) (by omega) h'
  | ct=>exact lw I step stop n (i+1) k ρ2 S2 (by omega) (by omega) h'
  | bk=>exact ⟨_,_,_,rfl,h'⟩
  | rt d=>exact ⟨_,_,_,rfl,h'⟩
theorem jV {nx:Nxt} {tg:Tg} {b:XS} {k:Nat} {Q:Fl->Rho->Sto->Prop} (N:Nat) (I:Nat->Rho->Sto->Prop) (hk:N < k)
  (step:∀ i ρ S,i < N->I i ρ S->∃ d ρ1,nx i S=some (some d)/\ax tg d ρ=some ρ1/\OkS (b ρ1 S) fun fl ρ2 S2=>match fl with | .nx=>I (i+1) ρ2 S2 | .ct=>I (i+1) ρ2 S2 | .bk=>Q .nx ρ2 S2 | .rt d=>Q (.rt d) ρ2 S2)
  (stop:∀ ρ S,I N ρ S->nx N S=some none/\Q .nx ρ S) (h:I 0 ρ S):OkS (dZ nx tg b k 0 ρ S) Q:=lw I step stop N 0 k ρ S (by omega) hk h
end
mutual
noncomputable def TD (p:Nat) (S:Sto):Dw.D->D->Prop
 | .non,d=>d = .non
 | .bl b,d=>d = .bl b
 | .int i,d=>d = .int i
 | .str x,d=>d = .str x
 | .tup ts,d=>∃ ds,d = .tup ds/\TDs p S ts ds
 | .lst ts,d=>∃ n ds,d = .ref n/\n ≠ p/\S[n]?=some (.lst ds)/\TDs p S ts ds
 | .dic ks ts,d=>∃ n ds,d = .ref n/\n ≠ p/\S[n]?=some (.dic ks ds)/\TDs p S ts ds
noncomputable def TDs (p:Nat) (S:Sto):List Dw.D->List D->Prop
 | [],ds=>ds=[]
 | t::ts,ds=>∃ d r,ds=d::r/\TD p S t d/\TDs p S ts r
end
noncomputable def Kp (p:Nat) (S S':Sto):Prop:=∀ i o,i ≠ p->S[i]?=some o->S'[i]?=some o
noncomputable def Sm (S S':Sto):Prop:=∀ (i:Nat) (o:Ob),S[i]?=some o->S'[i]?=some o
theorem Sm.kp {p:Nat} {S S':Sto} (h:Sm S S'):Kp p S S':=fun i o _ e=>h i o e
theorem Sm.refl (S:Sto):Sm S S:=fun _ _ e=>e
theorem Sm.trans {S S1 S2:Sto} (a:Sm S S1) (b:Sm S1 S2):Sm S S2:=fun i o e=>b i o (a i o e)
theorem Sm.app (S X:Sto):Sm S (S++X):=fun i o e=>by
 have hi:=(List.getElem?_eq_some_iff.mp e).1
 rw [List.getElem?_append_left hi];exact e
theorem Kp.refl (p:Nat) (S:Sto):Kp p S S:=fun _ _ _ e=>e
theorem Kp.trans {p:Nat} {S S1 S2:Sto} (a:Kp p S S1) (b:Kp p S1 S2):Kp p S S2:=fun i o n e=>b i o n (a i o n e)
mutual
theorem TD.keep {p:Nat} {S S':Sto} (k:Kp p S S'):∀ {t:Dw.D} {d:D},TD p S t d->TD p S' t d
 | .non,_,h=>by rw [TD] at h ⊢;exact h
 | .bl _,_,h=>by rw [TD] at h ⊢;exact h
 | .int _,_,h=>by rw [TD] at h ⊢;exact h
 | .str _,_,h=>by rw [TD] at h ⊢;exact h
 | .tup ts,_,h=>by rw [TD] at h ⊢;obtain ⟨ds,e,q⟩:=h;exact ⟨ds,e,TDs.keep k q⟩
 | .lst ts,_,h=>by rw [TD] at h ⊢;obtain ⟨n,ds,e,ne,a,q⟩:=h;exact ⟨n,ds,e,ne,k _ _ ne a,TDs.keep k q⟩
 | .dic ks ts,_,h=>by rw [TD] at h ⊢;obtain ⟨n,ds,e,ne,a,q⟩:=h;exact ⟨n,ds,e,ne,k _ _ ne a,TDs.keep k q⟩
theorem TDs.keep {p:Nat} {S S':Sto} (k:Kp p S S'):∀ {ts:List Dw.D} {ds:List D},TDs p S ts ds->TDs p S' ts ds
 | [],_,h=>by rw [TDs] at h ⊢;exact h
 | t::ts,_,h=>by rw [TDs] at h ⊢;obtain ⟨d,r,e,a,q⟩:=h;exact ⟨d,r,e,TD.keep k a,TDs.keep k q⟩
end
section
variable {p:Nat} {S S':Sto}
theorem FQ:TD p S .non .non:=by rw [TD]
theorem fF {i:Int}:TD p S (.int i) (.int i):=by rw [TD]
theorem yq {x:Str}:TD p S (.str x) (.str x):=by rw [TD]
theorem cx {ts:List Dw.D} {ds:List D} (h:TDs p S ts ds):TD p S (.tup ts) (.tup ds):=by rw [TD];exact ⟨ds,rfl,h⟩
theorem ce:TDs p S [] []:=by rw [TDs]
theorem aH {t:Dw.D} {d:D} {ts:List Dw.D} {ds:List D} (h:TD p S t d) (q:TDs p S ts ds):TDs p S (t::ts) (d::ds):=by rw [TDs];exact ⟨d,ds,rfl,h,q⟩
theorem TD.non {d:D} (h:TD p S .non d):d = .non:=by rw [TD] at h;exact h
theorem TD.bl {b:Bool} {d:D} (h:TD p S (.bl b) d):d = .bl b:=by rw [TD] at h;exact h
theorem TD.int {i:Int} {d:D} (h:TD p S (.int i) d):d = .int i:=by rw [TD] at h;exact h
theorem TD.str {x:Str} {d:D} (h:TD p S (.str x) d):d = .str x:=by rw [TD] at h;exact h
theorem TD.tup {ts:List Dw.D} {d:D} (h:TD p S (.tup ts) d):∃ ds,d = .tup ds/\TDs p S ts ds:=by rw [TD] at h;exact h
theorem TDs.cons {t:Dw.D} {ts:List Dw.D} {ds:List D} (h:TDs p S (t::ts) ds):∃ d r,ds=d::r/\TD p S t d/\TDs p S ts r:=by rw [TDs] at h;exact h
theorem TDs.nil {ds:List D} (h:TDs p S [] ds):ds=[]:=by rw [TDs] at h;exact h
theorem TDs.len:∀ {ts:List Dw.D} {ds:List D},TDs p S ts ds->ds.length=ts.length
 | [],_,h=>by rw [h.nil];rfl
 | t::ts,_,h=>by obtain ⟨d,r,rfl,_,q⟩:=h.cons;simp [q.len]
theorem TDs.get:∀ {ts:List Dw.D} {ds:List D} {i:Nat} {t:Dw.D},TDs p S ts ds->ts[i]?=some t->∃ d,ds[i]?=some d/\TD p S t d
 | [],_,_,_,_,e=>by simp at e
 | t::ts,_,0,_,h,e=>by obtain ⟨d,r,rfl,a,q⟩:=h.cons;simp at e;subst e;exact ⟨d,rfl,a⟩
 | t::ts,_,i+1,_,h,e=>by obtain ⟨d,r,rfl,a,q⟩:=h.cons;simp at e;obtain ⟨x,hx,y⟩:=q.get e;exact ⟨x,by simpa using hx,y⟩
noncomputable def tyT:Dw.D->String
 | .non => "NoneType" | .bl _ => "bool" | .int _ => "int" | .str _ => "str" | .tup _ => "tuple" | .lst _ => "list" | .dic _ _ => "dict"
theorem JF {t:Dw.D} {d:D} (h:TD p S t d):tyN d S=some (tyT t):=by
 cases t with
 | non=>rw [h.non];rfl
 | bl _=>rw [h.bl];rfl
 | int _=>rw [h.int];rfl
 | str _=>rw [h.str];rfl
 | tup _=>obtain ⟨_,rfl,_⟩:=h.tup;rfl
 | lst _=>rw [TD] at h;obtain ⟨n,ds,rfl,_,e,_⟩:=h;simp only [tyN,e];rfl
 | dic _ _=>rw [TD] at h;obtain ⟨n,ds,rfl,_,e,_⟩:=h;simp only [tyN,e];rfl
theorem nY {ty:Ty} {t:Dw.D} {d:D} (h:TD p S t d):kr ty d S=some (.bl (fj ty (tyT t)),S):=by
 unfold kr;rw [JF h];rfl
end
end Ev
namespace Ev
open PySem PySem.Spec PyProof.Rows L2
theorem Bg {g:List D->Sto->Option (D × Sto)} {n:Nat} {x:XA} {ρ:Rho} {S:Sto} {Q:D->Sto->Prop}:Ok (pJ g n x ρ S) Q=Ok (x ρ S) fun ds S1=>ds.length=n/\Ok (g ds S1) Q:=by
 unfold pJ
 rw [bB]
 congr 1
 funext ds S1
 rw [cT,aZ]
 apply propext
 split
 ·rename_i h;exact ⟨fun z=>⟨h,z⟩,fun z=>z.2⟩
 ·rename_i h;exact ⟨fun z=>z.elim,fun z=>(h z.1).elim⟩
theorem FR {x y:XE} {ρ:Rho} {S:Sto} {Q:D->Sto->Prop}:Ok (xN x y ρ S) Q=Ok (x ρ S) fun d S1=>∃ b,d = .bl b/\if b=true then Ok (y ρ S1) Q else Q (.bl false) S1:=by
 unfold xN
 rw [bB]
 congr 1
 funext d S1
 apply propext
 cases d with
 | bl b=>cases b <;> simp [ao]
 | _=>simp [aZ]
theorem JG {x y:XE} {ρ:Rho} {S:Sto} {Q:D->Sto->Prop}:Ok (xOr x y ρ S) Q=Ok (x ρ S) fun d S1=>∃ b,d = .bl b/\if b=true then Q (.bl true) S1 else Ok (y ρ S1) Q:=by
 unfold xOr
 rw [bB]
 congr 1
 funext d S1
 apply propext
 cases d with
 | bl b=>cases b <;> simp [ao]
 | _=>simp [aZ]
theorem FS {d:D} {S:Sto} {Q:D->Sto->Prop}:Ok (uZ d S) Q=∃ b,d = .bl b/\Q (.bl (!b)) S:=by
 apply propext
 cases d with
 | bl b=>simp [uZ,ao]
 | _=>simp [uZ,aZ]
theorem FT {f g:D->D->Sto->Option (D × Sto)} {x y z:XE} {ρ:Rho} {S:Sto} {Q:D->Sto->Prop}:Ok (ve f g x y z ρ S) Q=Ok (x ρ S) fun a S1=>Ok (y ρ S1) fun b S2=>Ok (f a b S2) fun r S3=>∃ c,r = .bl c/\if c=true then Ok (z ρ S3) fun e S4=>Ok (g b e S4) Q else Q (.bl false) S3:=by
 unfold ve
 rw [bB]
 congr 1
 funext a S1
 rw [bB]
 congr 1
 funext b S2
 rw [bB]
 congr 1
 funext r S3
 apply propext
 cases r with
 | bl c=>cases c <;> simp [ao,bB]
 | _=>simp [aZ]
theorem FV {i:Nat} {ρ:Rho} {S:Sto} {Q:D->Sto->Prop}:Ok (uH i ρ S) Q=∃ d,ρ[i]?=some (some d)/\Q d S:=by
 apply propext
 unfold uH
 cases h:ρ[i]? with
 | none=>simp [aZ]
 | some o=>cases o with
  | none=>simp [aZ]
  | some d=>simp [ao]
theorem JH {i j:Int} {S:Sto} {Q:D->Sto->Prop}:Ok (ay .le (.int i) (.int j) S) Q=Q (.bl (decide (i<=j))) S:=ao
theorem JI {i j:Int} {S:Sto} {Q:D->Sto->Prop}:Ok (ay .lt (.int i) (.int j) S) Q=Q (.bl (decide (i < j))) S:=ao
theorem JJ {i j:Int} {S:Sto} {Q:D->Sto->Prop}:Ok (ay .gt (.int i) (.int j) S) Q=Q (.bl (decide (j < i))) S:=ao
theorem JK {i j:Int} {S:Sto} {Q:D->Sto->Prop}:Ok (ay .ge (.int i) (.int j) S) Q=Q (.bl (decide (j<=i))) S:=ao
theorem FW {i j:Int} {S:Sto} {Q:D->Sto->Prop}:Ok (bI .add (.int i) (.int j) S) Q=Q (.int (i+j)) S:=ao
theorem FX {i j:Int} {S:Sto} {Q:D->Sto->Prop}:Ok (bI .sub (.int i) (.int j) S) Q=Q (.int (i - j)) S:=ao
theorem JL {x:XE} {ρ:Rho} {S:Sto} {Q:Bool->Sto->Prop}:Ok (xB x ρ S) Q=Ok (x ρ S) fun d S1=>∃ b,d = .bl b/\Q b S1:=by
 unfold xB
 rw [bB]
 congr 1
 funext d S1
 apply propext
 cases d with
 | bl b=>simp [ao]
 | _=>simp [aZ]
theorem Bh {own k:Nat} {it:XI} {tg:Tg} {c:XA} {ρ:Rho} {S:Sto} {Q:List D->Sto->Prop}:Ok (kE own it tg c k ρ S) Q=Ok (it ρ S) fun nx S1=>cY tg (ρ++List.replicate own none)=true/\Ok (bj nx tg c (ρ++List.replicate own none) k 0 S1) fun es S2=>es.length<=100000/\Q es S2:=by
 unfold kE
 rw [bB]
 congr 1
 funext nx S1
 rw [cT,aZ]
 apply propext
 have e:Ok (bnd (bj nx tg c (ρ++List.replicate own none) k 0 S1) fun es S2=>if es.length<=100000 then some (es,S2) else none) Q=Ok (bj nx tg c (ρ++List.replicate own none) k 0 S1) fun es S2=>es.length<=100000/\Q es S2:=by
  rw [bB]
  congr 1
  funext es S2
  rw [cT,aZ,ao]
  apply propext
  split
  ·rename_i h;exact ⟨fun z=>⟨h,z⟩,fun z=>z.2⟩
  ·rename_i h;exact ⟨fun z=>z.elim,fun z=>(h z.1).elim⟩
 rw [e]
 split
 ·rename_i h;exact ⟨fun z=>⟨h,z⟩,fun z=>z.2⟩
 ·rename_i h;exact ⟨fun z=>z.elim,fun z=>(h z.1).elim⟩
theorem yr {k:Nat} {it:XI} {tg:Tg} {c:XA} {ρ:Rho} {S:Sto} {Q:List D->Sto->Prop}:Ok (iX it tg c k ρ S) Q=(cY tg ρ=true/\Ok (it ρ S) fun nx S1=>Ok (bj nx tg c ρ k 0 S1) Q):=by
 unfold iX
 rw [cT,aZ,bB]
 apply propext
 split
 ·rename_i h;exact ⟨fun z=>⟨h,z⟩,fun z=>z.2⟩
 ·rename_i h;exact ⟨fun z=>z.elim,fun z=>(h z.1).elim⟩
theorem Bi {x:XA} {ρ:Rho} {S:Sto} {Q:List D->Sto->Prop}:Ok (mv x ρ S) Q=Ok (x ρ S) fun ds S1=>ds.length<=1000/\Q ds S1:=by
 unfold mv
 rw [bB]
 congr 1
 funext ds S1
 rw [cT,aZ,ao]
 apply propext
 split
 ·rename_i h;exact ⟨fun z=>⟨h,z⟩,fun z=>z.2⟩
 ·rename_i h;exact ⟨fun z=>z.elim,fun z=>(h z.1).elim⟩
theorem Bj {ds:List D} {S:Sto} {Q:D->Sto->Prop}:Ok (jK ds S) Q=(ds.length<=1000/\Q (.tup ds) S):=by
 unfold jK
 rw [cT,aZ,ao]
 apply propext
 split
 ·rename_i h;exact ⟨fun z=>⟨h,z⟩,fun z=>z.2⟩
 ·rename_i h;exact ⟨fun z=>z.elim,fun z=>(h z.1).elim⟩
theorem cf {α:Type} (l:List α) (g:α->Bool) (S:Sto):lU false (l.map fun t=>D.bl (g t)) S=some (.bl (l.all g),S):=by
 unfold lU
 have h1:(l.map fun t=>D.bl (g t)).all xj=true:=by rw [List.all_map];simp [Function.comp_def,xj]
 have h2:(l.map fun t=>D.bl (g t)).all uN=l.all g:=by rw [List.all_map];rfl
 rw [if_pos ⟨rfl,h1⟩,h2]
theorem eN {p:Nat} {S:Sto} {ts:List Dw.D} {ds:List D} {tg:Tg} {c:XA} {ρ:Rho} {Q:List D->Sto->Prop} (h:TDs p S ts ds) (hl:ts.length<=100000) (g:Dw.D->Bool)
  (step:∀ (i:Nat) t d S',ts[i]?=some t->Sm S S'->TD p S' t d->∃ ρ1,ax tg d ρ=some ρ1/\Ok (c ρ1 S') fun es S1=>es=[.bl (g t)]/\Sm S' S1) (q:∀ S',Sm S S'->Q (ts.map fun t=>.bl (g t)) S') :
  Ok (bj (nxL ds) tg c ρ LF 0 S) fun es S2=>es.length<=100000/\Q es S2:=by
 refine (cU ts.length (fun i acc S'=>Sm S S'/\acc=(ts.take i).map fun t=>.bl (g t)) (by unfold LF;omega) (fun i acc S' hi ⟨sm,ea⟩=>?_) (fun acc S' ⟨sm,ea⟩=>?_) ⟨Sm.refl S,by simp⟩).mono fun es S' ⟨sm,ea⟩=>?_
 ·obtain ⟨d,e1,td⟩:=h.get (gEG hi)
  obtain ⟨ρ1,e2,es,S1,e3,rfl,sm'⟩:=step i ts[i] d S' (gEG hi) sm (td.keep sm.kp)
  refine ⟨d,ρ1,by show some ds[i]?=_;rw [e1],e2,_,S1,e3,sm.trans sm',?_⟩
  rw [ea,List.take_succ_eq_append_getElem hi,List.map_append];rfl
 ·show some ds[ts.length]?=_
  rw [List.getElem?_eq_none (by rw [h.len];omega)]
 ·rw [List.take_length] at ea
  subst ea
  exact ⟨by rw [List.length_map];exact hl,q S' sm⟩
theorem Bk {S:Sto} {n:Nat} {lo:Int} {tg:Tg} {c:XA} {ρ:Rho} {Q:List D->Sto->Prop} (hl:n<=100000) (g:Nat->Bool)
  (step:∀ (i:Nat) S',i < n->Sm S S'->∃ ρ1,ax tg (.int (lo+i)) ρ=some ρ1/\Ok (c ρ1 S') fun es S1=>es=[.bl (g i)]/\Sm S' S1) (q:∀ S',Sm S S'->Q ((List.range n).map fun i=>.bl (g i)) S') :
  Ok (bj (nxR lo n) tg c ρ LF 0 S) fun es S2=>es.length<=100000/\Q es S2:=by
 refine (cU n (fun i acc S'=>Sm S S'/\acc=(List.range i).map fun t=>.bl (g t)) (by unfold LF;omega) (fun i acc S' hi ⟨sm,ea⟩=>?_) (fun acc S' ⟨sm,ea⟩=>?_) ⟨Sm.refl S,by simp⟩).mono fun es S' ⟨sm,ea⟩=>?_
 ·obtain ⟨ρ1,e2,es,S1,e3,rfl,sm'⟩:=step i S' hi sm
  refine ⟨_,ρ1,by show some (if i < n then some (D.int (lo+i)) else none)=_;rw [if_pos hi],e2,_,S1,e3,sm.trans sm',?_⟩
  rw [ea,List.range_succ,List.map_append];rfl
 ·show some (if n < n then some (D.int (lo+n)) else none)=_
  rw [if_neg (Nat.lt_irrefl n)]
 ·subst ea
  exact ⟨by rw [List.length_map,List.length_range];exact hl,q S' sm⟩
theorem Bl {p:Nat} {S:Sto} {ts:List Dw.D} {ds:List D} {tg:Tg} {c:XA} {ρ:Rho} {Q:List D->Sto->Prop} (h:TDs p S ts ds) (hl:ts.length<=100000) (g:Nat->Bool)
  (step:∀ (i:Nat) t d S',ts[i]?=some t->Sm S S'->TD p S' t d->∃ ρ1,ax tg (.tup [.int i,d]) ρ=some ρ1/\Ok (c ρ1 S') fun es S1=>es=[.bl (g i)]/\Sm S' S1) (q:∀ S',Sm S S'->Q ((List.range ts.length).map fun i=>.bl (g i)) S') :
  Ok (bj (pC ds) tg c ρ LF 0 S) fun es S2=>es.length<=100000/\Q es S2:=by
 refine (cU ts.length (fun i acc S'=>Sm S S'/\acc=(List.range i).map fun t=>.bl (g t)) (by unfold LF;omega) (fun i acc S' hi ⟨sm,ea⟩=>?_) (fun acc S' ⟨sm,ea⟩=>?_) ⟨Sm.refl S,by simp⟩).mono fun es S' ⟨sm,ea⟩=>?_
 ·obtain ⟨d,e1,td⟩:=h.get (gEG hi)
  obtain ⟨ρ1,e2,es,S1,e3,rfl,sm'⟩:=step i ts[i] d S' (gEG hi) sm (td.keep sm.kp)
  refine ⟨.tup [.int i,d],ρ1,?_,e2,_,S1,e3,sm.trans sm',?_⟩
  ·show enm ds i=_
   unfold enm
   rw [if_pos (by rw [h.len];omega),e1];rfl
  ·rw [ea,List.range_succ,List.map_append];rfl
 ·show enm ds ts.length=_
  unfold enm
  rw [if_pos (by rw [h.len];omega),List.getElem?_eq_none (by rw [h.len];omega)];rfl
 ·subst ea
  exact ⟨by rw [List.length_map,List.length_range];exact hl,q S' sm⟩
theorem rN {S:Sto} {m n:Nat} {tg:Tg} {c:XA} {ρ:Rho} (hm:S[m]?=some (.lst ((List.range n).map fun j=>.int (Int.ofNat j)))) (hn:n<=1000) (f:Nat->List D)
  (step:∀ (i:Nat) S',i < n->Sm S S'->∃ ρ1,ax tg (.int i) ρ=some ρ1/\Ok (c ρ1 S') fun es S1=>es=f i/\Sm S' S1):Ok (bj (nxS m) tg c ρ LF 0 S) fun es S2=>es=(List.range n).flatMap f/\Sm S S2:=by
 refine (cU n (fun i acc S'=>Sm S S'/\acc=(List.range i).flatMap f) (by unfold LF;omega) (fun i acc S' hi ⟨sm,ea⟩=>?_) (fun acc S' ⟨sm,ea⟩=>?_) ⟨Sm.refl S,by simp⟩).mono fun es S' ⟨sm,ea⟩=>⟨ea,sm⟩
 ·obtain ⟨ρ1,e2,es,S1,e3,rfl,sm'⟩:=step i S' hi sm
  refine ⟨.int i,ρ1,?_,e2,_,S1,e3,sm.trans sm',?_⟩
  ·show (au S' m).map (fun ds=>ds[i]?)=_
   simp only [au,sm _ _ hm,Option.map_some,List.getElem?_map,List.getElem?_range hi];rfl
  ·rw [ea,Dw.mj]
 ·show (au S' m).map (fun ds=>ds[n]?)=_
  simp only [au,sm _ _ hm,Option.map_some]
  rw [List.getElem?_eq_none (by simp)]
theorem yt {x:XA} {ρ:Rho} {S:Sto} {Q:D->Sto->Prop}:Ok (dW x ρ S) Q=Ok (x ρ S) fun ds S1=>Q (.ref S1.length) (S1++[.lst ds]):=by
 unfold dW
 rw [bB]
 congr 1
 funext ds S1
 rw [ao]
theorem FY {x:XE} {ρ:Rho} {S:Sto} {Q:List D->Sto->Prop} (h:Ok (x ρ S) fun d S1=>∃ i:Nat,d = .int i/\i<=1000/\Q ((List.range i).map fun j=>.int (Int.ofNat j)) S1):Ok (vh x ρ S) Q:=by
 unfold vh
 rw [bB]
 refine h.mono fun d S1 ⟨i,e,hi,q⟩=>?_
 subst e
 dsimp only
 rw [if_pos (by omega),ao,Int.toNat_natCast]
 exact q
theorem nZ {p:Nat} {S:Sto} {a b:Int}:∀ {fs:List Dw.D} {ds:List D},fs.all (fun e=>Dw.az e a b)=true->TDs p S fs ds->ds=(Dw.bv fs).map D.int
 | [],ds,_,h=>by rw [h.nil];rfl
 | t::fs,ds,hw,h=>by
  obtain ⟨d,r,rfl,h1,h2⟩:=h.cons
  rw [List.all_cons,bAE] at hw
  obtain ⟨i,rfl,_⟩:=Dw.aA hw.1
  rw [h1.int,nZ hw.2 h2]
  rfl
theorem pX (is:List Int):(is.map D.int).all cj=true:=by rw [List.all_map];simp [Function.comp_def,cj]
theorem yu (is:List Int) (i:Int) (S:Sto):rB (.tup (is.map D.int)) [.int i] S=some (.int (is.count i:Nat),S):=by
 have e:((is.map D.int).countP fun z=>eqF z (.int i))=is.count i:=by
  rw [List.countP_map]
  unfold List.count
  congr 1
 simp only [rB]
 rw [if_pos ⟨rfl,pX is⟩,e]
theorem tQ (neg:Bool) (is:List Int) (i:Int) (S:Sto):inS neg (.int i) (.tup (is.map D.int)) S=some (.bl (neg != decide (i ∈ is)),S):=by
 have e:inF (.int i) (is.map D.int)=decide (i ∈ is):=by
  unfold inF
  rw [List.any_map,Bool.eq_iff_iff,List.any_eq_true]
  simp only [Function.comp_def,eqF,beq_iff_eq,decide_eq_true_eq]
  exact ⟨fun ⟨x,hx,e⟩=>e ▸ hx,fun h=>⟨i,h,rfl⟩⟩
 simp only [inS,aq]
 rw [if_pos ⟨rfl,pX is⟩,e]
theorem Bm (i j:Int) (S:Sto):ay .eq (.int i) (.int j) S=some (.bl (decide (i=j)),S):=by
 simp only [ay,eqS]
 have:eqD 60 S (.int i) (.int j)=some (i == j):=rfl
 rw [this]
 rfl
theorem Bn (i j:Int) (S:Sto):ay .ne (.int i) (.int j) S=some (.bl (!decide (i=j)),S):=by
 simp only [ay,neS]
 have:eqD 60 S (.int i) (.int j)=some (i == j):=rfl
 rw [this]
 rfl
theorem FZ {i j:Int} {S:Sto} {Q:D->Sto->Prop}:Ok (ay .eq (.int i) (.int j) S) Q=Q (.bl (decide (i=j))) S:=by rw [Bm,ao]
theorem F0 {i j:Int} {S:Sto} {Q:D->Sto->Prop}:Ok (ay .ne (.int i) (.int j) S) Q=Q (.bl (!decide (i=j))) S:=by rw [Bn,ao]
noncomputable def F1:Dw.D->Bool
 | .non=>true
 | _=>false
theorem F2 {p:Nat} {S:Sto} {t:Dw.D} {d:D} (h:TD p S t d):o9 d=F1 t:=by
 cases t with
 | non=>rw [h.non];rfl
 | bl _=>rw [h.bl];rfl
 | int _=>rw [h.int];rfl
 | str _=>rw [h.str];rfl
 | tup _=>obtain ⟨_,rfl,_⟩:=h.tup;rfl
 | lst _=>rw [TD] at h;obtain ⟨n,ds,rfl,_⟩:=h;rfl
 | dic _ _=>rw [TD] at h;obtain ⟨n,ds,rfl,_⟩:=h;rfl
theorem JM {p:Nat} {S:Sto} {t:Dw.D} {d:D} (h:TD p S t d):ay .is d .non S=some (.bl (F1 t),S):=by
 rw [<-F2 h]
 simp only [ay]
 have:isB false d .non S=some (.bl (false != o9 d),S):=by cases d <;> rfl
 rw [this]
 cases o9 d <;> rfl
theorem Bo {i:Nat} {d:D} {ρ:Rho}:ax (.name i) d ρ=if i < ρ.length then some (ρ.set i (some d)) else none:=by simp only [ax]
theorem yv {ts:List Tg} {ds:List D} {ρ:Rho}:ax (.tup ts) (.tup ds) ρ=aK ts ds ρ:=by simp only [ax]
theorem tR {ρ:Rho}:aK [] [] ρ=some ρ:=by simp only [aK]
theorem pY {i:Nat} {ts:List Tg} {d:D} {ds:List D} {ρ:Rho}:aK (.name i::ts) (d::ds) ρ=if i < ρ.length then aK ts ds (ρ.set i (some d)) else none:=by
 simp only [aK,ax]
 split
 ·rename_i ρ' h
  split at h
  ·rename_i hc;cases h;rw [if_pos hc]
  ·cases h
 ·rename_i h
  split at h
  ·cases h
  ·rename_i hc;rw [if_neg hc]
theorem fG {i j:Nat} {a b:D} {ρ:Rho} (h1:i < ρ.length) (h2:j < ρ.length):ax (.tup [.name i,.name j]) (.tup [a,b]) ρ=some ((ρ.set i (some a)).set j (some b)):=by
 rw [yv,pY,if_pos h1,pY,if_pos (by rw [List.length_set];exact h2),tR]
theorem aO {S:Sto} {a:Nat} {es:List D} (h:S[a]?=some (.lst es)):au S a=some es:=by simp only [au,h]
theorem Bp {S:Sto} {a b n:Nat} {es:List D} (h1:S[a]?=some (.lst es)) (h2:S[b]?=some (.lst [])) (hn:a ≠ b):eqD (n+1) S (.ref a) (.ref b)=some es.isEmpty:=by
 show (match au S a,au S b with | some xs,some ys=>if a=b then some true else if xs.length=ys.length then eqL (eqD n S) xs ys else some false | _,_=>none)=_
 rw [aO h1,aO h2]
 show (if a=b then some true else if es.length=([]:List D).length then eqL (eqD n S) es [] else some false)=_
 rw [if_neg hn]
 cases es with
 | nil=>simp [eqL]
 | cons x xs=>simp
theorem F3 {S:Sto} {a b:Nat} {es:List D} (h1:S[a]?=some (.lst es)) (h2:S[b]?=some (.lst [])) (hn:a ≠ b):ay .ne (.ref a) (.ref b) S=some (.bl (!es.isEmpty),S):=by
 simp only [ay,neS,Bp h1 h2 hn,Option.map_some]
theorem ib (ds:List D) (k:Nat) (hk:k<=ds.length):cC ds none (some (k:Int))=ds.take k:=by
 unfold cC
 rw [Dw.qK _ _ (by omega),Int.toNat_natCast,Nat.min_eq_left hk]
 rfl
theorem jc {p:Nat} {S:Sto} {ts:List Dw.D} {ds:List D} (h:TDs p S ts ds):ag bG (.tup ds) S=some (.int ts.length,S):=by
 simp only [ag,aq,bG,h.len]
theorem bL {p:Nat} {S:Sto} {ts:List Dw.D} {ds:List D} {i:Nat} {t:Dw.D} {Q:D->Sto->Prop} (h:TDs p S ts ds) (e:ts[i]?=some t) (q:∀ d,TD p S t d->Q d S):Ok (ixS (.tup ds) (.int i) S) Q:=by
 obtain ⟨d,e1,td⟩:=h.get e
 have hi:=(List.getElem?_eq_some_iff.mp e1).1
 have ea:atI ds (i:Int)=some d:=by
  unfold atI ixN
  rw [if_pos (by omega),if_pos (by omega),Int.toNat_natCast]
  exact e1
 simp only [ixS,aq,ea,Option.map_some]
 rw [ao]
 exact q d td
end Ev
namespace Ev
open PySem PySem.Spec PyProof.Rows L2
section
variable {S S' S1 S2:Sto} {p:Nat} {Q:D->Sto->Prop} {ρ:Rho}
theorem F4 {i j:Int}:Ok (bI .mod (.int i) (.int j) S) Q=(0 < j/\Q (.int (i % j)) S):=by
 simp only [bI,EL,cT,ao,aZ]
 apply propext
 split
 ·rename_i h;exact ⟨fun z=>⟨h,z⟩,fun z=>z.2⟩
 ·rename_i h;exact ⟨fun z=>z.elim,fun z=>(h z.1).elim⟩
theorem Bq {i j:Int}:Ok (bI .fdiv (.int i) (.int j) S) Q=((0 < j/\j < 1073741824)/\Q (.int (i / j)) S):=by
 simp only [bI,xf,cT,ao,aZ]
 apply propext
 split
 ·rename_i h;exact ⟨fun z=>⟨h,z⟩,fun z=>z.2⟩
 ·rename_i h;exact ⟨fun z=>z.elim,fun z=>(h z.1).elim⟩
theorem F5 {i j:Int}:Ok (bI .mul (.int i) (.int j) S) Q=(ig i j=true/\Q (.int (i * j)) S):=by
 simp only [bI,uJ,cT,ao,aZ]
 apply propext
 split
 ·rename_i h;exact ⟨fun z=>⟨h,z⟩,fun z=>z.2⟩
 ·rename_i h;exact ⟨fun z=>z.elim,fun z=>(h z.1).elim⟩
theorem F6 {i j:Int}:Ok (bI .pow (.int i) (.int j) S) Q=((0<=j/\j<=1000000/\i.natAbs < 2 ^ 64)/\Q (.int (i ^ j.toNat)) S):=by
 simp only [bI,EM,cT,ao,aZ]
 apply propext
 split
 ·rename_i h;exact ⟨fun z=>⟨h,z⟩,fun z=>z.2⟩
 ·rename_i h;exact ⟨fun z=>z.elim,fun z=>(h z.1).elim⟩
theorem tS {i j:Int} (h1:-(2 ^ 64) < j) (h2:j < 2 ^ 64):ig i j=true:=by simp only [ig,Bool.or_eq_true,bAE,decide_eq_true_eq];exact .inr ⟨h1,h2⟩
theorem n4 {i j:Int} (h1:-(2 ^ 64) < i) (h2:i < 2 ^ 64):ig i j=true:=by simp only [ig,Bool.or_eq_true,bAE,decide_eq_true_eq];exact .inl ⟨h1,h2⟩
noncomputable def Pot (p:Nat) (S:Sto):Prop:=∃ n:Int,S[p]?=some (.lst [.int n])
structure Dr (p:Nat) (S S':Sto):Prop where
 kp:Kp p S S'
 pot:Pot p S'
theorem Dr.refl (h:Pot p S):Dr p S S:=⟨Kp.refl p S,h⟩
theorem Dr.trans (a:Dr p S S1) (b:Dr p S1 S2):Dr p S S2:=⟨a.kp.trans b.kp,b.pot⟩
theorem Dr.sm (h:Pot p S) (s:Sm S S'):Dr p S S':=⟨s.kp,let ⟨n,e⟩:=h;⟨n,s _ _ e⟩⟩
theorem Dr.thenSm (a:Dr p S S1) (s:Sm S1 S2):Dr p S S2:=a.trans (Dr.sm a.pot s)
theorem Pot.lt (h:Pot p S):p < S.length:=let ⟨_,e⟩:=h;(List.getElem?_eq_some_iff.mp e).1
theorem F7 {o:Ob}:Kp p S (S.set p o):=fun i u n e=>by rw [List.getElem?_set_ne (Ne.symm n)];exact e
theorem eO {o:Ob} (h:p < S.length):(S.set p o)[p]?=some o:=by rw [List.getElem?_set_self h]
theorem jD {n:Nat} {lo:Int} {tg:Tg} {b:XS} {Q:Fl->Rho->Sto->Prop} (hl:n<=100000) (I:Nat->Rho->Sto->Prop)
  (step:∀ (i:Nat) ρ S,i < n->I i ρ S->∃ ρ1,ax tg (.int (lo+i)) ρ=some ρ1/\OkS (b ρ1 S) fun fl ρ2 S2=>match fl with | .nx=>I (i+1) ρ2 S2 | .ct=>I (i+1) ρ2 S2 | .bk=>Q .nx ρ2 S2 | .rt d=>Q (.rt d) ρ2 S2)
  (q:∀ ρ S',I n ρ S'->Q .nx ρ S') (h0:I 0 ρ S):OkS (dZ (nxR lo n) tg b LF 0 ρ S) Q:=by
 refine jV n I (by unfold LF;omega) (fun i ρ S' hi iv=>?_) (fun ρ S' iv=>⟨?_,q ρ S' iv⟩) h0
 ·obtain ⟨ρ1,e2,z⟩:=step i ρ S' hi iv
  exact ⟨_,ρ1,by show some (if i < n then some (D.int (lo+i)) else none)=_;rw [if_pos hi],e2,z⟩
 ·show some (if n < n then some (D.int (lo+n)) else none)=_
  rw [if_neg (Nat.lt_irrefl n)]
theorem n5 {n:Nat} {lo:Int} {tg:Tg} {c:XA} {Q:List D->Sto->Prop} (hl:n<=100000) (I:Nat->List D->Sto->Prop)
  (step:∀ (i:Nat) acc S',i < n->I i acc S'->∃ ρ1,ax tg (.int (lo+i)) ρ=some ρ1/\Ok (c ρ1 S') fun es S1=>I (i+1) (acc++es) S1) (q:∀ es S',I n es S'->es.length<=100000/\Q es S') (h0:I 0 [] S) :
  Ok (bj (nxR lo n) tg c ρ LF 0 S) fun es S2=>es.length<=100000/\Q es S2:=by
 refine (cU n I (by unfold LF;omega) (fun i acc S' hi iv=>?_) (fun acc S' iv=>?_) h0).mono q
 ·obtain ⟨ρ1,e2,z⟩:=step i acc S' hi iv
  exact ⟨_,ρ1,by show some (if i < n then some (D.int (lo+i)) else none)=_;rw [if_pos hi],e2,z⟩
 ·show some (if n < n then some (D.int (lo+n)) else none)=_
  rw [if_neg (Nat.lt_irrefl n)]
theorem F8 {x:XA} {y:XE}:Ok (qT x y ρ S) Q=Ok (x ρ S) fun ds S1=>Ok (y ρ S1) fun i S2=>∃ k,i = .int k/\∃ d,atI ds k=some d/\Q d S2:=by
 unfold qT
 rw [bB]
 congr 1
 funext ds S1
 rw [bB]
 congr 1
 funext i S2
 apply propext
 cases i with
 | int k=>simp [FM]
 | _=>simp [aZ]
theorem F9 {ds:List D} {i:Int} (h0:0<=i) (h1:i < ds.length):∃ d,atI ds i=some d/\ds[i.toNat]?=some d:=by
 have hi:i.toNat < ds.length:=by omega
 refine ⟨ds[i.toNat],?_,gEG hi⟩
 unfold atI ixN
 rw [if_pos h0,if_pos (by omega)]
 exact gEG hi
theorem yw {nx:Nxt} {tg:Tg} {c:XA} {Q:List D->Sto->Prop} (n:Nat) (el:Nat->D) (I:Nat->List D->Sto->Prop) (hnx:∀ i acc S',i<=n->I i acc S'->nx i S'=some (if i < n then some (el i) else none)) (hl:n<=100000)
  (step:∀ (i:Nat) acc S',i < n->I i acc S'->∃ ρ1,ax tg (el i) ρ=some ρ1/\Ok (c ρ1 S') fun es S1=>I (i+1) (acc++es) S1) (q:∀ es S',I n es S'->es.length<=100000/\Q es S') (h0:I 0 [] S) :
  Ok (bj nx tg c ρ LF 0 S) fun es S2=>es.length<=100000/\Q es S2:=by
 refine (cU n I (by unfold LF;omega) (fun i acc S' hi iv=>?_) (fun acc S' iv=>?_) h0).mono q
 ·obtain ⟨ρ1,e2,z⟩:=step i acc S' hi iv
  exact ⟨_,ρ1,by rw [hnx i acc S' (by omega) iv,if_pos hi],e2,z⟩
 ·rw [hnx n acc S' (Nat.le_refl _) iv,if_neg (Nat.lt_irrefl n)]
theorem yx {m i:Nat} {ds:List D} (h:S[m]?=some (.lst ds)) (el:Nat->D) (he:∀ i d,ds[i]?=some d->el i=d):nxS m i S=some (if i < ds.length then some (el i) else none):=by
 show (au S m).map (fun ds=>ds[i]?)=_
 rw [aO h,Option.map_some]
 split
 ·rename_i hi;rw [gEG hi,he i _ (gEG hi)]
 ·rename_i hi;rw [List.getElem?_eq_none (by omega)]
structure RowsS (p:Nat) (S:Sto) (rs:List D) (M:List (List Int)):Prop where
 len:rs.length=M.length
 row:∀ (i:Nat) r,M[i]?=some r->∃ a,rs[i]?=some (.ref a)/\a ≠ p/\S[a]?=some (.lst (r.map D.int))
theorem RowsS.keep {rs:List D} {M:List (List Int)} (h:RowsS p S rs M) (k:Kp p S S'):RowsS p S' rs M:=⟨h.len,fun i r hr=>let ⟨a,e,n,z⟩:=h.row i r hr;⟨a,e,n,k _ _ n z⟩⟩
theorem RowsS.nil:RowsS p S [] []:=⟨rfl,fun i r h=>by simp at h⟩
theorem RowsS.snoc {rs:List D} {M:List (List Int)} {a:Nat} {r:List Int} (h:RowsS p S rs M) (n:a ≠ p) (z:S[a]?=some (.lst (r.map D.int))):RowsS p S (rs++[.ref a]) (M++[r]):=by
 refine ⟨by simp [h.len],fun i r' hr=>?_⟩
 by_cases hi:i < M.length
 ·rw [List.getElem?_append_left hi] at hr
  obtain ⟨b,e,nb,zb⟩:=h.row i r' hr
  exact ⟨b,by rw [List.getElem?_append_left (by rw [h.len];exact hi)];exact e,nb,zb⟩
 ·rw [List.getElem?_append_right (by omega)] at hr
  have hz:i - M.length=0:=by
   have:=(List.getElem?_eq_some_iff.mp hr).1
   simp at this;omega
  rw [hz] at hr
  cases hr
  exact ⟨a,by rw [List.getElem?_append_right (by rw [h.len];omega),h.len,hz];rfl,n,z⟩
theorem aI {o:Ob}:(S++[o])[S.length]?=some o:=by rw [List.getElem?_append_right (Nat.le_refl _),Nat.sub_self];rfl
theorem Kp.setNew {f:Nat} {o:Ob} (h:Kp p S S') (hf:S.length<=f):Kp p S (S'.set f o):=fun i u n e=>by
 have hi:=(List.getElem?_eq_some_iff.mp e).1
 rw [List.getElem?_set_ne (by omega)]
 exact h i u n e
theorem Pot.setNe {f:Nat} {o:Ob} (h:Pot p S) (hf:f ≠ p):Pot p (S.set f o):=by
 obtain ⟨n,e⟩:=h
 exact ⟨n,by rw [List.getElem?_set_ne hf];exact e⟩
noncomputable def ae (q:Int × Int):D:=.tup [.int q.1,.int q.2]
theorem lx:∀ (es:List (Int × Int)),TDs p S (es.map Dw.ci) (es.map ae)
 | []=>ce
 | e::es=>aH (cx (aH fF (aH fF ce))) (lx es)
theorem ly {f:Nat} {ds:List D} {e:D} (h:S[f]?=some (.lst ds)) (hl:ds.length < 100000):Ok (pA (.ref f) [e] S) Q=Q .non (S.set f (.lst (ds++[e]))):=by
 simp only [pA,chg,h]
 rw [if_pos hl]
 exact ao
theorem dP {f:Nat} {ds:List D} (h:S[f]?=some (.lst ds)):fm (.ref f) S=true:=by simp only [fm,aO h];rfl
theorem n6 {f:Nat} {ds:List D} {e:D} (h:S[f]?=some (.lst (ds++[e]))):ixS (.ref f) (.int (-1)) S=some (e,S):=by
 have:atI (ds++[e]) (-1:Int)=some e:=by
  unfold atI ixN
  rw [if_neg (by decide),if_pos (by rw [List.length_append,List.length_singleton];omega)]
  show (ds++[e])[((-1:Int)+((ds++[e]).length:Int)).toNat]?=some e
  have:((-1:Int)+((ds++[e]).length:Int)).toNat=ds.length:=by rw [List.length_append,List.length_singleton];omega
  rw [this,List.getElem?_append_right (Nat.le_refl _),Nat.sub_self];rfl
 simp only [ixS,aq,aO h,Option.map_some,this]
theorem wm {ds:List D} {i:Nat} {d:D} (h:ds[i]?=some d):ixS (.tup ds) (.int i) S=some (d,S):=by
 have hi:=(List.getElem?_eq_some_iff.mp h).1
 have ea:atI ds (i:Int)=some d:=by
  unfold atI ixN
  rw [if_pos (by omega),if_pos (by omega),Int.toNat_natCast]
  exact h
 simp only [ixS,aq,ea,Option.map_some]
theorem sH {ds:List D} {i:Nat} {d:D} (h:ds[i]?=some d):atI ds (i:Int)=some d:=by
 have hi:=(List.getElem?_eq_some_iff.mp h).1
 unfold atI ixN
 rw [if_pos (by omega),if_pos (by omega),Int.toNat_natCast]
 exact h
theorem Ga {n:Nat} {ts:List Dw.D} {ds:List D} (hn:n ≠ p) (h:S[n]?=some (.lst ds)) (q:TDs p S ts ds):TD p S (.lst ts) (.ref n):=by rw [TD];exact ⟨n,ds,rfl,hn,h,q⟩
theorem tU {ds:List D}:ay .eq (.tup ds) (.tup []) S=some (.bl ds.isEmpty,S):=by
 simp only [ay,eqS]
 have:eqD 60 S (.tup ds) (.tup [])=some ds.isEmpty:=by
  cases ds <;> rfl
 rw [this];rfl
theorem Bs {ds:List D}:ay .ne (.tup ds) (.tup []) S=some (.bl (!ds.isEmpty),S):=by
 simp only [ay,neS]
 have:eqD 60 S (.tup ds) (.tup [])=some ds.isEmpty:=by
  cases ds <;> rfl
 rw [this];rfl
theorem Gb {xs ys:List D}:Ok (bI .add (.tup xs) (.tup ys) S) Q=(xs.length+ys.length<=1000/\Q (.tup (xs++ys)) S):=by
 simp only [bI,jL,cT,ao,aZ]
 apply propext
 split
 ·rename_i h;exact ⟨fun z=>⟨h,z⟩,fun z=>z.2⟩
 ·rename_i h;exact ⟨fun z=>z.elim,fun z=>(h z.1).elim⟩
end
end Ev
namespace Ev
open PySem PySem.Spec PyProof.Rows L2
noncomputable abbrev WP (α:Type):=Rho->Sto->(α->Sto->Prop)->Prop
noncomputable def Sd {α:Type} (w:WP α) (x:Rho->Sto->Option (α × Sto)):Prop:=∀ ρ S Q,w ρ S Q->Ok (x ρ S) Q
theorem bf {α β:Type} {x:Option (α × Sto)} {f:α->Sto->Option (β × Sto)} {Q:β->Sto->Prop} (h:Ok x fun a S=>Ok (f a S) Q):Ok (bnd x f) Q:=bB ▸ h
theorem bC {α:Type} {a:α} {S:Sto} {Q:α->Sto->Prop} (h:Q a S):Ok (some (a,S)) Q:=⟨_,_,rfl,h⟩
noncomputable def wIf (b:Bool) (A B:Prop):Prop:=match b with
 | true=>A
 | false=>B
noncomputable def wBl (d:D) (Q:Bool->Prop):Prop:=match d with
 | .bl b=>Q b
 | .non=>False | .int _=>False | .str _=>False | .tup _=>False | .ref _=>False
noncomputable def cV (d:D) (Q:Int->Prop):Prop:=match d with
 | .int i=>Q i
 | .non=>False | .bl _=>False | .str _=>False | .tup _=>False | .ref _=>False
theorem lA {d:D} {Q:Bool->Prop} (h:wBl d Q):∃ b,d = .bl b/\Q b:=by cases d <;> first | exact h.elim | exact ⟨_,rfl,h⟩
theorem cg {d:D} {Q:Int->Prop} (h:cV d Q):∃ b,d = .int b/\Q b:=by cases d <;> first | exact h.elim | exact ⟨_,rfl,h⟩
noncomputable def Ld (o:Option D) (Q:D->Prop):Prop:=match o with
 | some d=>Q d
 | none=>False
noncomputable def rO:Rho->Nat->(D->Prop)->Prop
 | [],_,_=>False
 | o::_,0,Q=>Ld o Q
 | _::ρ,i+1,Q=>rO ρ i Q
theorem tV:∀ {ρ:Rho} {i:Nat} {Q:D->Prop},rO ρ i Q->∃ d,ρ[i]?=some (some d)/\Q d
 | [],_,_,h=>h.elim
 | some d::_,0,_,h=>⟨d,rfl,h⟩
 | none::_,0,_,h=>h.elim
 | o::ρ,i+1,_,h=>by rw [List.getElem?_cons_succ];exact tV (ρ:=ρ) h
noncomputable def JN (i:Nat):WP D:=fun ρ S Q=>rO ρ i fun d=>Q d S
theorem JO {i:Nat}:Sd (JN i) (uH i):=fun ρ S Q h=>by
 rw [FV]
 exact tV h
noncomputable def wC (d:D):WP D:=fun _ S Q=>Q d S
theorem s_c {d:D}:Sd (wC d) (xC d):=fun _ _ _ h=>bC h
noncomputable def Bt (g:D->D->Sto->(D->Sto->Prop)->Prop) (x y:WP D):WP D:=fun ρ S Q=>x ρ S fun a S1=>y ρ S1 fun b S2=>g a b S2 Q
theorem yy {g:D->D->Sto->(D->Sto->Prop)->Prop} {f:D->D->Sto->Option (D × Sto)} {w v:WP D} {x y:XE} (hw:Sd w x) (hv:Sd v y) (hg:∀ {a b S Q},g a b S Q->Ok (f a b S) Q):Sd (Bt g w v) (oX f x y):=
 fun _ _ _ h=>bf ((hw _ _ _ h).mono fun _ _ h=>bf ((hv _ _ _ h).mono fun _ _ h=>hg h))
noncomputable def wUn {α β:Type} (g:α->Sto->(β->Sto->Prop)->Prop) (x:WP α):WP β:=fun ρ S Q=>x ρ S fun a S1=>g a S1 Q
theorem Bu {α β:Type} {g:α->Sto->(β->Sto->Prop)->Prop} {f:α->Sto->Option (β × Sto)} {w:WP α} {x:Rho->Sto->Option (α × Sto)} (hw:Sd w x) (hg:∀ {a S Q},g a S Q->Ok (f a S) Q):Sd (wUn g w) (fun ρ S=>bnd (x ρ S) f):=
 fun _ _ _ h=>bf ((hw _ _ _ h).mono fun _ _ h=>hg h)
noncomputable def wOk {α β:Type} (f:α->Sto->Option (β × Sto)) (a:α) (S:Sto) (Q:β->Sto->Prop):Prop:=Ok (f a S) Q
noncomputable def wII:BOp->Int->Int->Sto->(D->Sto->Prop)->Prop
 | .add,i,j,S,Q=>Q (.int (i+j)) S
 | .sub,i,j,S,Q=>Q (.int (i - j)) S
 | .mul,i,j,S,Q=>ig i j=true/\Q (.int (i * j)) S
 | .mod,i,j,S,Q=>0 < j/\Q (.int (i % j)) S
 | .fdiv,i,j,S,Q=>(0 < j/\j < 1073741824)/\Q (.int (i / j)) S
 | .pow,i,j,S,Q=>(0<=j/\j<=1000000/\i.natAbs < 2 ^ 64)/\Q (.int (i ^ j.toNat)) S
theorem Gc {o:BOp} {i j:Int} {S:Sto} {Q:D->Sto->Prop} (h:wII o i j S Q):Ok (bI o (.int i) (.int j) S) Q:=by
 cases o with
 | add=>rw [FW];exact h
 | sub=>rw [FX];exact h
 | mul=>rw [F5];exact h
 | mod=>rw [F4];exact h
 | fdiv=>rw [Bq];exact h
 | pow=>rw [F6];exact h
noncomputable def wTT:BOp->List D->List D->Sto->(D->Sto->Prop)->Prop
 | .add,xs,ys,S,Q=>xs.length+ys.length<=1000/\Q (.tup (xs++ys)) S
 | .sub,_,_,_,_=>False
 | .mul,_,_,_,_=>False
 | .mod,_,_,_,_=>False
 | .fdiv,_,_,_,_=>False
 | .pow,_,_,_,_=>False
theorem Gd {o:BOp} {i j:List D} {S:Sto} {Q:D->Sto->Prop} (h:wTT o i j S Q):Ok (bI o (.tup i) (.tup j) S) Q:=by
 cases o with
 | add=>rw [Gb];exact h
 | _=>exact h.elim
noncomputable def yz (o:BOp) (i:Int) (y:D) (S:Sto) (Q:D->Sto->Prop):Prop:=match y with
 | .int j=>wII o i j S Q
 | .non=>False | .bl _=>False | .str _=>False | .ref _=>False
 | .tup ys=>Ok (bI o (.int i) (.tup ys) S) Q
noncomputable def tW (o:BOp) (xs:List D) (y:D) (S:Sto) (Q:D->Sto->Prop):Prop:=match y with
 | .tup ys=>wTT o xs ys S Q
 | .non=>False | .bl _=>False | .str _=>False | .ref _=>False
 | .int j=>Ok (bI o (.tup xs) (.int j) S) Q
noncomputable def rP (o:BOp) (x y:D) (S:Sto) (Q:D->Sto->Prop):Prop:=match x with
 | .int i=>yz o i y S Q
 | .tup xs=>tW o xs y S Q
 | .non=>Ok (bI o .non y S) Q
 | .bl b=>Ok (bI o (.bl b) y S) Q
 | .str b=>Ok (bI o (.str b) y S) Q
 | .ref b=>Ok (bI o (.ref b) y S) Q
theorem Bv {o:BOp} {x y:D} {S:Sto} {Q:D->Sto->Prop} (h:rP o x y S Q):Ok (bI o x y S) Q:=by
 cases x with
 | int i=>cases y with
  | int j=>exact Gc h
  | tup ys=>exact h
  | _=>exact h.elim
 | tup xs=>cases y with
  | int j=>exact h
  | tup ys=>exact Gd h
  | _=>exact h.elim
 | _=>exact h
noncomputable def wCI:COp->Int->Int->Sto->(D->Sto->Prop)->Prop
 | .eq,i,j,S,Q=>Q (.bl (decide (i=j))) S
 | .ne,i,j,S,Q=>Q (.bl (!decide (i=j))) S
 | .lt,i,j,S,Q=>Q (.bl (decide (i < j))) S
 | .le,i,j,S,Q=>Q (.bl (decide (i<=j))) S
 | .gt,i,j,S,Q=>Q (.bl (decide (j < i))) S
 | .ge,i,j,S,Q=>Q (.bl (decide (j<=i))) S
 | .is,_,_,_,_=>False
 | .isnot,_,_,_,_=>False
 | .isin,_,_,_,_=>False
 | .notin,_,_,_,_=>False
theorem Gf {o:COp} {i j:Int} {S:Sto} {Q:D->Sto->Prop} (h:wCI o i j S Q):Ok (ay o (.int i) (.int j) S) Q:=by
 cases o with
 | eq=>rw [FZ];exact h
 | ne=>rw [F0];exact h
 | lt=>rw [JI];exact h
 | le=>rw [JH];exact h
 | gt=>rw [JJ];exact h
 | ge=>rw [JK];exact h
 | _=>exact h.elim
noncomputable def Gg (o:COp) (i:Int) (y:D) (S:Sto) (Q:D->Sto->Prop):Prop:=match y with
 | .int j=>wCI o i j S Q
 | .non=>Ok (ay o (.int i) .non S) Q
 | .bl b=>Ok (ay o (.int i) (.bl b) S) Q
 | .str b=>Ok (ay o (.int i) (.str b) S) Q
 | .ref b=>Ok (ay o (.int i) (.ref b) S) Q
 | .tup b=>Ok (ay o (.int i) (.tup b) S) Q
noncomputable def rQ (o:COp) (xs:List D) (y:D) (S:Sto) (Q:D->Sto->Prop):Prop:=match o with
 | .eq=>match y with
  | .tup ys=>match ys with
   | []=>Q (.bl xs.isEmpty) S
   | y::ys=>Ok (ay .eq (.tup xs) (.tup (y::ys)) S) Q
  | .non=>Ok (ay .eq (.tup xs) .non S) Q
  | .bl b=>Ok (ay .eq (.tup xs) (.bl b) S) Q
  | .str b=>Ok (ay .eq (.tup xs) (.str b) S) Q
  | .ref b=>Ok (ay .eq (.tup xs) (.ref b) S) Q
  | .int b=>Ok (ay .eq (.tup xs) (.int b) S) Q
 | .ne=>match y with
  | .tup ys=>match ys with
   | []=>Q (.bl (!xs.isEmpty)) S
   | y::ys=>Ok (ay .ne (.tup xs) (.tup (y::ys)) S) Q
  | .non=>Ok (ay .ne (.tup xs) .non S) Q
  | .bl b=>Ok (ay .ne (.tup xs) (.bl b) S) Q
  | .str b=>Ok (ay .ne (.tup xs) (.str b) S) Q
  | .ref b=>Ok (ay .ne (.tup xs) (.ref b) S) Q
  | .int b=>Ok (ay .ne (.tup xs) (.int b) S) Q
 | .is=>Ok (ay .is (.tup xs) y S) Q
 | .isnot=>Ok (ay .isnot (.tup xs) y S) Q
 | .isin=>Ok (ay .isin (.tup xs) y S) Q
 | .notin=>Ok (ay .notin (.tup xs) y S) Q
 | .lt=>False | .le=>False | .gt=>False | .ge=>False
noncomputable def wCx (o:COp) (x y:D) (S:Sto) (Q:D->Sto->Prop):Prop:=match x with
 | .int i=>Gg o i y S Q
 | .tup xs=>rQ o xs y S Q
 | .non=>Ok (ay o .non y S) Q
 | .bl b=>Ok (ay o (.bl b) y S) Q
 | .str b=>Ok (ay o (.str b) y S) Q
 | .ref b=>Ok (ay o (.ref b) y S) Q
theorem Gh {o:COp} {x y:D} {S:Sto} {Q:D->Sto->Prop} (h:wCx o x y S Q):Ok (ay o x y S) Q:=by
 cases x with
 | int i=>cases y with
  | int j=>exact Gf h
  | _=>exact h
 | tup xs=>cases o with
  | eq=>cases y with
   | tup ys=>cases ys with
    | nil=>rw [tU,ao];exact h
    | cons y ys=>exact h
   | _=>exact h
  | ne=>cases y with
   | tup ys=>cases ys with
    | nil=>rw [Bs,ao];exact h
    | cons y ys=>exact h
   | _=>exact h
  | lt=>exact h.elim
  | le=>exact h.elim
  | gt=>exact h.elim
  | ge=>exact h.elim
  | _=>exact h
 | _=>exact h
noncomputable def wCm (o:COp) (x y:D) (S:Sto) (Q:D->Sto->Prop):Prop:=match o with
 | .is=>Ok (ay .is x y S) Q
 | .isnot=>Ok (ay .isnot x y S) Q
 | .isin=>Ok (ay .isin x y S) Q
 | .notin=>Ok (ay .notin x y S) Q
 | .eq=>wCx .eq x y S Q
 | .ne=>wCx .ne x y S Q
 | .lt=>wCx .lt x y S Q
 | .le=>wCx .le x y S Q
 | .gt=>wCx .gt x y S Q
 | .ge=>wCx .ge x y S Q
theorem n8 {o:COp} {x y:D} {S:Sto} {Q:D->Sto->Prop} (h:wCm o x y S Q):Ok (ay o x y S) Q:=by
 cases o <;> first | exact Gh h | exact h
noncomputable def Gi (o p:COp) (x y z:WP D):WP D:=fun ρ S Q=>x ρ S fun a S1=>y ρ S1 fun b S2=>wCm o a b S2 fun r S3=>wBl r fun c=>wIf c (z ρ S3 fun e S4=>wCm p b e S4 Q) (Q (.bl false) S3)
theorem Ds {o p:COp} {w v u:WP D} {x y z:XE} (hw:Sd w x) (hv:Sd v y) (hu:Sd u z):Sd (Gi o p w v u) (ve (ay o) (ay p) x y z):=fun _ _ _ h=>by
 rw [FT]
 refine (hw _ _ _ h).mono fun a S1 h=>(hv _ _ _ h).mono fun b S2 h=>(n8 h).mono fun r S3 h=>?_
 obtain ⟨c,e,h⟩:=lA h
 refine ⟨c,e,?_⟩
 cases c with
 | true=>exact (hu _ _ _ h).mono fun e S4 h=>n8 h
 | false=>exact h
noncomputable def JP (x y:WP D):WP D:=fun ρ S Q=>x ρ S fun d S1=>wBl d fun b=>wIf b (y ρ S1 Q) (Q (.bl false) S1)
theorem JQ {w v:WP D} {x y:XE} (hw:Sd w x) (hv:Sd v y):Sd (JP w v) (xN x y):=fun _ _ _ h=>by
 rw [FR]
 refine (hw _ _ _ h).mono fun a S1 h=>?_
 obtain ⟨c,e,h⟩:=lA h
 refine ⟨c,e,?_⟩
 cases c with
 | true=>exact hv _ _ _ h
 | false=>exact h
noncomputable def wOr (x y:WP D):WP D:=fun ρ S Q=>x ρ S fun d S1=>wBl d fun b=>wIf b (Q (.bl true) S1) (y ρ S1 Q)
theorem Lf {w v:WP D} {x y:XE} (hw:Sd w x) (hv:Sd v y):Sd (wOr w v) (xOr x y):=fun _ _ _ h=>by
 rw [JG]
 refine (hw _ _ _ h).mono fun a S1 h=>?_
 obtain ⟨c,e,h⟩:=lA h
 refine ⟨c,e,?_⟩
 cases c with
 | false=>exact hv _ _ _ h
 | true=>exact h
noncomputable def JR (x:WP D):WP D:=fun ρ S Q=>x ρ S fun d S1=>wBl d fun b=>Q (.bl (!b)) S1
theorem JS {w:WP D} {x:XE} (hw:Sd w x):Sd (JR w) (xUn uZ x):=fun _ _ _ h=>bf ((hw _ _ _ h).mono fun a S1 h=>by
 rw [FS];exact lA h)
noncomputable def JT (x:WP D):WP D:=fun ρ S Q=>x ρ S fun d S1=>cV d fun i=>Q (.int (-i)) S1
theorem JU {w:WP D} {x:XE} (hw:Sd w x):Sd (JT w) (xUn Fc x):=fun _ _ _ h=>bf ((hw _ _ _ h).mono fun a S1 h=>by
 obtain ⟨i,rfl,h⟩:=cg h
 exact bC h)
noncomputable def wO:Option (WP D)->WP (Option Int)
 | none=>fun _ S Q=>Q none S
 | some w=>fun ρ S Q=>w ρ S fun d S1=>cV d fun i=>Q (some i) S1
noncomputable def rR (lo hi:Option Int) (d:D) (S:Sto) (Q:D->Sto->Prop):Prop:=match d with
 | .tup ds=>Q (.tup (cC ds lo hi)) S
 | .ref n=>Ok (slS lo hi (.ref n) S) Q
 | .non=>False | .bl _=>False | .str _=>False | .int _=>False
noncomputable def wSl (x:WP D) (lo hi:WP (Option Int)):WP D:=fun ρ S Q=>x ρ S fun d S1=>lo ρ S1 fun l S2=>hi ρ S2 fun h S3=>rR l h d S3 Q
theorem Lg:Sd (wO none) qW:=fun _ _ _ h=>bC h
theorem Lh {w:WP D} {x:XE} (hw:Sd w x):Sd (wO (some w)) (qX x):=fun _ _ _ h=>bf ((hw _ _ _ h).mono fun d S1 h=>by
 obtain ⟨i,rfl,h⟩:=cg h
 exact bC h)
theorem Li {w:WP D} {l u:WP (Option Int)} {x:XE} {lo hi:XO} (hw:Sd w x) (hl:Sd l lo) (hu:Sd u hi):Sd (wSl w l u) (xSl x lo hi):=fun _ _ _ h=>bf ((hw _ _ _ h).mono fun d S1 h=>bf ((hl _ _ _ h).mono fun a S2 h=>bf ((hu _ _ _ h).mono fun b S3 h=>by
 cases d with
 | tup ds=>exact bC h
 | ref n=>exact h
 | _=>exact h.elim)))
noncomputable def Dt (g:List D->Sto->Option (D × Sto)) (n:Nat) (x:WP (List D)):WP D:=fun ρ S Q=>x ρ S fun ds S1=>ds.length=n/\Ok (g ds S1) Q
theorem Gj {g:List D->Sto->Option (D × Sto)} {n:Nat} {w:WP (List D)} {x:XA} (hw:Sd w x):Sd (Dt g n w) (pJ g n x):=fun _ _ _ h=>by
 rw [Bg];exact hw _ _ _ h
noncomputable def lB (x:WP (List D)):WP D:=fun ρ S Q=>x ρ S fun ds S1=>Q (.ref S1.length) (S1++[.lst ds])
theorem iJ {w:WP (List D)} {x:XA} (hw:Sd w x):Sd (lB w) (dW x):=fun _ _ _ h=>by rw [yt];exact hw _ _ _ h
noncomputable def eP:Nat->List CE->Prop->Prop
 | _,[],A=>A
 | 0,_::_,_=>False
 | n+1,_::es,A=>eP n es A
theorem iK:∀ {n:Nat} {es:List CE} {A:Prop},eP n es A->es.length<=n/\A
 | n,[],_,h=>⟨Nat.zero_le _,by cases n <;> exact h⟩
 | 0,_::_,_,h=>h.elim
 | n+1,_::es,_,h=>by rw [List.length_cons];exact ⟨Nat.succ_le_succ (iK (es:=es) h).1,(iK (es:=es) h).2⟩
noncomputable def wSh {α:Type} (es:List CE) (x:WP α):WP α:=fun ρ S Q=>eP 60 es (x ρ S Q)
noncomputable def Bw (c:D->Sto->Bool) (f:D->List D->Sto->Option (D × Sto)) (x:WP D) (y:WP (List D)):WP D:=fun ρ S Q=>x ρ S fun d S1=>c d S1=true/\y ρ S1 fun as S2=>Ok (f d as S2) Q
theorem yA {c:D->Sto->Bool} {f:D->List D->Sto->Option (D × Sto)} {w:WP D} {v:WP (List D)} {x:XE} {y:XA} (hw:Sd w x) (hv:Sd v y):Sd (Bw c f w v) (xD c f x y):=fun _ _ _ h=>bf ((hw _ _ _ h).mono fun d S1 h=>by
 rw [if_pos h.1]
 exact bf (hv _ _ _ h.2))
noncomputable def Gk (x:WP D):WP (List D):=fun ρ S Q=>x ρ S fun d S1=>∃ i:Nat,d = .int i/\i<=1000/\Q ((List.range i).map fun j=>.int (Int.ofNat j)) S1
theorem Du {w:WP D} {x:XE} (hw:Sd w x):Sd (Gk w) (vh x):=fun _ _ _ h=>FY (hw _ _ _ h)
noncomputable def JV:WP (List D):=fun _ S Q=>Q [] S
theorem JW:Sd JV Ak:=fun _ _ _ h=>bC h
noncomputable def Dv (x:WP D) (y:WP (List D)):WP (List D):=fun ρ S Q=>x ρ S fun a S1=>y ρ S1 fun as S2=>Q (a::as) S2
theorem Gm {w:WP D} {v:WP (List D)} {x:XE} {y:XA} (hw:Sd w x) (hv:Sd v y):Sd (Dv w v) (sT x y):=fun _ _ _ h=>bf ((hw _ _ _ h).mono fun d S1 h=>bf ((hv _ _ _ h).mono fun ds S2 h=>bC h))
noncomputable def Lj (o:Option D) (A:Prop):Prop:=match o with
 | none=>A
 | some _=>False
noncomputable def wFr:Rho->Nat->Prop->Prop
 | [],_,_=>False
 | o::_,0,A=>Lj o A
 | _::ρ,i+1,A=>wFr ρ i A
theorem oe:∀ {ρ:Rho} {i:Nat} {A:Prop},wFr ρ i A->ρ[i]?=some none/\A
 | [],_,_,h=>h.elim
 | none::_,0,_,h=>⟨rfl,h⟩
 | some _::_,0,_,h=>h.elim
 | o::ρ,i+1,_,h=>by rw [List.getElem?_cons_succ];exact oe (ρ:=ρ) h
noncomputable def pZ:List Tg->Rho->Prop->Prop
 | [],_,A=>A
 | .name i::ts,ρ,A=>wFr ρ i (pZ ts ρ A)
 | .tup us::ts,ρ,A=>cY (.tup us) ρ=true/\pZ ts ρ A
noncomputable def wFt:Tg->Rho->Prop->Prop
 | .name i,ρ,A=>wFr ρ i A
 | .tup ts,ρ,A=>pZ ts ρ A
theorem mQ {i:Nat} {ρ:Rho} (h:ρ[i]?=some none):cY (.name i) ρ=true:=by rw [cY,h]
theorem oh:∀ {ts:List Tg} {ρ:Rho} {A:Prop},pZ ts ρ A->fo ts ρ=true/\A
 | [],_,_,h=>⟨by rw [fo],h⟩
 | .name i::ts,ρ,_,h=>by
  obtain ⟨e,h⟩:=oe h
  obtain ⟨e2,h⟩:=oh h
  exact ⟨by rw [fo,mQ e,e2];rfl,h⟩
 | .tup us::ts,ρ,_,h=>by
  obtain ⟨e,h⟩:=h
  obtain ⟨e2,h⟩:=oh h
  exact ⟨by rw [fo,e,e2];rfl,h⟩
theorem rT {t:Tg} {ρ:Rho} {A:Prop} (h:wFt t ρ A):cY t ρ=true/\A:=by
 cases t with
 | name i=>exact ⟨mQ (oe h).1,(oe h).2⟩
 | tup ts=>rw [cY];exact oh h
noncomputable def p0:List Str->Rho->(Rho->Prop)->Prop
 | [],r,Q=>Q r
 | _::own,r,Q=>p0 own (none::r) Q
noncomputable def p9:Rho->Rho->(Rho->Prop)->Prop
 | [],r,Q=>Q r
 | o::ρ,r,Q=>p9 ρ r fun r'=>Q (o::r')
theorem tX:∀ {ρ r:Rho} {Q:Rho->Prop},p9 ρ r Q->Q (ρ++r)
 | [],_,_,h=>h
 | o::ρ,r,Q,h=>tX (ρ:=ρ) (Q:=fun r'=>Q (o::r')) h
theorem tY:∀ {own:List Str} {k:Nat} {Q:Rho->Prop},p0 own (List.replicate k none) Q->Q (List.replicate (own.length+k) none)
 | [],k,_,h=>by rw [List.length_nil,Nat.zero_add];exact h
 | _::own,k,Q,h=>by
  have:=tY (own:=own) (k:=k+1) h
  rw [List.length_cons,show own.length+1+k=own.length+(k+1) by omega];exact this
noncomputable def Dx (own:List Str) (it:WP Nxt) (tg:Tg) (c:XA) (k:Nat):WP (List D):=fun ρ S Q=>it ρ S fun nx S1=>p0 own [] fun r=>p9 ρ r fun ρ'=>wFt tg ρ' (Ok (bj nx tg c ρ' k 0 S1) fun es S2=>es.length<=100000/\Q es S2)
theorem yB {own:List Str} {k:Nat} {w:WP Nxt} {it:XI} {tg:Tg} {c:XA} (hw:Sd w it):Sd (Dx own w tg c k) (kE own.length it tg c k):=fun _ _ _ h=>by
 rw [Bh]
 exact (hw _ _ _ h).mono fun nx S1 h=>by
  have h:=tX (tY (own:=own) (k:=0) h)
  exact rT h
noncomputable def yC (it:WP Nxt) (tg:Tg) (c:XA) (k:Nat):WP (List D):=fun ρ S Q=>wFt tg ρ (it ρ S fun nx S1=>Ok (bj nx tg c ρ k 0 S1) Q)
theorem Bx {k:Nat} {w:WP Nxt} {it:XI} {tg:Tg} {c:XA} (hw:Sd w it):Sd (yC w tg c k) (iX it tg c k):=fun _ _ _ h=>by
 rw [yr]
 exact ⟨(rT h).1,hw _ _ _ (rT h).2⟩
noncomputable def yD (d:D) (S1:Sto) (Q:Nxt->Sto->Prop):Prop:=match d with
 | .tup ds=>Q (nxL ds) S1
 | .ref n=>(au S1 n).isSome=true/\Q (nxS n) S1
 | .non=>False | .bl _=>False | .str _=>False | .int _=>False
theorem Lk {w:WP D} {x:XE} (hw:Sd w x):Sd (fun ρ S Q=>w ρ S fun d S1=>yD d S1 Q) (xIV x):=fun _ _ _ h=>bf ((hw _ _ _ h).mono fun d S1 h=>by
 cases d with
 | tup ds=>exact bC h
 | ref n=>dsimp only;rw [if_pos h.1];exact bC h.2
 | _=>exact h.elim)
noncomputable def yE (d:D) (S1:Sto) (Q:Nxt->Sto->Prop):Prop:=match d with
 | .tup ds=>Q (pC ds) S1
 | .ref n=>(au S1 n).isSome=true/\Q (Az n) S1
 | .non=>False | .bl _=>False | .str _=>False | .int _=>False
theorem Ll {w:WP D} {x:XE} (hw:Sd w x):Sd (fun ρ S Q=>w ρ S fun d S1=>yE d S1 Q) (xEV x):=fun _ _ _ h=>bf ((hw _ _ _ h).mono fun d S1 h=>by
 cases d with
 | tup ds=>exact bC h
 | ref n=>dsimp only;rw [if_pos h.1];exact bC h.2
 | _=>exact h.elim)
noncomputable def wOn {α β:Type} (f:α->β) (x:WP α):WP β:=fun ρ S Q=>x ρ S fun a S1=>Q (f a) S1
theorem yF {α β:Type} {f:α->β} {w:WP α} {x:Rho->Sto->Option (α × Sto)} (hw:Sd w x):Sd (wOn f w) (fun ρ S=>bnd (x ρ S) fun a S1=>some (f a,S1)):=fun _ _ _ h=>bf ((hw _ _ _ h).mono fun d S1 h=>bC h)
noncomputable def wR1 (x:WP D):WP Nxt:=fun ρ S Q=>x ρ S fun d S1=>cV d fun j=>lim j=true/\Q (nxR 0 j.toNat) S1
theorem Lm {w:WP D} {x:XE} (hw:Sd w x):Sd (wR1 w) (xR1 x):=fun _ _ _ h=>bf ((hw _ _ _ h).mono fun d S1 h=>by
 obtain ⟨i,rfl,h⟩:=cg h
 dsimp only;rw [if_pos h.1];exact bC h.2)
noncomputable def wR2 (x y:WP D):WP Nxt:=fun ρ S Q=>x ρ S fun d S1=>y ρ S1 fun e S2=>cV d fun i=>cV e fun j=>(lim i=true/\lim j=true)/\Q (nxR i (j - i).toNat) S2
theorem Ln {w v:WP D} {x y:XE} (hw:Sd w x) (hv:Sd v y):Sd (wR2 w v) (xR2 x y):=fun _ _ _ h=>bf ((hw _ _ _ h).mono fun d S1 h=>bf ((hv _ _ _ h).mono fun e S2 h=>by
 obtain ⟨i,rfl,h'⟩:=cg h
 obtain ⟨j,rfl,h''⟩:=cg h'
 dsimp only;rw [if_pos h''.1];exact bC h''.2))
noncomputable def aM (d:D) (S:Sto) (Q:Bool->Sto->Prop):Prop:=match d with
 | .bl b=>Q b S
 | .tup ds=>Q (!ds.isEmpty) S
 | .int i=>Q (i != 0) S
 | .non=>Q false S
 | .str y=>Ok (ko (.str y) S) Q
 | .ref y=>Ok (ko (.ref y) S) Q
theorem yG {d:D} {S:Sto} {Q:Bool->Sto->Prop} (h:aM d S Q):Ok (ko d S) Q:=by cases d <;> first | exact bC h | exact h
noncomputable def wB (x:WP D):WP Bool:=fun ρ S Q=>x ρ S fun d S1=>wBl d fun b=>Q b S1
theorem s_b {w:WP D} {x:XE} (hw:Sd w x):Sd (wB w) (xB x):=fun _ _ _ h=>by
 rw [JL]
 exact (hw _ _ _ h).mono fun d S1 h=>lA h
noncomputable def Dy (x y:WP Bool):WP Bool:=fun ρ S Q=>x ρ S fun b S1=>wIf b (y ρ S1 Q) (Q false S1)
noncomputable def JX (x y:WP Bool):WP Bool:=fun ρ S Q=>x ρ S fun b S1=>wIf b (Q true S1) (y ρ S1 Q)
noncomputable def Dz (x:WP Bool):WP Bool:=fun ρ S Q=>x ρ S fun b S1=>Q (!b) S1
theorem Gn {w v:WP Bool} {x y:XT} (hw:Sd w x) (hv:Sd v y):Sd (Dy w v) (xQ x y):=fun _ _ _ h=>bf ((hw _ _ _ h).mono fun b S1 h=>by
 cases b with
 | true=>exact hv _ _ _ h
 | false=>exact bC h)
theorem JY {w v:WP Bool} {x y:XT} (hw:Sd w x) (hv:Sd v y):Sd (JX w v) (Fe x y):=fun _ _ _ h=>bf ((hw _ _ _ h).mono fun b S1 h=>by
 cases b with
 | false=>exact hv _ _ _ h
 | true=>exact bC h)
theorem Go {w:WP Bool} {x:XT} (hw:Sd w x):Sd (Dz w) (xR x):=fun _ _ _ h=>bf ((hw _ _ _ h).mono fun b S1 h=>bC h)
noncomputable def DA (t:WP Bool) (c:WP (List D)):WP (List D):=fun ρ S Q=>t ρ S fun b S1=>wIf b (c ρ S1 Q) (Q [] S1)
theorem Gp {t:WP Bool} {c:WP (List D)} {x:XT} {y:XA} (ht:Sd t x) (hc:Sd c y):Sd (DA t c) (xK x y):=fun _ _ _ h=>bf ((ht _ _ _ h).mono fun b S1 h=>by
 cases b with
 | true=>exact hc _ _ _ h
 | false=>exact bC h)
noncomputable def Bz (f:Bool->List D->Option (List D)) (ds:List D) (S:Sto) (Q:List D->Sto->Prop):Prop:=∃ es,f false ds=some es/\Q es S
noncomputable def BA (f:Bool->List D->Option (List D)) (d:D) (S:Sto) (Q:List D->Sto->Prop):Prop:=∃ r es,aq d S=some r/\f r.1 r.2=some es/\Q es S
theorem JZ {f:Bool->List D->Option (List D)} {w:WP (List D)} {x:XA} (hw:Sd w x):Sd (fun ρ S Q=>w ρ S fun ds S1=>Bz f ds S1 Q) (vf f x):=fun _ _ _ h=>bf ((hw _ _ _ h).mono fun ds S1 ⟨es,e,h⟩=>by rw [e];exact bC h)
theorem J0 {f:Bool->List D->Option (List D)} {w:WP D} {x:XE} (hw:Sd w x):Sd (fun ρ S Q=>w ρ S fun ds S1=>BA f ds S1 Q) (vg f x):=fun _ _ _ h=>bf ((hw _ _ _ h).mono fun ds S1 ⟨r,es,e1,e,h⟩=>by
 rw [e1];dsimp only;rw [e];exact bC h)
noncomputable def wNo {α:Type}:WP α:=fun _ _ _=>False
theorem qa {α:Type} {x:Rho->Sto->Option (α × Sto)}:Sd wNo x:=fun _ _ _ h=>h.elim
noncomputable def be (b:Bool) (x:WP (List D)) (y:WP D) (ρ:Rho) (S:Sto) (KT:List D->Sto->Prop) (KV:D->Sto->Prop):Prop:=match b with
 | true=>x ρ S KT
 | false=>y ρ S KV
noncomputable def wOf {α:Type} (b:Bool) (x:WP (List D)) (y:WP D) (gt:List D->Sto->(α->Sto->Prop)->Prop) (gv:D->Sto->(α->Sto->Prop)->Prop):WP α:=fun ρ S Q=>be b x y ρ S (fun ds S1=>gt ds S1 Q) (fun d S1=>gv d S1 Q)
theorem s_of {α:Type} {b:Bool} {w:WP (List D)} {v:WP D} {gt:List D->Sto->(α->Sto->Prop)->Prop} {gv:D->Sto->(α->Sto->Prop)->Prop} {x y:Rho->Sto->Option (α × Sto)} (hw:Sd (fun ρ S Q=>w ρ S fun ds S1=>gt ds S1 Q) x) (hv:Sd (fun ρ S Q=>v ρ S fun d S1=>gv d S1 Q) y):Sd (wOf b w v gt gv) (if b=true then x else y):=by
 cases b with
 | true=>exact hw
 | false=>exact hv
theorem Lo {b:Bool} {w:WP (List D)} {v u:WP D} {x:XA} {y z:XE} (hw:Sd w x) (hu:Sd u z) (hv:Sd v y):Sd (fun ρ S Q=>be b w u ρ S (fun ds S1=>v ρ S1 fun i S2=>cV i fun k=>∃ d,atI ds k=some d/\Q d S2) (fun d S1=>v ρ S1 fun i S2=>Ok (ixS d i S2) Q)) (if b=true then qT x y else oX ixS z y):=fun ρ S Q h=>by
 cases b with
 | true=>
  show Ok (qT x y ρ S) Q
  rw [F8]
  exact (hw _ _ _ h).mono fun ds S1 h=>(hv _ _ _ h).mono fun i S2 h=>cg h
 | false=>exact bf ((hu _ _ _ h).mono fun ds S1 h=>bf (hv _ _ _ h))
noncomputable def wO2 (t:CE->WP D):Option CE->Option (WP D)
 | none=>none
 | some e=>some (t e)
noncomputable def BB (t:CE->WP Bool):Option CE->WP (List D)->WP (List D)
 | some c,x=>DA (t c) x
 | none,x=>x
noncomputable def yH (x y:D) (S:Sto) (Q:D->Sto->Prop):Prop:=cV x fun i=>cV y fun j=>Q (.int (if j > i then j else i)) S
noncomputable def yI (x y:D) (S:Sto) (Q:D->Sto->Prop):Prop:=cV x fun i=>cV y fun j=>Q (.int (if j < i then j else i)) S
noncomputable def w2 (g:D->D->Sto->(D->Sto->Prop)->Prop):List D->Sto->(D->Sto->Prop)->Prop
 | [],_,_=>False
 | [_],_,_=>False
 | [x,y],S,Q=>g x y S Q
 | _::_::_::_,_,_=>False
theorem DB {g:D->D->Sto->(D->Sto->Prop)->Prop} {f:D->D->Sto->Option (D × Sto)} (hg:∀ {a b S Q},g a b S Q->Ok (f a b S) Q):∀ {ds:List D} {S:Sto} {Q:D->Sto->Prop},w2 g ds S Q->Ok (two f ds S) Q
 | [],_,_,h=>h.elim
 | [_],_,_,h=>h.elim
 | [x,y],_,_,h=>hg h
 | _::_::_::_,_,_,h=>h.elim
noncomputable def wCf (i:CI->WP Nxt) (own:List Str) (t:CE->XT) (e:List Cl->XA):List Cl->WP (List D)
 | []=>wNo
 | ⟨tg,it,cond⟩::rest=>Dx own (i it) tg (cnd t cond (e rest)) LF
mutual
noncomputable def wE (C:Calls) (ar:Nat->Nat):Nat->CE->WP D
 | 0,_=>wNo
 | n+1,e=>match e with
  | .non=>wC .non
  | .bl b=>wC (.bl b)
  | .int i=>wC (.int i)
  | .str x=>wC (.str x)
  | .var i=>JN i
  | .con _ v=>wC (.int v)
  | .tup es=>wSh es (wOn D.tup (wA C ar n es))
  | .lst es=>lB (wSh es (wA C ar n es))
  | .bin o a b=>Bt (rP o) (wE C ar n a) (wE C ar n b)
  | .neg a=>JT (wE C ar n a)
  | .cmp o a b=>Bt (wCm o) (wE C ar n a) (wE C ar n b)
  | .chn o p a b c=>Gi o p (wE C ar n a) (wE C ar n b) (wE C ar n c)
  | .and a b=>JP (wE C ar n a) (wE C ar n b)
  | .or a b=>wOr (wE C ar n a) (wE C ar n b)
  | .not a=>JR (wE C ar n a)
  | .ix a b=>fun ρ S Q=>be (ak a) (wTm C ar n a) (wE C ar n a) ρ S (fun ds S1=>wE C ar n b ρ S1 fun i S2=>cV i fun k=>∃ d,atI ds k=some d/\Q d S2) (fun d S1=>wE C ar n b ρ S1 fun i S2=>Ok (ixS d i S2) Q)
  | .sl a lo hi=>wSl (wE C ar n a) (wO (wO2 (wE C ar n) lo)) (wO (wO2 (wE C ar n) hi))
  | .call f es=>Dt (C f) (ar f) (wA C ar n es)
  | .inst t a=>wUn (wOk (kr t)) (wE C ar n a)
  | .len a=>wOf (ak a) (wTm C ar n a) (wE C ar n a) (wOk (bG false)) (wOk (ag bG))
  | .all a=>wOf (ak a) (wTm C ar n a) (wE C ar n a) (wOk (lU false)) (wOk (ag lU))
  | .tupOf a=>wOf (ak a) (wTm C ar n a) (wE C ar n a) (wOk (dH false)) (wOk (ag dH))
  | .listR a=>lB (Gk (wE C ar n a))
  | .srt a=>lB (wOf (ak a) (wTm C ar n a) (wE C ar n a) (Bz cu) (BA cu))
  | .mxL a=>wOf (ak a) (wTm C ar n a) (wE C ar n a) (wOk (ky false)) (wOk (ag ky))
  | .mxD a c=>wOf (ak a) (wTm C ar n a) (wE C ar n a) (wOk (gg c false)) (wOk (ag (gg c)))
  | .intOf a=>wUn (wOk xv) (wE C ar n a)
  | .mx a b=>wUn (w2 yH) (wA C ar n [a,b])
  | .mn a b=>wUn (w2 yI) (wA C ar n [a,b])
  | .rep a=>wUn (wOk kC) (wE C ar n a)
  | .comp own elt cls=>lB (wCf (wI C ar n) own (evT C ar n) (f8 C ar n elt) cls)
  | .app o a=>Bw fm pA (wE C ar n o) (wA C ar n [a])
  | .popAt o a=>Bw fm gC (wE C ar n o) (wA C ar n [a])
  | .cnt o a=>Bw (fun d _=>isTup d) rB (wE C ar n o) (wA C ar n [a])
noncomputable def wA (C:Calls) (ar:Nat->Nat):Nat->List CE->WP (List D)
 | 0,_=>wNo
 | n+1,es=>match es with
  | []=>JV
  | e::es=>Dv (wE C ar n e) (wA C ar n es)
noncomputable def wTm (C:Calls) (ar:Nat->Nat):Nat->CE->WP (List D)
 | 0,_=>wNo
 | n+1,e=>match e with
  | .lst es=>wSh es (wA C ar n es)
  | .listR a=>Gk (wE C ar n a)
  | .srt a=>wOf (ak a) (wTm C ar n a) (wE C ar n a) (Bz cu) (BA cu)
  | .comp own elt cls=>wCf (wI C ar n) own (evT C ar n) (f8 C ar n elt) cls
  | .non=>wNo
  | .bl _=>wNo
  | .int _=>wNo
  | .str _=>wNo
  | .var _=>wNo
  | .con _ _=>wNo
  | .tup _=>wNo
  | .bin _ _ _=>wNo
  | .neg _=>wNo
  | .cmp _ _ _=>wNo
  | .chn _ _ _ _ _=>wNo
  | .and _ _=>wNo
  | .or _ _=>wNo
  | .not _=>wNo
  | .ix _ _=>wNo
  | .sl _ _ _=>wNo
  | .call _ _=>wNo
  | .inst _ _=>wNo
  | .len _=>wNo
  | .all _=>wNo
  | .tupOf _=>wNo
  | .mxL _=>wNo
  | .mxD _ _=>wNo
  | .intOf _=>wNo
  | .mx _ _=>wNo
  | .mn _ _=>wNo
  | .rep _=>wNo
  | .app _ _=>wNo
  | .popAt _ _=>wNo
  | .cnt _ _=>wNo
noncomputable def wI (C:Calls) (ar:Nat->Nat):Nat->CI->WP Nxt
 | 0,_=>wNo
 | n+1,it=>match it with
  | .val a=>wOf (ak a) (wTm C ar n a) (wE C ar n a) (fun ds S Q=>Q (nxL ds) S) yD
  | .r1 a=>wR1 (wE C ar n a)
  | .r2 a b=>wR2 (wE C ar n a) (wE C ar n b)
  | .en a=>wOf (ak a) (wTm C ar n a) (wE C ar n a) (fun ds S Q=>Q (pC ds) S) yE
noncomputable def wT (C:Calls) (ar:Nat->Nat):Nat->CE->WP Bool
 | 0,_=>wNo
 | n+1,e=>match e with
  | .cmp o a b=>wB (Bt (wCm o) (wE C ar n a) (wE C ar n b))
  | .chn o p a b c=>wB (Gi o p (wE C ar n a) (wE C ar n b) (wE C ar n c))
  | .and a b=>Dy (wT C ar n a) (wT C ar n b)
  | .or a b=>JX (wT C ar n a) (wT C ar n b)
  | .not a=>Dz (wT C ar n a)
  | .non=>wUn aM (wE C ar n (.non))
  | .bl b=>wUn aM (wE C ar n (.bl b))
  | .int i=>wUn aM (wE C ar n (.int i))
  | .str x=>wUn aM (wE C ar n (.str x))
  | .var i=>wUn aM (wE C ar n (.var i))
  | .con k v=>wUn aM (wE C ar n (.con k v))
  | .tup es=>wUn aM (wE C ar n (.tup es))
  | .lst es=>wUn aM (wE C ar n (.lst es))
  | .bin o a b=>wUn aM (wE C ar n (.bin o a b))
  | .neg a=>wUn aM (wE C ar n (.neg a))
  | .ix a b=>wUn aM (wE C ar n (.ix a b))
  | .sl a lo hi=>wUn aM (wE C ar n (.sl a lo hi))
  | .call f es=>wUn aM (wE C ar n (.call f es))
  | .inst t a=>wUn aM (wE C ar n (.inst t a))
  | .len a=>wUn aM (wE C ar n (.len a))
  | .all a=>wUn aM (wE C ar n (.all a))
  | .tupOf a=>wUn aM (wE C ar n (.tupOf a))
  | .listR a=>wUn aM (wE C ar n (.listR a))
  | .srt a=>wUn aM (wE C ar n (.srt a))
  | .mxL a=>wUn aM (wE C ar n (.mxL a))
  | .mxD a c=>wUn aM (wE C ar n (.mxD a c))
  | .intOf a=>wUn aM (wE C ar n (.intOf a))
  | .mx a b=>wUn aM (wE C ar n (.mx a b))
  | .mn a b=>wUn aM (wE C ar n (.mn a b))
  | .rep a=>wUn aM (wE C ar n (.rep a))
  | .comp own elt cls=>wUn aM (wE C ar n (.comp own elt cls))
  | .app o a=>wUn aM (wE C ar n (.app o a))
  | .popAt o a=>wUn aM (wE C ar n (.popAt o a))
  | .cnt o a=>wUn aM (wE C ar n (.cnt o a))
end
noncomputable def wCl (C:Calls) (ar:Nat->Nat) (n:Nat) (elt:CE):List Cl->WP (List D)
 | []=>wOn (fun d=>[d]) (wE C ar n elt)
 | ⟨tg,it,cond⟩::rest=>yC (wI C ar n it) tg (cnd (evT C ar n) cond (f8 C ar n elt rest)) LF
theorem oi {C:Calls} {ar:Nat->Nat}:∀ {n:Nat} {es:List CE} {ρ:Rho} {S S':Sto} {ds:List D},evA C ar n es ρ S=some (ds,S')->ds.length=es.length
 | 0,_,_,_,_,_,h=>by simp only [evA,xNo] at h;cases h
 | n+1,[],_,_,_,_,h=>by simp only [evA,Ak] at h;cases h;rfl
 | n+1,e::es,_,_,_,_,h=>by
  simp only [evA,sT] at h
  obtain ⟨a,S1,e1,h⟩:=ab h
  obtain ⟨as,S2,e2,h⟩:=ab h
  cases h
  rw [List.length_cons,List.length_cons,oi e2]
structure SndW (C:Calls) (ar:Nat->Nat) (n:Nat):Prop where
 e:∀ {e:CE},Sd (wE C ar n e) (evE C ar n e)
 a:∀ {es:List CE},Sd (wA C ar n es) (evA C ar n es)
 m:∀ {e:CE},Sd (wTm C ar n e) (dq C ar n e)
 i:∀ {i:CI},Sd (wI C ar n i) (evI C ar n i)
 t:∀ {e:CE},Sd (wT C ar n e) (evT C ar n e)
section
variable {C:Calls} {ar:Nat->Nat} {n:Nat}
theorem J1 (h:SndW C ar n) {es:List CE}:Sd (wSh es (wOn D.tup (wA C ar n es))) (jJ jK (evA C ar n es)):=fun ρ S Q w=>by
 obtain ⟨le,w⟩:=iK w
 obtain ⟨ds,S1,e1,q⟩:=h.a _ _ _ w
 refine bf ⟨ds,S1,e1,?_⟩
 have l:=oi e1
 show Ok (jK ds S1) Q
 rw [Bj]
 exact ⟨by omega,q⟩
theorem yJ (h:SndW C ar n) {es:List CE}:Sd (wSh es (wA C ar n es)) (mv (evA C ar n es)):=fun ρ S Q w=>by
 obtain ⟨le,w⟩:=iK w
 obtain ⟨ds,S1,e1,q⟩:=h.a _ _ _ w
 rw [Bi]
 have l:=oi e1
 exact ⟨ds,S1,e1,by omega,q⟩
theorem DC (h:SndW C ar n) {o:Option CE}:Sd (wO (wO2 (wE C ar n) o)) (opt (evE C ar n) o):=by
 cases o with
 | none=>exact Lg
 | some e=>exact Lh h.e
theorem BC {a b:D} {S:Sto} {Q:D->Sto->Prop} (h:yH a b S Q):Ok (xl a b S) Q:=by
 obtain ⟨i,rfl,h'⟩:=cg h
 obtain ⟨j,rfl,h''⟩:=cg h'
 exact bC h''
theorem BD {a b:D} {S:Sto} {Q:D->Sto->Prop} (h:yI a b S Q):Ok (xm a b S) Q:=by
 obtain ⟨i,rfl,h'⟩:=cg h
 obtain ⟨j,rfl,h''⟩:=cg h'
 exact bC h''
end
end Ev
namespace Ev
open PySem PySem.Spec PyProof.Rows L2
section
variable {C:Calls} {ar:Nat->Nat} {n:Nat}
theorem J2 (h:SndW C ar n) {o:Option CE} {w:WP (List D)} {x:XA} (hw:Sd w x):Sd (BB (wT C ar n) o w) (cnd (evT C ar n) o x):=by
 cases o with
 | none=>exact hw
 | some c=>exact Gp h.t hw
theorem yK {α β:Type} {f:α->Sto->Option (β × Sto)} {a:α} {S:Sto} {Q:β->Sto->Prop} (h:wOk f a S Q):Ok (f a S) Q:=h
theorem s_q (h:SndW C ar n) {f:Bool->List D->Sto->Option (D × Sto)} {a:CE}:Sd (wOf (ak a) (wTm C ar n a) (wE C ar n a) (wOk (f false)) (wOk (ag f))) (if ak a=true then oY f (dq C ar n a) else oZ f (evE C ar n a)):=
 s_of (Bu (f:=f false) h.m yK) (Bu (f:=ag f) h.e yK)
theorem DD (h:SndW C ar n) {a:CE}:Sd (wOf (ak a) (wTm C ar n a) (wE C ar n a) (Bz cu) (BA cu)) (if ak a=true then vf cu (dq C ar n a) else vg cu (evE C ar n a)):=s_of (JZ h.m) (J0 h.e)
theorem s_u {g:D->Sto->Option (D × Sto)} {w:WP D} {x:XE} (hw:Sd w x):Sd (wUn (wOk g) w) (xUn g x):=Bu (f:=g) hw yK
theorem Lp {w:WP (List D)} {x:XA} (hw:Sd w x):Sd (wUn (w2 yH) w) (jJ (two xl) x):=fun _ _ _ h=>bf ((hw _ _ _ h).mono fun _ _ h=>DB (fun z=>BC z) h)
theorem Lq {w:WP (List D)} {x:XA} (hw:Sd w x):Sd (wUn (w2 yI) w) (jJ (two xm) x):=fun _ _ _ h=>bf ((hw _ _ _ h).mono fun _ _ h=>DB (fun z=>BD z) h)
theorem J3 {w:WP D} {x:XE} (hw:Sd w x):Sd (wUn aM w) (Au x):=Bu (f:=ko) hw yG
theorem qb:∀ n,SndW C ar n
 | 0=>⟨qa,qa,qa,qa,qa⟩
 | n+1=>by
  have h:=qb n
  refine ⟨fun {e}=>?_,fun {es}=>?_,fun {e}=>?_,fun {i}=>?_,fun {e}=>?_⟩
  ·cases e with
   | non=>exact s_c
   | bl b=>exact s_c
   | int b=>exact s_c
   | str b=>exact s_c
   | var b=>exact JO
   | con b v=>exact s_c
   | tup es=>exact J1 h
   | lst es=>exact iJ (yJ h)
   | bin o a b=>exact yy h.e h.e Bv
   | neg a=>exact JU h.e
   | cmp o a b=>exact yy h.e h.e n8
   | chn o p a b c=>exact Ds h.e h.e h.e
   | and a b=>exact JQ h.e h.e
   | or a b=>exact Lf h.e h.e
   | not a=>exact JS h.e
   | ix a b=>exact Lo h.m h.e h.e
   | sl a lo hi=>exact Li h.e (DC h) (DC h)
   | call f es=>exact Gj h.a
   | inst t a=>exact s_u h.e
   | len a=>exact s_q h
   | all a=>exact s_q h
   | tupOf a=>exact s_q h
   | listR a=>exact iJ (Du h.e)
   | srt a=>exact iJ (DD h)
   | mxL a=>exact s_q h
   | mxD a c=>exact s_q h
   | intOf a=>exact s_u h.e
   | mx a b=>exact Lp h.a
   | mn a b=>exact Lq h.a
   | rep a=>exact s_u h.e
   | comp own elt cls=>cases cls with
    | nil=>exact iJ qa
    | cons c rest=>cases c with | mk tg it cond=>exact iJ (yB h.i)
   | app o a=>exact yA h.e h.a
   | popAt o a=>exact yA h.e h.a
   | cnt o a=>exact yA h.e h.a
  ·cases es with
   | nil=>exact JW
   | cons e es=>exact Gm h.e h.a
  ·cases e with
   | lst es=>exact yJ h
   | listR a=>exact Du h.e
   | srt a=>exact DD h
   | comp own elt cls=>cases cls with
    | nil=>exact qa
    | cons c rest=>cases c with | mk tg it cond=>exact yB h.i
   | _=>exact qa
  ·cases i with
   | val a=>exact s_of (yF h.m) (Lk h.e)
   | r1 a=>exact Lm h.e
   | r2 a b=>exact Ln h.e h.e
   | en a=>exact s_of (yF h.m) (Ll h.e)
  ·cases e with
   | cmp o a b=>exact s_b (yy h.e h.e n8)
   | chn o p a b c=>exact s_b (Ds h.e h.e h.e)
   | and a b=>exact Gn h.t h.t
   | or a b=>exact JY h.t h.t
   | not a=>exact Go h.t
   | _=>exact J3 h.e
theorem Lr {elt:CE} {cls:List Cl}:Sd (wCl C ar n elt cls) (f8 C ar (n+1) elt cls):=by
 cases cls with
 | nil=>exact yF (qb n).e
 | cons c rest=>cases c with | mk tg it cond=>exact Bx (qb n).i
theorem Gq {elt:CE} {cls:List Cl} {o:Option CE} {ρ:Rho} {S:Sto} {Q:List D->Sto->Prop} (h:BB (wT C ar (n+1)) o (wCl C ar n elt cls) ρ S Q):Ok (cnd (evT C ar (n+1)) o (f8 C ar (n+1) elt cls) ρ S) Q:=J2 (qb (n+1)) Lr _ _ _ h
noncomputable def wNm:Nat->D->Rho->(Rho->Prop)->Prop
 | _,_,[],_=>False
 | 0,d,_::ρ,Q=>Q (some d::ρ)
 | i+1,d,o::ρ,Q=>wNm i d ρ fun ρ'=>Q (o::ρ')
theorem oj:∀ {i:Nat} {d:D} {ρ:Rho} {Q:Rho->Prop},wNm i d ρ Q->i < ρ.length/\Q (ρ.set i (some d))
 | i,_,[],_,h=>by cases i <;> exact h.elim
 | 0,d,_::ρ,Q,h=>⟨by simp,h⟩
 | i+1,d,o::ρ,Q,h=>by
  have:=oj (ρ:=ρ) (Q:=fun ρ'=>Q (o::ρ')) h
  exact ⟨by rw [List.length_cons];omega,this.2⟩
noncomputable def wBs:List Tg->List D->Rho->(Rho->Prop)->Prop
 | [],[],ρ,Q=>Q ρ
 | [],_::_,_,_=>False
 | .name _::_,[],_,_=>False
 | .tup _::_,[],_,_=>False
 | .name i::ts,d::ds,ρ,Q=>wNm i d ρ fun ρ1=>wBs ts ds ρ1 Q
 | .tup us::ts,d::ds,ρ,Q=>∃ ρ1,ax (.tup us) d ρ=some ρ1/\wBs ts ds ρ1 Q
noncomputable def wTp (ts:List Tg) (d:D) (ρ:Rho) (Q:Rho->Prop):Prop:=match d with
 | .tup ds=>wBs ts ds ρ Q
 | .non=>False | .bl _=>False | .str _=>False | .int _=>False | .ref _=>False
noncomputable def wBd:Tg->D->Rho->(Rho->Prop)->Prop
 | .name i,d,ρ,Q=>wNm i d ρ Q
 | .tup ts,d,ρ,Q=>wTp ts d ρ Q
theorem yL {i:Nat} {d:D} {ρ:Rho} {Q:Rho->Prop} (h:wNm i d ρ Q):∃ ρ1,ax (.name i) d ρ=some ρ1/\Q ρ1:=⟨_,by rw [Bo,if_pos (oj h).1],(oj h).2⟩
theorem rV:∀ {ts:List Tg} {ds:List D} {ρ:Rho} {Q:Rho->Prop},wBs ts ds ρ Q->∃ ρ1,aK ts ds ρ=some ρ1/\Q ρ1
 | [],[],ρ,Q,h=>⟨ρ,tR,h⟩
 | [],_::_,_,_,h=>h.elim
 | .name _::_,[],_,_,h=>h.elim
 | .tup _::_,[],_,_,h=>h.elim
 | .name i::ts,d::ds,ρ,Q,h=>by
  obtain ⟨ρ1,e,q⟩:=yL h
  obtain ⟨ρ2,e2,q⟩:=rV q
  exact ⟨ρ2,by rw [aK,e];exact e2,q⟩
 | .tup us::ts,d::ds,ρ,Q,h=>by
  obtain ⟨ρ1,e,q⟩:=h
  obtain ⟨ρ2,e2,q⟩:=rV q
  exact ⟨ρ2,by rw [aK,e];exact e2,q⟩
theorem Gr {t:Tg} {d:D} {ρ:Rho} {Q:Rho->Prop} (h:wBd t d ρ Q):∃ ρ1,ax t d ρ=some ρ1/\Q ρ1:=by
 cases t with
 | name i=>exact yL h
 | tup ts=>cases d with
  | tup ds=>rw [yv];exact rV h
  | _=>exact h.elim
noncomputable abbrev WS:=Rho->Sto->(Fl->Rho->Sto->Prop)->Prop
noncomputable def rW (y:WS) (ρ:Rho) (S:Sto) (Q:Fl->Rho->Sto->Prop):Prop:=y ρ S Q
noncomputable def wNx (y:WS) (Q:Fl->Rho->Sto->Prop) (f:Fl) (ρ:Rho) (S:Sto):Prop:=match f with
 | .nx=>rW y ρ S Q
 | .rt d=>Q (.rt d) ρ S
 | .bk=>Q .bk ρ S
 | .ct=>Q .ct ρ S
mutual
noncomputable def wS (C:Calls) (ar:Nat->Nat):Nat->CS->WS
 | 0,_=>fun _ _ _=>False
 | n+1,s=>match s with
  | .asg t e=>fun ρ S Q=>wE C ar n e ρ S fun d S1=>wBd t d ρ fun ρ1=>Q .nx ρ1 S1
  | .setI v o i=>fun ρ S Q=>wE C ar n v ρ S fun a S1=>wE C ar n o ρ S1 fun b S2=>wE C ar n i ρ S2 fun c S3=>∃ S4,kB b c a S3=some S4/\Q .nx ρ S4
  | .ex e=>fun ρ S Q=>wE C ar n e ρ S fun _ S1=>Q .nx ρ S1
  | .ret e=>fun ρ S Q=>wE C ar n e ρ S fun d S1=>Q (.rt d) ρ S1
  | .ifs c a b=>fun ρ S Q=>wT C ar n c ρ S fun t S1=>wIf t (rW (wSs C ar n a) ρ S1 Q) (rW (wSs C ar n b) ρ S1 Q)
  | .for_ t it b=>fun ρ S Q=>wI C ar n it ρ S fun nx S1=>OkS (dZ nx t (gG C ar n b) LF 0 ρ S1) Q
  | .cnt=>fun ρ S Q=>Q .ct ρ S
  | .never=>fun _ _ _=>False
noncomputable def wSs (C:Calls) (ar:Nat->Nat):Nat->List CS->WS
 | 0,_=>fun _ _ _=>False
 | n+1,ss=>match ss with
  | []=>fun ρ S Q=>Q .nx ρ S
  | s::ss=>fun ρ S Q=>wS C ar n s ρ S (wNx (wSs C ar n ss) Q)
end
structure SdS (C:Calls) (ar:Nat->Nat) (n:Nat):Prop where
 s:∀ {s:CS} {ρ S Q},wS C ar n s ρ S Q->OkS (evS C ar n s ρ S) Q
 ss:∀ {ss:List CS} {ρ S Q},wSs C ar n ss ρ S Q->OkS (gG C ar n ss ρ S) Q
theorem yM:∀ n,SdS C ar n
 | 0=>⟨fun h=>by simp only [wS] at h,fun h=>by simp only [wSs] at h⟩
 | n+1=>by
  have h:=yM n
  have g:SndW C ar n:=qb n
  refine ⟨fun {s ρ S Q} w=>?_,fun {ss ρ S Q} w=>?_⟩
  ·cases s with
   | asg t e=>simp only [evS,Bc];simp only [wS] at w;exact (g.e _ _ _ w).mono fun d S1 w=>Gr w
   | setI v o i=>simp only [evS,yp];simp only [wS] at w;exact (g.e _ _ _ w).mono fun a S1 w=>(g.e _ _ _ w).mono fun b S2 w=>g.e _ _ _ w
   | ex e=>simp only [evS,yo];simp only [wS] at w;exact g.e _ _ _ w
   | ret e=>simp only [evS,Be];simp only [wS] at w;exact g.e _ _ _ w
   | ifs c a b=>
    simp only [evS,FN];simp only [wS] at w
    refine (g.t _ _ _ w).mono fun t S1 w=>?_
    cases t with
    | true=>exact h.ss w
    | false=>exact h.ss w
   | for_ t it b=>simp only [evS,Bf];simp only [wS] at w;exact g.i _ _ _ w
   | cnt=>simp only [wS] at w;simp only [evS];exact ⟨_,_,_,rfl,w⟩
   | never=>simp only [wS] at w
  ·cases ss with
   | nil=>simp only [wSs] at w;simp only [gG];exact ⟨_,_,_,rfl,w⟩
   | cons s ss=>
    simp only [wSs] at w
    simp only [gG,Bb]
    refine (h.s w).mono fun f ρ1 S1 w=>?_
    cases f with
    | nx=>exact h.ss w
    | _=>exact w
theorem Gu {ss:List CS} {ρ:Rho} {S:Sto} {Q:Fl->Rho->Sto->Prop} (h:rW (wSs C ar n ss) ρ S Q):OkS (gG C ar n ss ρ S) Q:=(yM n).ss h
theorem yN {s:CS} {ss:List CS} {ρ:Rho} {S:Sto} {Q:Fl->Rho->Sto->Prop} (h:wS C ar n s ρ S (wNx (wSs C ar n ss) Q)):rW (wSs C ar (n+1) (s::ss)) ρ S Q:=h
theorem BE {ρ:Rho} {S:Sto} {Q:Fl->Rho->Sto->Prop} (h:Q .nx ρ S):rW (wSs C ar (n+1) []) ρ S Q:=h
end
end Ev
namespace Ev
open PySem PySem.Spec PyProof.Rows L2
section
variable {C:Calls} {ar:Nat->Nat} {A B:Prop} {S S1:Sto} {Q:D->Sto->Prop} {Ql:List D->Sto->Prop} {Qn:Nxt->Sto->Prop} {Qb:Bool->Prop} {Qi:Int->Prop} {Qd:D->Prop} {Qr:Rho->Prop} {Qt:Bool->Sto->Prop} {Qs:Fl->Rho->Sto->Prop} {t:Bool} {d x y:D} {i j:Int} {n m f:Nat} {s:Str} {o:BOp} {c p:COp} {ds xs ys:List D} {l h:Option Int} {tg:Tg} {ts:List Tg} {ρ ρ2:Rho} {es:List CE} {a b e:CE} {oa ob cd:Option CE} {own:List Str} {it:CI} {rest:List Cl} {ty:Ty} {w wl:WP (List D)} {wv:WP D} {sa sb:List CS} {ws:WS} {od:Option D} {g:D->D->Sto->(D->Sto->Prop)->Prop}
theorem Gv:wE C ar (n+1) (.non) ρ S Q=(Q .non S):=rfl
theorem J4:wE C ar (n+1) (.bl t) ρ S Q=(Q (.bl t) S):=rfl
theorem Gw:wE C ar (n+1) (.int i) ρ S Q=(Q (.int i) S):=rfl
theorem Gx:wE C ar (n+1) (.str s) ρ S Q=(Q (.str s) S):=rfl
theorem Gy:wE C ar (n+1) (.con m i) ρ S Q=(Q (.int i) S):=rfl
theorem Gz:wE C ar (n+1) (.var m) ρ S Q=(rO ρ m fun d=>Q d S):=rfl
theorem GA:wE C ar (n+1) (.tup es) ρ S Q=(eP 60 es (wA C ar n es ρ S fun ds S1=>Q (.tup ds) S1)):=rfl
theorem GC:wE C ar (n+1) (.lst es) ρ S Q=(eP 60 es (wA C ar n es ρ S fun ds S1=>Q (.ref S1.length) (S1++[.lst ds]))):=rfl
theorem GD:wE C ar (n+1) (.bin o a b) ρ S Q=(wE C ar n a ρ S fun x S1=>wE C ar n b ρ S1 fun y S2=>rP o x y S2 Q):=rfl
theorem GF:wE C ar (n+1) (.neg a) ρ S Q=(wE C ar n a ρ S fun d S1=>cV d fun i=>Q (.int (-i)) S1):=rfl
theorem GG:wE C ar (n+1) (.cmp c a b) ρ S Q=(wE C ar n a ρ S fun x S1=>wE C ar n b ρ S1 fun y S2=>wCm c x y S2 Q):=rfl
theorem GH:wE C ar (n+1) (.chn c p a b e) ρ S Q=(wE C ar n a ρ S fun x S1=>wE C ar n b ρ S1 fun y S2=>wCm c x y S2 fun r S3=>wBl r fun t=>wIf t (wE C ar n e ρ S3 fun z S4=>wCm p y z S4 Q) (Q (.bl false) S3)):=rfl
theorem GI:wE C ar (n+1) (.and a b) ρ S Q=(wE C ar n a ρ S fun d S1=>wBl d fun t=>wIf t (wE C ar n b ρ S1 Q) (Q (.bl false) S1)):=rfl
theorem J5:wE C ar (n+1) (.or a b) ρ S Q=(wE C ar n a ρ S fun d S1=>wBl d fun t=>wIf t (Q (.bl true) S1) (wE C ar n b ρ S1 Q)):=rfl
theorem GJ:wE C ar (n+1) (.not a) ρ S Q=(wE C ar n a ρ S fun d S1=>wBl d fun t=>Q (.bl (!t)) S1):=rfl
theorem J6:wE C ar (n+1) (.ix a b) ρ S Q=(be (ak a) (wTm C ar n a) (wE C ar n a) ρ S (fun ds S1=>wE C ar n b ρ S1 fun i S2=>cV i fun k=>∃ d,atI ds k=some d/\Q d S2) (fun d S1=>wE C ar n b ρ S1 fun i S2=>Ok (ixS d i S2) Q)):=rfl
theorem BF:wE C ar (n+1) (.sl a none none) ρ S Q=(wE C ar n a ρ S fun d S1=>rR none none d S1 Q):=rfl
theorem BG:wE C ar (n+1) (.sl a none (some b)) ρ S Q=(wE C ar n a ρ S fun d S1=>wE C ar n b ρ S1 fun y S2=>cV y fun j=>rR none (some j) d S2 Q):=rfl
theorem BH:wE C ar (n+1) (.sl a (some b) none) ρ S Q=(wE C ar n a ρ S fun d S1=>wE C ar n b ρ S1 fun y S2=>cV y fun j=>rR (some j) none d S2 Q):=rfl
theorem BI:wE C ar (n+1) (.sl a (some b) (some e)) ρ S Q=(wE C ar n a ρ S fun d S1=>wE C ar n b ρ S1 fun y S2=>cV y fun j=>wE C ar n e ρ S2 fun z S3=>cV z fun k=>rR (some j) (some k) d S3 Q):=rfl
theorem BJ:wE C ar (n+1) (.call f es) ρ S Q=(wA C ar n es ρ S fun ds S1=>ds.length=ar f/\Ok (C f ds S1) Q):=rfl
theorem BK:wE C ar (n+1) (.inst ty a) ρ S Q=(wE C ar n a ρ S fun d S1=>Ok (kr ty d S1) Q):=rfl
theorem GK:wE C ar (n+1) (.len a) ρ S Q=(be (ak a) (wTm C ar n a) (wE C ar n a) ρ S (fun ds S1=>Ok (bG false ds S1) Q) (fun d S1=>Ok (ag bG d S1) Q)):=rfl
theorem GL:wE C ar (n+1) (.all a) ρ S Q=(be (ak a) (wTm C ar n a) (wE C ar n a) ρ S (fun ds S1=>Ok (lU false ds S1) Q) (fun d S1=>Ok (ag lU d S1) Q)):=rfl
theorem yO:wE C ar (n+1) (.tupOf a) ρ S Q=(be (ak a) (wTm C ar n a) (wE C ar n a) ρ S (fun ds S1=>Ok (dH false ds S1) Q) (fun d S1=>Ok (ag dH d S1) Q)):=rfl
theorem GM:wE C ar (n+1) (.mxL a) ρ S Q=(be (ak a) (wTm C ar n a) (wE C ar n a) ρ S (fun ds S1=>Ok (ky false ds S1) Q) (fun d S1=>Ok (ag ky d S1) Q)):=rfl
theorem GN:wE C ar (n+1) (.mxD a i) ρ S Q=(be (ak a) (wTm C ar n a) (wE C ar n a) ρ S (fun ds S1=>Ok (gg i false ds S1) Q) (fun d S1=>Ok (ag (gg i) d S1) Q)):=rfl
theorem yP:wE C ar (n+1) (.listR a) ρ S Q=(wE C ar n a ρ S fun d S1=>∃ i:Nat,d = .int i/\i<=1000/\Q (.ref S1.length) (S1++[.lst ((List.range i).map fun j=>.int (Int.ofNat j))])):=rfl
theorem GO:wE C ar (n+1) (.srt a) ρ S Q=(be (ak a) (wTm C ar n a) (wE C ar n a) ρ S (fun ds S1=>∃ es,cu false ds=some es/\Q (.ref S1.length) (S1++[.lst es])) (fun d S1=>∃ r es,aq d S1=some r/\cu r.1 r.2=some es/\Q (.ref S1.length) (S1++[.lst es]))):=rfl
theorem yQ:wE C ar (n+1) (.intOf a) ρ S Q=(wE C ar n a ρ S fun d S1=>Ok (xv d S1) Q):=rfl
theorem J7:wE C ar (n+1) (.mx a b) ρ S Q=(wA C ar n [a,b] ρ S fun ds S1=>w2 yH ds S1 Q):=rfl
theorem J8:wE C ar (n+1) (.mn a b) ρ S Q=(wA C ar n [a,b] ρ S fun ds S1=>w2 yI ds S1 Q):=rfl
theorem GP:wE C ar (n+1) (.rep a) ρ S Q=(wE C ar n a ρ S fun d S1=>Ok (kC d S1) Q):=rfl
theorem BL:wE C ar (n+1) (.comp own a (⟨tg,it,cd⟩::rest)) ρ S Q=(wI C ar n it ρ S fun nx S1=>p0 own [] fun r=>p9 ρ r fun ρ'=>wFt tg ρ' (Ok (bj nx tg (cnd (evT C ar n) cd (f8 C ar n a rest)) ρ' LF 0 S1) fun es S2=>es.length<=100000/\Q (.ref S2.length) (S2++[.lst es]))):=rfl
theorem GQ:wE C ar (n+1) (.app a b) ρ S Q=(wE C ar n a ρ S fun d S1=>fm d S1=true/\wA C ar n [b] ρ S1 fun as S2=>Ok (pA d as S2) Q):=rfl
theorem yR:wE C ar (n+1) (.popAt a b) ρ S Q=(wE C ar n a ρ S fun d S1=>fm d S1=true/\wA C ar n [b] ρ S1 fun as S2=>Ok (gC d as S2) Q):=rfl
theorem GR:wE C ar (n+1) (.cnt a b) ρ S Q=(wE C ar n a ρ S fun d S1=>isTup d=true/\wA C ar n [b] ρ S1 fun as S2=>Ok (rB d as S2) Q):=rfl
theorem Ls:wA C ar (n+1) [] ρ S Ql=Ql [] S:=rfl
theorem Lu:wA C ar (n+1) (a::es) ρ S Ql=(wE C ar n a ρ S fun d S1=>wA C ar n es ρ S1 fun ds S2=>Ql (d::ds) S2):=rfl
theorem GS:wTm C ar (n+1) (.lst es) ρ S Ql=eP 60 es (wA C ar n es ρ S Ql):=rfl
theorem yS:wTm C ar (n+1) (.listR a) ρ S Ql=(wE C ar n a ρ S fun d S1=>∃ i:Nat,d = .int i/\i<=1000/\Ql ((List.range i).map fun j=>.int (Int.ofNat j)) S1):=rfl
theorem GU:wTm C ar (n+1) (.srt a) ρ S Ql=(be (ak a) (wTm C ar n a) (wE C ar n a) ρ S (fun ds S1=>∃ es,cu false ds=some es/\Ql es S1) (fun d S1=>∃ r es,aq d S1=some r/\cu r.1 r.2=some es/\Ql es S1)):=rfl
theorem BM:wTm C ar (n+1) (.comp own a (⟨tg,it,cd⟩::rest)) ρ S Ql=(wI C ar n it ρ S fun nx S1=>p0 own [] fun r=>p9 ρ r fun ρ'=>wFt tg ρ' (Ok (bj nx tg (cnd (evT C ar n) cd (f8 C ar n a rest)) ρ' LF 0 S1) fun es S2=>es.length<=100000/\Ql es S2)):=rfl
theorem GV:wI C ar (n+1) (.val a) ρ S Qn=(be (ak a) (wTm C ar n a) (wE C ar n a) ρ S (fun ds S1=>Qn (nxL ds) S1) (fun d S1=>yD d S1 Qn)):=rfl
theorem J9:wI C ar (n+1) (.en a) ρ S Qn=(be (ak a) (wTm C ar n a) (wE C ar n a) ρ S (fun ds S1=>Qn (pC ds) S1) (fun d S1=>yE d S1 Qn)):=rfl
theorem Ka:wI C ar (n+1) (.r1 a) ρ S Qn=(wE C ar n a ρ S fun d S1=>cV d fun j=>lim j=true/\Qn (nxR 0 j.toNat) S1):=rfl
theorem Kb:wI C ar (n+1) (.r2 a b) ρ S Qn=(wE C ar n a ρ S fun d S1=>wE C ar n b ρ S1 fun e S2=>cV d fun i=>cV e fun j=>(lim i=true/\lim j=true)/\Qn (nxR i (j - i).toNat) S2):=rfl
theorem GW:wT C ar (n+1) (.cmp c a b) ρ S Qt=(wE C ar n a ρ S fun x S1=>wE C ar n b ρ S1 fun y S2=>wCm c x y S2 fun d S3=>wBl d fun t=>Qt t S3):=rfl
theorem GX:wT C ar (n+1) (.chn c p a b e) ρ S Qt=(wE C ar n a ρ S fun x S1=>wE C ar n b ρ S1 fun y S2=>wCm c x y S2 fun r S3=>wBl r fun t=>wIf t (wE C ar n e ρ S3 fun z S4=>wCm p y z S4 fun d S5=>wBl d fun t=>Qt t S5) (wBl (.bl false) fun t=>Qt t S3)):=rfl
theorem GY:wT C ar (n+1) (.and a b) ρ S Qt=(wT C ar n a ρ S fun t S1=>wIf t (wT C ar n b ρ S1 Qt) (Qt false S1)):=rfl
theorem Kd:wT C ar (n+1) (.or a b) ρ S Qt=(wT C ar n a ρ S fun t S1=>wIf t (Qt true S1) (wT C ar n b ρ S1 Qt)):=rfl
theorem GZ:wT C ar (n+1) (.not a) ρ S Qt=(wT C ar n a ρ S fun t S1=>Qt (!t) S1):=rfl
theorem Ke:wT C ar (n+1) (.bl t) ρ S Qt=(wE C ar n (.bl t) ρ S fun d S1=>aM d S1 Qt):=rfl
theorem G0:wT C ar (n+1) (.var m) ρ S Qt=(wE C ar n (.var m) ρ S fun d S1=>aM d S1 Qt):=rfl
theorem BN:wT C ar (n+1) (.call f es) ρ S Qt=(wE C ar n (.call f es) ρ S fun d S1=>aM d S1 Qt):=rfl
theorem BO:wT C ar (n+1) (.inst ty a) ρ S Qt=(wE C ar n (.inst ty a) ρ S fun d S1=>aM d S1 Qt):=rfl
theorem G1:wT C ar (n+1) (.all a) ρ S Qt=(wE C ar n (.all a) ρ S fun d S1=>aM d S1 Qt):=rfl
theorem G2:wT C ar (n+1) (.len a) ρ S Qt=(wE C ar n (.len a) ρ S fun d S1=>aM d S1 Qt):=rfl
theorem Kf:wT C ar (n+1) (.ix a b) ρ S Qt=(wE C ar n (.ix a b) ρ S fun d S1=>aM d S1 Qt):=rfl
theorem G3:wT C ar (n+1) (.lst es) ρ S Qt=(wE C ar n (.lst es) ρ S fun d S1=>aM d S1 Qt):=rfl
theorem G4:wT C ar (n+1) (.tup es) ρ S Qt=(wE C ar n (.tup es) ρ S fun d S1=>aM d S1 Qt):=rfl
theorem Lv:wCl C ar n a [] ρ S Ql=(wE C ar n a ρ S fun d S1=>Ql [d] S1):=rfl
theorem Lx:wCl C ar n a (⟨tg,it,cd⟩::rest) ρ S Ql=(wFt tg ρ (wI C ar n it ρ S fun nx S1=>Ok (bj nx tg (cnd (evT C ar n) cd (f8 C ar n a rest)) ρ LF 0 S1) Ql)):=rfl
theorem Ly:BB (wT C ar n) none w ρ S Ql=w ρ S Ql:=rfl
theorem Lz:BB (wT C ar n) (some a) w ρ S Ql=(wT C ar n a ρ S fun t S1=>wIf t (w ρ S1 Ql) (Ql [] S1)):=rfl
theorem G5:wS C ar (n+1) (.asg tg a) ρ S Qs=(wE C ar n a ρ S fun d S1=>wBd tg d ρ fun ρ1=>Qs .nx ρ1 S1):=rfl
theorem BP:wS C ar (n+1) (.setI a b e) ρ S Qs=(wE C ar n a ρ S fun x S1=>wE C ar n b ρ S1 fun y S2=>wE C ar n e ρ S2 fun z S3=>∃ S4,kB y z x S3=some S4/\Qs .nx ρ S4):=rfl
theorem Kg:wS C ar (n+1) (.ex a) ρ S Qs=(wE C ar n a ρ S fun _ S1=>Qs .nx ρ S1):=rfl
theorem G6:wS C ar (n+1) (.ret a) ρ S Qs=(wE C ar n a ρ S fun d S1=>Qs (.rt d) ρ S1):=rfl
theorem G7:wS C ar (n+1) (.ifs a sa sb) ρ S Qs=(wT C ar n a ρ S fun t S1=>wIf t (rW (wSs C ar n sa) ρ S1 Qs) (rW (wSs C ar n sb) ρ S1 Qs)):=rfl
theorem G8:wS C ar (n+1) (.for_ tg it sa) ρ S Qs=(wI C ar n it ρ S fun nx S1=>OkS (dZ nx tg (gG C ar n sa) LF 0 ρ S1) Qs):=rfl
theorem G9:wS C ar (n+1) .cnt ρ S Qs=Qs .ct ρ S:=rfl
theorem Kh:wNx ws Qs .nx ρ S=rW ws ρ S Qs:=rfl
theorem Ki:wNx ws Qs (.rt d) ρ S=Qs (.rt d) ρ S:=rfl
theorem Kj:wNx ws Qs .bk ρ S=Qs .bk ρ S:=rfl
theorem Kk:wNx ws Qs .ct ρ S=Qs .ct ρ S:=rfl
theorem Ha:wIf (true && t) A B=wIf t A B:=rfl
theorem Hb:wIf (false && t) A B=B:=rfl
theorem Hc:wIf (true || t) A B=A:=rfl
theorem BQ:wIf (false || t) A B=wIf t A B:=rfl
theorem BR:wIf (!(true && t)) A B=wIf (!t) A B:=rfl
theorem BS:wIf (!(false && t)) A B=A:=rfl
theorem BT:wIf (!(true || t)) A B=B:=rfl
theorem BU:wIf (!(false || t)) A B=wIf (!t) A B:=rfl
theorem Kl:wIf true A B=A:=rfl
theorem Km:wIf false A B=B:=rfl
theorem Hd:wIf (!true) A B=B:=rfl
theorem He:wIf (!false) A B=A:=rfl
theorem Kn:wBl (.bl t) Qb=Qb t:=rfl
theorem Hf:cV (.int i) Qi=Qi i:=rfl
theorem Hg:rO (some d::ρ) 0 Qd=Qd d:=rfl
theorem Hh:rO (od::ρ) (n+1) Qd=rO ρ n Qd:=rfl
theorem Ko:wFr (none::ρ) 0 A=A:=rfl
theorem Kq:wFr (od::ρ) (n+1) A=wFr ρ n A:=rfl
theorem Hi:pZ [] ρ A=A:=rfl
theorem Hj:pZ (.name m::ts) ρ A=wFr ρ m (pZ ts ρ A):=rfl
theorem Kr:wFt (.name m) ρ A=wFr ρ m A:=rfl
theorem Kt:wFt (.tup ts) ρ A=pZ ts ρ A:=rfl
theorem Hk:p0 [] ρ Qr=Qr ρ:=rfl
theorem Hl:p0 (s::own) ρ Qr=p0 own (none::ρ) Qr:=rfl
theorem Hm:p9 [] ρ Qr=Qr ρ:=rfl
theorem Hn:p9 (od::ρ) ρ2 Qr=p9 ρ ρ2 fun r=>Qr (od::r):=rfl
theorem Ku:eP (n+1) [] A=A:=rfl
theorem Kv:eP (n+1) (a::es) A=eP n es A:=rfl
theorem Kw:wNm 0 d (od::ρ) Qr=Qr (some d::ρ):=rfl
theorem Kx:wNm (n+1) d (od::ρ) Qr=wNm n d ρ fun r=>Qr (od::r):=rfl
theorem Ky:wBs [] [] ρ Qr=Qr ρ:=rfl
theorem Kz:wBs (.name m::ts) (d::ds) ρ Qr=wNm m d ρ fun r=>wBs ts ds r Qr:=rfl
theorem KA:wBd (.name m) d ρ Qr=wNm m d ρ Qr:=rfl
theorem KB:wBd (.tup ts) d ρ Qr=wTp ts d ρ Qr:=rfl
theorem KC:wTp ts (.tup ds) ρ Qr=wBs ts ds ρ Qr:=rfl
theorem BV:wII .add i j S Q=Q (.int (i+j)) S:=rfl
theorem BW:wII .sub i j S Q=Q (.int (i - j)) S:=rfl
theorem BX:wII .mul i j S Q=(ig i j=true/\Q (.int (i * j)) S):=rfl
theorem BZ:wII .mod i j S Q=(0 < j/\Q (.int (i % j)) S):=rfl
theorem yT:wII .fdiv i j S Q=((0 < j/\j < 1073741824)/\Q (.int (i / j)) S):=rfl
theorem B0:wII .pow i j S Q=((0<=j/\j<=1000000/\i.natAbs < 2 ^ 64)/\Q (.int (i ^ j.toNat)) S):=rfl
theorem B1:wTT .add xs ys S Q=(xs.length+ys.length<=1000/\Q (.tup (xs++ys)) S):=rfl
theorem B2:yz o i (.int j) S Q=wII o i j S Q:=rfl
theorem B3:tW o xs (.tup ys) S Q=wTT o xs ys S Q:=rfl
theorem B4:tW o xs (.int j) S Q=Ok (bI o (.tup xs) (.int j) S) Q:=rfl
theorem Ho:rP o (.int i) y S Q=yz o i y S Q:=rfl
theorem Hq:rP o (.tup xs) y S Q=tW o xs y S Q:=rfl
theorem Hr:rP o (.ref n) y S Q=Ok (bI o (.ref n) y S) Q:=rfl
theorem Hs:rP o (.str s) y S Q=Ok (bI o (.str s) y S) Q:=rfl
theorem Ht:wCI .eq i j S Q=Q (.bl (decide (i=j))) S:=rfl
theorem Hu:wCm .eq x y S Q=wCx .eq x y S Q:=rfl
theorem Hv:wCI .ne i j S Q=Q (.bl (!decide (i=j))) S:=rfl
theorem Hw:wCm .ne x y S Q=wCx .ne x y S Q:=rfl
theorem Hx:wCI .lt i j S Q=Q (.bl (decide (i < j))) S:=rfl
theorem Hy:wCm .lt x y S Q=wCx .lt x y S Q:=rfl
theorem Hz:wCI .le i j S Q=Q (.bl (decide (i<=j))) S:=rfl
theorem HA:wCm .le x y S Q=wCx .le x y S Q:=rfl
theorem HB:wCI .gt i j S Q=Q (.bl (decide (j < i))) S:=rfl
theorem HC:wCm .gt x y S Q=wCx .gt x y S Q:=rfl
theorem HD:wCI .ge i j S Q=Q (.bl (decide (j<=i))) S:=rfl
theorem HE:wCm .ge x y S Q=wCx .ge x y S Q:=rfl
theorem HF:wCm .is x y S Q=Ok (ay .is x y S) Q:=rfl
theorem vt:wCm .isnot x y S Q=Ok (ay .isnot x y S) Q:=rfl
theorem yU:wCm .isin x y S Q=Ok (ay .isin x y S) Q:=rfl
theorem vA:wCm .notin x y S Q=Ok (ay .notin x y S) Q:=rfl
theorem KD:wCx c (.int i) y S Q=Gg c i y S Q:=rfl
theorem KF:wCx c (.tup xs) y S Q=rQ c xs y S Q:=rfl
theorem KG:wCx c .non y S Q=Ok (ay c .non y S) Q:=rfl
theorem KH:wCx c (.bl t) y S Q=Ok (ay c (.bl t) y S) Q:=rfl
theorem KI:wCx c (.str s) y S Q=Ok (ay c (.str s) y S) Q:=rfl
theorem KJ:wCx c (.ref n) y S Q=Ok (ay c (.ref n) y S) Q:=rfl
theorem HG:Gg c i (.int j) S Q=wCI c i j S Q:=rfl
theorem HH:rQ .eq xs (.tup []) S Q=Q (.bl xs.isEmpty) S:=rfl
theorem HI:rQ .ne xs (.tup []) S Q=Q (.bl (!xs.isEmpty)) S:=rfl
theorem B5:rQ .eq xs (.tup (y::ys)) S Q=Ok (ay .eq (.tup xs) (.tup (y::ys)) S) Q:=rfl
theorem B6:rQ .ne xs (.tup (y::ys)) S Q=Ok (ay .ne (.tup xs) (.tup (y::ys)) S) Q:=rfl
theorem HJ:rR l h (.tup ds) S Q=Q (.tup (cC ds l h)) S:=rfl
theorem HK:rR l h (.ref n) S Q=Ok (slS l h (.ref n) S) Q:=rfl
theorem HL:yD (.tup ds) S Qn=Qn (nxL ds) S:=rfl
theorem HM:yD (.ref n) S Qn=((au S n).isSome=true/\Qn (nxS n) S):=rfl
theorem HN:yE (.tup ds) S Qn=Qn (pC ds) S:=rfl
theorem HP:yE (.ref n) S Qn=((au S n).isSome=true/\Qn (Az n) S):=rfl
theorem B7:aM (.bl t) S Qt=Qt t S:=rfl
theorem B8:aM (.tup ds) S Qt=Qt (!ds.isEmpty) S:=rfl
theorem B9:aM (.int i) S Qt=Qt (i != 0) S:=rfl
theorem Ca:aM (.ref n) S Qt=Ok (ko (.ref n) S) Qt:=rfl
theorem LA:w2 g [x,y] S Q=g x y S Q:=rfl
theorem HQ:yH (.int i) (.int j) S Q=Q (.int (if j > i then j else i)) S:=rfl
theorem HR:yI (.int i) (.int j) S Q=Q (.int (if j < i then j else i)) S:=rfl
theorem Cb:be (ak (.lst es)) wl wv ρ S Ql Q=wl ρ S Ql:=rfl
theorem vB:be (ak (.listR a)) wl wv ρ S Ql Q=wl ρ S Ql:=rfl
theorem Cc:be (ak (.srt a)) wl wv ρ S Ql Q=wl ρ S Ql:=rfl
theorem yV:be (ak (.comp own a rest)) wl wv ρ S Ql Q=wl ρ S Ql:=rfl
theorem Cd:be (ak (.non)) wl wv ρ S Ql Q=wv ρ S Q:=rfl
theorem HS:be (ak (.bl t)) wl wv ρ S Ql Q=wv ρ S Q:=rfl
theorem Ce:be (ak (.int i)) wl wv ρ S Ql Q=wv ρ S Q:=rfl
theorem Cf:be (ak (.str s)) wl wv ρ S Ql Q=wv ρ S Q:=rfl
theorem Cg:be (ak (.var m)) wl wv ρ S Ql Q=wv ρ S Q:=rfl
theorem Ch:be (ak (.con m i)) wl wv ρ S Ql Q=wv ρ S Q:=rfl
theorem Ci:be (ak (.tup es)) wl wv ρ S Ql Q=wv ρ S Q:=rfl
theorem Cj:be (ak (.bin o a b)) wl wv ρ S Ql Q=wv ρ S Q:=rfl
theorem Ck:be (ak (.neg a)) wl wv ρ S Ql Q=wv ρ S Q:=rfl
theorem Cm:be (ak (.cmp c a b)) wl wv ρ S Ql Q=wv ρ S Q:=rfl
theorem Cn:be (ak (.chn c p a b e)) wl wv ρ S Ql Q=wv ρ S Q:=rfl
theorem Co:be (ak (.and a b)) wl wv ρ S Ql Q=wv ρ S Q:=rfl
theorem HU:be (ak (.or a b)) wl wv ρ S Ql Q=wv ρ S Q:=rfl
theorem Cp:be (ak (.not a)) wl wv ρ S Ql Q=wv ρ S Q:=rfl
theorem HV:be (ak (.ix a b)) wl wv ρ S Ql Q=wv ρ S Q:=rfl
theorem HW:be (ak (.sl a oa ob)) wl wv ρ S Ql Q=wv ρ S Q:=rfl
theorem yW:be (ak (.call f es)) wl wv ρ S Ql Q=wv ρ S Q:=rfl
theorem yX:be (ak (.inst ty a)) wl wv ρ S Ql Q=wv ρ S Q:=rfl
theorem Cq:be (ak (.len a)) wl wv ρ S Ql Q=wv ρ S Q:=rfl
theorem Cr:be (ak (.all a)) wl wv ρ S Ql Q=wv ρ S Q:=rfl
theorem vC:be (ak (.tupOf a)) wl wv ρ S Ql Q=wv ρ S Q:=rfl
theorem Cs:be (ak (.mxL a)) wl wv ρ S Ql Q=wv ρ S Q:=rfl
theorem Ct:be (ak (.mxD a i)) wl wv ρ S Ql Q=wv ρ S Q:=rfl
theorem vD:be (ak (.intOf a)) wl wv ρ S Ql Q=wv ρ S Q:=rfl
theorem HX:be (ak (.mx a b)) wl wv ρ S Ql Q=wv ρ S Q:=rfl
theorem HY:be (ak (.mn a b)) wl wv ρ S Ql Q=wv ρ S Q:=rfl
theorem Cu:be (ak (.rep a)) wl wv ρ S Ql Q=wv ρ S Q:=rfl
theorem Cv:be (ak (.app a b)) wl wv ρ S Ql Q=wv ρ S Q:=rfl
theorem vE:be (ak (.popAt a b)) wl wv ρ S Ql Q=wv ρ S Q:=rfl
theorem Cw:be (ak (.cnt a b)) wl wv ρ S Ql Q=wv ρ S Q:=rfl
theorem aa {α:Type} {z:Option (α × Sto)} {r:α} {S2:Sto} {K:α->Sto->Prop} (e:z=some (r,S2)) (q:K r S2):Ok z K:=⟨r,S2,e,q⟩
theorem aU (h1:t=true->A) (h2:t=false->B):wIf t A B:=by
 cases t with
 | true=>exact h1 rfl
 | false=>exact h2 rfl
end
end Ev
local macro_rules | `(tactic| k_go)=>`(tactic| dsimp only [↓Ev.Gv,↓Ev.J4,↓Ev.Gw,↓Ev.Gx,↓Ev.Gy,↓Ev.Gz,↓Ev.GA,↓Ev.GC,↓Ev.GD,↓Ev.GF,↓Ev.GG,↓Ev.GH,↓Ev.GI,↓Ev.J5,↓Ev.GJ,↓Ev.J6,↓Ev.BF,↓Ev.BG,↓Ev.BH,↓Ev.BI,↓Ev.BJ,↓Ev.BK,↓Ev.GK,↓Ev.GL,↓Ev.yO,↓Ev.GM,↓Ev.GN,↓Ev.yP,↓Ev.GO,↓Ev.yQ,↓Ev.J7,↓Ev.J8,↓Ev.GP,↓Ev.BL,↓Ev.GQ,↓Ev.yR,↓Ev.GR,↓Ev.Ls,↓Ev.Lu,↓Ev.GS,↓Ev.yS,↓Ev.GU,↓Ev.BM,↓Ev.GV,↓Ev.J9,↓Ev.Ka,↓Ev.Kb,↓Ev.GW,↓Ev.GX,↓Ev.GY,↓Ev.Kd,↓Ev.GZ,↓Ev.Ke,↓Ev.G0,↓Ev.BN,↓Ev.BO,↓Ev.G1,↓Ev.G2,↓Ev.Kf,↓Ev.G3,↓Ev.G4,↓Ev.Lv,↓Ev.Lx,↓Ev.Ly,↓Ev.Lz,↓Ev.G5,↓Ev.BP,↓Ev.Kg,↓Ev.G6,↓Ev.G7,↓Ev.G8,↓Ev.G9,↓Ev.Kh,↓Ev.Ki,↓Ev.Kj,↓Ev.Kk,↓Ev.Ha,↓Ev.Hb,↓Ev.Hc,↓Ev.BQ,↓Ev.BR,↓Ev.BS,↓Ev.BT,↓Ev.BU,↓Ev.Kl,↓Ev.Km,↓Ev.Hd,↓Ev.He,↓Ev.Kn,↓Ev.Hf,↓Ev.Hg,↓Ev.Hh,↓Ev.Ko,↓Ev.Kq,↓Ev.Hi,↓Ev.Hj,↓Ev.Kr,↓Ev.Kt,↓Ev.Hk,↓Ev.Hl,↓Ev.Hm,↓Ev.Hn,↓Ev.Ku,↓Ev.Kv,↓Ev.Kw,↓Ev.Kx,↓Ev.Ky,↓Ev.Kz,↓Ev.KA,↓Ev.KB,↓Ev.KC,↓Ev.BV,↓Ev.BW,↓Ev.BX,↓Ev.BZ,↓Ev.yT,↓Ev.B0,↓Ev.B1,↓Ev.B2,↓Ev.B3,↓Ev.B4,↓Ev.Ho,↓Ev.Hq,↓Ev.Hr,↓Ev.Hs,↓Ev.Ht,↓Ev.Hu,↓Ev.Hv,↓Ev.Hw,↓Ev.Hx,↓Ev.Hy,↓Ev.Hz,↓Ev.HA,↓Ev.HB,↓Ev.HC,↓Ev.HD,↓Ev.HE,↓Ev.HF,↓Ev.vt,↓Ev.yU,↓Ev.vA,↓Ev.KD,↓Ev.KF,↓Ev.KG,↓Ev.KH,↓Ev.KI,↓Ev.KJ,↓Ev.HG,↓Ev.HH,↓Ev.HI,↓Ev.B5,↓Ev.B6,↓Ev.HJ,↓Ev.HK,↓Ev.HL,↓Ev.HM,↓Ev.HN,↓Ev.HP,↓Ev.B7,↓Ev.B8,↓Ev.B9,↓Ev.Ca,↓Ev.LA,↓Ev.HQ,↓Ev.HR,↓Ev.Cb,↓Ev.vB,↓Ev.Cc,↓Ev.yV,↓Ev.Cd,↓Ev.HS,↓Ev.Ce,↓Ev.Cf,↓Ev.Cg,↓Ev.Ch,↓Ev.Ci,↓Ev.Cj,↓Ev.Ck,↓Ev.Cm,↓Ev.Cn,↓Ev.Co,↓Ev.HU,↓Ev.Cp,↓Ev.HV,↓Ev.HW,↓Ev.yW,↓Ev.yX,↓Ev.Cq,↓Ev.Cr,↓Ev.vC,↓Ev.Cs,↓Ev.Ct,↓Ev.vD,↓Ev.HX,↓Ev.HY,↓Ev.Cu,↓Ev.Cv,↓Ev.vE,↓Ev.Cw,↓Ev.FO,↓Ev.FP])
local macro_rules | `(tactic| k_is)=>`(tactic| ((with_reducible first | refine Ev.Gu ?_ | refine Ev.Gq ?_ | refine Ev.wcl_ok ?_ | skip);(try dsimp only [List.set_cons_zero,List.set_cons_succ]);(try k_go);(repeat ((with_reducible first | refine Ev.yN ?_ | refine Ev.BE ?_);(try k_go)))))
namespace Lw
open PySem Ev
variable {p:Nat} {S:Sto} {k:Nat} {Q:D->Sto->Prop}
theorem yY {t:Dw.D} {d:D} (h:TD p S t d) (q:Q (.bl (Dw.isW t)) S):Ok (evC aj (k+1) kO [d] S) Q:=by
 refine aG (d:=gK) (ρ:=[some d]) rfl rfl ?_
 dsimp only [gK,kZ]
 k_is
 refine aa (nY h) ?_;k_is
 cases t <;> first | exact q | (k_is;rw [nY h,ao];exact q)
theorem bN {t:Dw.D} {d:D} {a b:Int} (h:TD p S t d) (q:Q (.bl (Dw.az t a b)) S):Ok (evC aj (k+2) bm [d,.int a,.int b] S) Q:=by
 refine aG (d:=fu) (ρ:=[some d,some (.int a),some (.int b)]) rfl rfl ?_
 dsimp only [fu,jv]
 k_is
 refine ⟨rfl,yY h ?_⟩
 k_is
 cases t with
 | int i=>
  obtain rfl:=h.int
  dsimp only [Dw.isW];k_is
  dsimp only [Dw.az] at q
  cases c:decide (a<=i) with
  | true=>rw [c] at q;exact q
  | false=>rw [c] at q;exact q
 | _=>exact q
theorem fY {t:Dw.D} {d:D} (h:TD p S t d) (q:Q (.bl (Dw.az t 0 9999)) S):Ok (evC aj (k+3) cn [d] S) Q:=by
 refine aG (d:=fv) (ρ:=[some d]) rfl rfl ?_
 dsimp only [fv,jw]
 k_is
 exact ⟨rfl,bN h q⟩
theorem bD {t:Dw.D} {d:D} {a b:Int} (h:TD p S t d) (q:Q (.bl (Dw.isT t a b)) S):Ok (evC aj (k+1) bc [d,.int a,.int b] S) Q:=by
 refine aG (d:=gL) (ρ:=[some d,some (.int a),some (.int b)]) rfl rfl ?_
 dsimp only [gL,k6]
 k_is
 refine aa (nY h) ?_;k_is
 cases t with
 | tup ts=>
  obtain ⟨ds,rfl,hs⟩:=h.tup
  rw [show fj Ty.tuple (tyT (Dw.D.tup ts))=true from rfl];k_is
  refine aa (jc hs) ?_;k_is
  dsimp only [Dw.isT] at q
  cases c:decide (a<=(ts.length:Int)) with
  | true=>rw [c] at q;exact q
  | false=>rw [c] at q;exact q
 | _=>exact q
theorem HZ {t:Dw.D} {d:D} {n:Nat} (h:TD p S t d) (hn:n<=1000) (q:∀ S',Sm S S'->Q (.bl (Dw.ga n t)) S'):Ok (evC aj (k+3) iz [d,.int n] S) Q:=by
 refine aG (d:=eJ) (ρ:=[some d,some (.int n)]) rfl rfl ?_
 dsimp only [eJ,iE]
 k_is
 refine ⟨rfl,bD h ?_⟩
 k_is
 cases t with
 | tup ts=>
  obtain ⟨ds,rfl,hs⟩:=h.tup
  rw [Dw.nk]
  by_cases hl:ts.length=n
  ·rw [decide_eq_true hl];k_is
   refine eN hs (by omega) (fun e=>Dw.az e 1 99) (fun i t d S' _ sm td=>⟨_,rfl,?_⟩) fun S' sm=>?_
   ·k_is
    exact ⟨rfl,bN td ⟨rfl,Sm.refl _⟩⟩
   ·rw [cf,ao]
    have:=q S' sm
    simp only [Dw.ga,decide_eq_true hl,Bool.true_and] at this
    exact this
  ·rw [decide_eq_false hl];k_is
   have:=q S (Sm.refl S)
   simp only [Dw.ga,decide_eq_false hl,Bool.false_and] at this
   exact this
 | _=>exact q S (Sm.refl S)
theorem H8 {rows:List Dw.D} {d:D} (h:TD p S (.tup rows) d) (hl:rows.length<=4) (hr:rows.all (Dw.ga rows.length)=true) (q:∀ S',Sm S S'->Q (.bl ((Dw.uC rows rows.length).all id)) S'):Ok (evC aj (k+1) bE [d] S) Q:=by
 obtain ⟨ds,rfl,hs⟩:=h.tup
 refine aG (d:=bg) (ρ:=[some (.tup ds),none]) rfl rfl ?_
 dsimp only [bg,bF]
 k_is
 refine aa (jc hs) ?_
 refine ⟨_,rfl,by omega,?_⟩
 k_is
 have hm:(S++[Ob.lst ((List.range rows.length).map fun j=>D.int (Int.ofNat j))])[S.length]?=some (.lst ((List.range rows.length).map fun j=>D.int (Int.ofNat j))):=by rw [List.getElem?_append_right (Nat.le_refl _),Nat.sub_self];rfl
 have sq:∀ S',Sm (S++[Ob.lst ((List.range rows.length).map fun j=>D.int (Int.ofNat j))]) S'->(au S' S.length).isSome=true:=fun S' sm=>by simp only [au,sm _ _ hm];rfl
 refine ⟨sq _ (Sm.refl _),?_⟩
 refine (rN hm (by omega) (fun a=>(List.range rows.length).flatMap fun b=>(List.range rows.length).flatMap fun c=>[.bl (Dw.qI rows a b c)]) fun a S1 ha sm1=>⟨_,rfl,?_⟩).mono fun es S2 ⟨ee,sm⟩=>?_
 ·k_is
  refine ⟨sq _ sm1,?_⟩
  refine rN (sm1 _ _ hm) (by omega) _ fun b S2 hb sm2=>⟨_,rfl,?_⟩
  k_is
  refine ⟨sq _ (sm1.trans sm2),?_⟩
  refine rN (sm2 _ _ (sm1 _ _ hm)) (by omega) _ fun c S3 hc sm3=>⟨_,rfl,?_⟩
  k_is
  have hs3:TDs p S3 rows ds:=hs.keep (((Sm.app S _).trans sm1).trans (sm2.trans sm3)).kp
  obtain ⟨ra,xab,e1,e2,e3,_⟩:=Dw.nq hr ha hb
  obtain ⟨ra',xac,e1',e2',e3',_⟩:=Dw.nq hr ha hc
  obtain ⟨rc,xcb,f1,f2,f3,_⟩:=Dw.nq hr hc hb
  rw [e1] at e1'
  cases e1'
  refine bL hs3 e1 fun d1 t1=>?_
  obtain ⟨da,rfl,ha'⟩:=t1.tup
  refine bL ha' e2 fun d2 t2=>?_
  obtain rfl:=t2.int
  refine bL hs3 e1 fun d1 t1=>?_
  obtain ⟨da',rfl,ha''⟩:=t1.tup
  refine bL ha'' e2' fun d2 t2=>?_
  obtain rfl:=t2.int
  refine bL hs3 f1 fun d1 t1=>?_
  obtain ⟨dc,rfl,hc'⟩:=t1.tup
  refine bL hc' f2 fun d2 t2=>?_
  obtain rfl:=t2.int
  k_is
  refine ⟨?_,Sm.refl _⟩
  rw [<-e3,<-e3',<-f3];rfl
 ·subst ee
  have e:((List.range rows.length).flatMap fun a=>(List.range rows.length).flatMap fun b=>(List.range rows.length).flatMap fun c=>[D.bl (Dw.qI rows a b c)])=(Dw.uC rows rows.length).map fun b=>D.bl b:=by
   have one:∀ (l:List Nat) (f:Nat->D),(l.flatMap fun c=>[f c])=l.map f:=fun l f=>by
    induction l with
    | nil=>rfl
    | cons a l ih=>rw [List.flatMap_cons,ih];rfl
   unfold Dw.uC
   simp only [List.map_flatMap,List.map_map,Function.comp_def,one]
  rw [e,cf,ao]
  refine ⟨?_,?_⟩
  ·rw [List.length_map]
   have:=Dw.sK (n:=rows.length) (m:=16) (f:=fun a=>(List.range rows.length).flatMap fun b=>(List.range rows.length).map fun c=>Dw.qI rows a b c) fun a _=>by
    have:=Dw.sK (n:=rows.length) (m:=4) (f:=fun b=>(List.range rows.length).map fun c=>Dw.qI rows a b c) fun b _=>by rw [List.length_map,List.length_range];exact hl
    omega
   unfold Dw.uC
   omega
  ·exact q _ ((Sm.app S _).trans sm)
end Lw
namespace Lw
open PySem Ev
variable {p:Nat} {S:Sto} {k:Nat} {Q:D->Sto->Prop}
theorem Cy {t:Dw.D} {d:D} (h:TD p S t d) (q:∀ S',Sm S S'->Q (.bl (Dw.bQ t)) S'):Ok (evC aj (k+4) kP [d] S) Q:=by
 refine aG (d:=gM) (ρ:=[some d]) rfl rfl ?_
 dsimp only [gM,k7]
 k_is
 refine ⟨rfl,bD h ?_⟩
 k_is
 cases t with
 | tup ts=>
  obtain ⟨ds,rfl,hs⟩:=h.tup
  rw [Dw.Es]
  by_cases hl:1<=ts.length/\ts.length<=4
  ·rw [decide_eq_true hl.1,decide_eq_true hl.2]
   k_is
   refine eN hs (by omega) (Dw.ga ts.length) (fun i t d S' _ sm td=>⟨_,rfl,?_⟩) fun S' sm=>?_
   ·k_is
    have hs':TDs p S' ts ds:=hs.keep sm.kp
    refine aa (jc hs') ?_
    exact ⟨rfl,HZ td (by omega) fun S2 sm2=>⟨rfl,sm2⟩⟩
   ·rw [cf,ao]
    k_is
    refine aU (fun hr=>?_) fun hr=>?_
    ·refine ⟨rfl,H8 (h.keep sm.kp) hl.2 hr fun S2 sm2=>?_⟩
     have:=q S2 (sm.trans sm2)
     simp only [Dw.bQ,decide_eq_true hl.1,decide_eq_true hl.2,hr,Bool.true_and] at this
     exact this
    ·have:=q S' sm
     simp only [Dw.bQ,decide_eq_true hl.1,decide_eq_true hl.2,hr,Bool.true_and,Bool.false_and] at this
     exact this
  ·have e:(decide (1<=ts.length) && decide (ts.length<=4))=false:=by simpa using hl
   rw [e]
   have:=q S (Sm.refl S)
   simp only [Dw.bQ,e,Bool.false_and] at this
   exact this
 | _=>exact q S (Sm.refl S)
theorem rX {t:Dw.D} {d:D} (h:TD p S t d) (q:Q (.bl (Dw.ba t)) S):Ok (evC aj (k+4) iA [d] S) Q:=by
 refine aG (d:=eK) (ρ:=[some d]) rfl rfl ?_
 dsimp only [eK,iG]
 k_is
 refine ⟨rfl,bD h ?_⟩
 k_is
 cases t with
 | tup ts=>
  obtain ⟨ds,rfl,hs⟩:=h.tup
  rw [Dw.wK]
  by_cases hl:ts.length=2
  ·obtain ⟨b,e,rfl⟩:=Dw.wM hl
   rw [decide_eq_true hl];k_is
   refine bL (i:=0) hs rfl fun d1 t1=>⟨rfl,fY t1 ?_⟩
   k_is
   simp only [Dw.ba] at q
   refine aU (fun h1=>?_) fun h1=>?_
   ·rw [h1] at q
    refine bL (i:=1) hs rfl fun d2 t2=>⟨rfl,fY t2 ?_⟩
    k_is
    refine aU (fun h2=>?_) fun h2=>?_
    ·rw [h2] at q
     refine bL (i:=0) hs rfl fun d1 t1=>bL (i:=1) hs rfl fun d2 t2=>?_
     obtain ⟨i,rfl,_⟩:=Dw.aA h1
     obtain ⟨j,rfl,_⟩:=Dw.aA h2
     obtain rfl:=t1.int
     obtain rfl:=t2.int
     exact q
    ·rw [h2] at q
     exact q
   ·rw [h1] at q
    exact q
  ·rw [decide_eq_false hl]
   rw [Dw.qL hl] at q
   exact q
 | _=>exact q
theorem yZ {t:Dw.D} {d:D} (h:TD p S t d) (q:∀ S',Sm S S'->Q (.bl (Dw.bA t)) S'):Ok (evC aj (k+5) jq [d] S) Q:=by
 refine aG (d:=fA) (ρ:=[some d]) rfl rfl ?_
 dsimp only [fA,jy]
 k_is
 refine ⟨rfl,bD h ?_⟩
 k_is
 cases t with
 | tup ts=>
  obtain ⟨ds,rfl,hs⟩:=h.tup
  rw [Dw.Et]
  by_cases hl:ts.length<=4
  ·rw [decide_eq_true hl]
   k_is
   refine eN hs (by omega) Dw.ba (fun i t d S' _ sm td=>⟨_,rfl,?_⟩) fun S' sm=>?_
   ·k_is
    exact ⟨rfl,rX td ⟨rfl,Sm.refl _⟩⟩
   ·rw [cf,ao]
    k_is
    have hs':TDs p S' ts ds:=hs.keep sm.kp
    cases hr:ts.all Dw.ba with
    | false=>
     k_is
     have:=q S' sm
     simp only [Dw.bA,decide_eq_true hl,hr,Bool.true_and,Bool.false_and] at this
     exact this
    | true=>
     k_is
     refine aa (jc hs') ?_
     k_is
     refine ⟨⟨by decide,by simp only [lim,bAE,decide_eq_true_eq];omega⟩,?_⟩
     have en:((ts.length:Int) - 1).toNat=ts.length - 1:=by omega
     rw [en]
     refine Bk (by omega) (fun i=>decide (Dw.jh ts i < Dw.jg ts (i+1))) (fun i S2 hi sm2=>⟨_,rfl,?_⟩) fun S2 sm2=>?_
     ·k_is
      have hs2:TDs p S2 ts ds:=hs'.keep sm2.kp
      obtain ⟨b1,e1,f1,f2,f3⟩:=Dw.sM (i:=i+1) hr (by omega)
      obtain ⟨b0,e0,g1,g2,g3⟩:=Dw.sM (i:=i) hr (by omega)
      have z1:(1:Int)+i=((i+1:Nat):Int):=by omega
      have z2:(1:Int)+i - 1=((i:Nat):Int):=by omega
      rw [z1]
      refine bL hs2 f1 fun d1 t1=>?_
      obtain ⟨x1,rfl,y1⟩:=t1.tup
      refine bL (i:=0) y1 rfl fun d2 t2=>?_
      obtain rfl:=t2.int
      have z3:((i+1:Nat):Int) - 1=((i:Nat):Int):=by omega
      rw [z3]
      refine bL hs2 g1 fun d1 t1=>?_
      obtain ⟨x1,rfl,y1⟩:=t1.tup
      refine bL (i:=1) y1 rfl fun d2 t2=>?_
      obtain rfl:=t2.int
      k_is
      rw [f2,g3]
      exact ⟨rfl,Sm.refl _⟩
     ·rw [cf,ao]
      have:=q S2 (sm.trans sm2)
      simp only [Dw.bA,decide_eq_true hl,hr,Bool.true_and] at this
      have e:(Dw.nj ts).all id=(List.range (ts.length - 1)).all fun i=>decide (Dw.jh ts i < Dw.jg ts (i+1)):=by unfold Dw.nj;rw [List.all_map];rfl
      rw [<-e]
      exact this
  ·rw [decide_eq_false hl]
   k_is
   have:=q S (Sm.refl S)
   simp only [Dw.bA,decide_eq_false hl,Bool.false_and] at this
   exact this
 | _=>exact q S (Sm.refl S)
end Lw
namespace Lw
open PySem Ev
variable {p:Nat} {S:Sto} {k:Nat} {Q:D->Sto->Prop}
theorem Ia {a b c e:Dw.D} {ds:List D} (h:TDs p S [a,b,c,e] ds):∃ w x y z,ds=[w,x,y,z]/\TD p S a w/\TD p S b x/\TD p S c y/\TD p S e z:=by
 obtain ⟨w,_,rfl,h1,h⟩:=h.cons
 obtain ⟨x,_,rfl,h2,h⟩:=h.cons
 obtain ⟨y,_,rfl,h3,h⟩:=h.cons
 obtain ⟨z,_,rfl,h4,h⟩:=h.cons
 obtain rfl:=h.nil
 exact ⟨w,x,y,z,rfl,h1,h2,h3,h4⟩
theorem vF {t:Dw.D} {d:D} (h:TD p S t d) (q:∀ S',Sm S S'->Q (.bl (Dw.bH t)) S'):Ok (evC aj (k+6) jp [d] S) Q:=by
 refine aG (d:=fw) (ρ:=[some d,none,none,none,none]) rfl rfl ?_
 dsimp only [fw,jx]
 k_is
 refine ⟨rfl,bD h ?_⟩
 k_is
 cases t with
 | tup ts=>
  obtain ⟨ds,rfl,hs⟩:=h.tup
  rw [Dw.wL]
  by_cases hl:ts.length=4
  ·obtain ⟨a,b,c,e,rfl⟩:=Dw.sL hl
   obtain ⟨w,x,y,z,rfl,h1,h2,h3,h4⟩:=Ia hs
   rw [decide_eq_true hl]
   k_is
   refine ⟨rfl,bN h1 ?_⟩
   rw [Dw.Dg] at q
   k_is
   cases e1:Dw.az a 0 8 with
   | false=>rw [e1] at q;exact q S (Sm.refl S)
   | true=>
    rw [e1] at q
    k_is
    refine ⟨rfl,bN h2 ?_⟩
    k_is
    cases e2:Dw.az b 0 60 with
    | false=>rw [e2] at q;exact q S (Sm.refl S)
    | true=>
     rw [e2] at q
     k_is
     refine ⟨rfl,Cy h3 fun S1 sm=>?_⟩
     k_is
     cases e3:Dw.bQ c with
     | false=>rw [e3] at q;exact q S1 sm
     | true=>
      rw [e3] at q
      k_is
      exact ⟨rfl,yZ (h4.keep sm.kp) fun S2 sm2=>q S2 (sm.trans sm2)⟩
  ·rw [decide_eq_false hl]
   k_is
   have:=q S (Sm.refl S)
   have e:Dw.bH (.tup ts)=false:=by
    unfold Dw.bH
    split
    ·rename_i he;cases he;exact absurd rfl hl
    ·rfl
   rw [e] at this
   exact this
 | _=>exact q S (Sm.refl S)
theorem tZ {r s h' t:Dw.D} {rows:List Dw.D} {m d:D} (hm:TD p S (.tup [r,s,.tup rows,h']) m) (h:TD p S t d) (q:Q (.bl (Dw.az t 0 ((rows.length:Int) - 1))) S):Ok (evC aj (k+3) i6 [m,d] S) Q:=by
 obtain ⟨ds,rfl,hs⟩:=hm.tup
 obtain ⟨w,x,y,z,rfl,h1,h2,h3,h4⟩:=Ia hs
 obtain ⟨rs,rfl,hr⟩:=h3.tup
 refine aG (d:=i7) (ρ:=[some _,some d]) rfl rfl ?_
 dsimp only [i7,mL]
 k_is
 refine bL (i:=2) hs rfl fun d1 t1=>?_
 obtain ⟨rs,rfl,hr⟩:=t1.tup
 refine aa (jc hr) ?_;k_is
 exact ⟨rfl,bN h q⟩
theorem y0 {r s h' t:Dw.D} {rows:List Dw.D} {m d:D} (hm:TD p S (.tup [r,s,.tup rows,h']) m) (h:TD p S t d) (q:Q (.bl (Dw.cD rows.length t)) S):Ok (evC aj (k+4) kQ [m,d] S) Q:=by
 refine aG (d:=gN) (ρ:=[some m,some d]) rfl rfl ?_
 dsimp only [gN,k8]
 k_is
 refine aa (JM h) ?_
 k_is
 cases t with
 | non=>exact q
 | tup ts=>
  obtain ⟨ds,rfl,hs⟩:=h.tup
  dsimp only [F1]
  k_is
  refine ⟨rfl,bD h ?_⟩
  k_is
  rw [Dw.wK]
  by_cases hl:ts.length=2
  ·obtain ⟨b,e,rfl⟩:=Dw.wM hl
   rw [decide_eq_true hl]
   k_is
   refine bL (i:=0) hs rfl fun d1 t1=>⟨rfl,tZ hm t1 ?_⟩
   simp only [Dw.cD] at q
   k_is
   cases e1:Dw.az b 0 ((rows.length:Int) - 1) with
   | false=>rw [e1] at q;exact q
   | true=>
    rw [e1] at q
    k_is
    exact bL (i:=1) hs rfl fun d2 t2=>⟨rfl,fY t2 q⟩
  ·rw [decide_eq_false hl]
   rw [Dw.wU hl] at q
   exact q
 | _=>exact ⟨rfl,bD h (by k_is;exact q)⟩
end Lw
namespace Lw
open PySem Ev
variable {p:Nat} {S:Sto} {k:Nat} {Q:D->Sto->Prop}
theorem mR {t:Dw.D} {d:D} {n:Nat} (h:TD p S t d) (hn:n<=1000) (q:∀ S',Sm S S'->Q (.bl (Dw.cq n t)) S'):Ok (evC aj (k+3) eA [d,.int n] S) Q:=by
 refine aG (d:=eI) (ρ:=[some d,some (.int n)]) rfl rfl ?_
 dsimp only [eI,iC]
 k_is
 refine ⟨rfl,bD h ?_⟩
 k_is
 cases t with
 | tup ts=>
  obtain ⟨ds,rfl,hs⟩:=h.tup
  rw [Dw.wV]
  by_cases hl:ts.length<=n
  ·rw [decide_eq_true hl]
   k_is
   refine eN hs (by omega) (fun e=>Dw.az e 0 ((n:Int) - 1)) (fun i t d S' _ sm td=>⟨_,rfl,?_⟩) fun S' sm=>?_
   ·k_is
    exact ⟨rfl,bN td ⟨rfl,Sm.refl _⟩⟩
   ·rw [cf,ao]
    k_is
    cases hr:ts.all (fun e=>Dw.az e 0 ((n:Int) - 1)) with
    | false=>
     k_is
     have:=q S' sm
     simp only [Dw.cq,hr,Bool.false_and,Bool.and_false] at this
     exact this
    | true=>
     k_is
     have ei:=nZ hr hs
     subst ei
     refine eN (hs.keep sm.kp) (by omega) (fun t=>decide (((List.count (Dw.intOf t) (Dw.bv ts):Nat):Int)=1)) (fun i t d S2 ht sm2 td=>⟨_,rfl,?_⟩) fun S2 sm2=>?_
     ·obtain ⟨j,rfl,_⟩:=Dw.aA (List.all_eq_true.mp hr t (List.mem_of_getElem? ht))
      obtain rfl:=td.int
      k_is
      refine ⟨rfl,?_⟩
      rw [yu,ao]
      k_is
      exact ⟨rfl,Sm.refl _⟩
     ·rw [cf,ao]
      have:=q S2 (sm.trans sm2)
      have e:(ts.all fun t=>decide (((List.count (Dw.intOf t) (Dw.bv ts):Nat):Int)=1))=Dw.ia (Dw.bv ts):=by
       rw [<-Dw.oT,List.all_map]
       conv=>rhs;unfold Dw.bv
       rw [List.all_map];rfl
      simp only [Dw.cq,hr,decide_eq_true hl,Bool.true_and] at this
      rw [e]
      exact this
  ·rw [decide_eq_false hl]
   k_is
   have:=q S (Sm.refl S)
   simp only [Dw.cq,decide_eq_false hl,Bool.false_and] at this
   exact this
 | _=>dsimp only [Dw.isT];k_is;exact q S (Sm.refl S)
theorem KK {a b c e f g i:Dw.D} {ds:List D} (h:TDs p S [a,b,c,e,f,g,i] ds):∃ t u v w x y z,ds=[t,u,v,w,x,y,z]/\TD p S a t/\TD p S b u/\TD p S c v/\TD p S e w/\TD p S f x/\TD p S g y/\TD p S i z:=by
 obtain ⟨t,_,rfl,h1,h⟩:=h.cons
 obtain ⟨u,_,rfl,h2,h⟩:=h.cons
 obtain ⟨v,_,rfl,h3,h⟩:=h.cons
 obtain ⟨w,_,rfl,h4,h⟩:=h.cons
 obtain ⟨x,_,rfl,h5,h⟩:=h.cons
 obtain ⟨y,_,rfl,h6,h⟩:=h.cons
 obtain ⟨z,_,rfl,h7,h⟩:=h.cons
 obtain rfl:=h.nil
 exact ⟨t,u,v,w,x,y,z,rfl,h1,h2,h3,h4,h5,h6,h7⟩
theorem vG {r s:Int} {h' t:Dw.D} {rows:List Dw.D} {m d:D} (hm:TD p S (.tup [.int r,.int s,.tup rows,h']) m) (h:TD p S t d) (q:∀ S',Sm S S'->Q (.bl (Dw.bp rows.length r s t)) S'):Ok (evC aj (k+4) jr [m,d] S) Q:=by
 obtain ⟨ms,rfl,hms⟩:=hm.tup
 refine aG (d:=fB) (ρ:=[some (.tup ms),some d,none,none,none,none,none,none,none]) rfl rfl ?_
 dsimp only [fB,jz]
 k_is
 refine ⟨rfl,bD h ?_⟩
 k_is
 cases t with
 | tup ts=>
  obtain ⟨ds,rfl,hs⟩:=h.tup
  rw [Dw.Ey]
  by_cases hl:ts.length=7
  ·obtain ⟨tk,tj,tf,tl,tu,tw,tg,rfl⟩:=Dw.wR hl
   obtain ⟨dk,dj,df,dl,du,dw,dg,rfl,h1,h2,h3,h4,h5,h6,h7⟩:=KK hs
   rw [decide_eq_true hl]
   k_is
   have ht:TDs p S [tj,tf,tl,tu] [dj,df,dl,du]:=aH h2 (aH h3 (aH h4 (aH h5 ce)))
   refine eN ht (by simp) (fun e=>Dw.az e 0 9999) (fun i t d S' _ sm td=>⟨_,rfl,?_⟩) fun S' sm=>?_
   ·k_is
    exact ⟨rfl,fY td ⟨rfl,Sm.refl _⟩⟩
   ·rw [cf,ao]
    k_is
    simp only [Dw.bp] at q
    cases hr:[tj,tf,tl,tu].all (fun e=>Dw.az e 0 9999) with
    | false=>k_is;rw [hr] at q;exact q S' sm
    | true=>
     k_is
     rw [hr] at q
     have hr':=hr
     simp only [List.all_cons,List.all_nil,Bool.and_true,bAE] at hr'
     obtain ⟨ij,rfl,_⟩:=Dw.aA hr'.1
     obtain ⟨jf,rfl,_⟩:=Dw.aA hr'.2.1
     obtain ⟨il,rfl,_⟩:=Dw.aA hr'.2.2.1
     obtain rfl:=h2.int
     obtain rfl:=h3.int
     obtain rfl:=h4.int
     refine bL (i:=1) (hms.keep sm.kp) rfl fun d1 t1=>?_
     obtain rfl:=t1.int
     k_is
     simp only [Dw.leD,Int.add_zero,Bool.true_and] at q
     cases c1:decide (ij+s<=jf) with
     | false=>k_is;rw [c1] at q;exact q S' sm
     | true=>
      k_is
      rw [c1] at q
      cases c2:decide (jf<=il) with
      | false=>k_is;rw [c2] at q;exact q S' sm
      | true=>
       k_is
       rw [c2] at q
       refine ⟨rfl,tZ (hm.keep sm.kp) (h1.keep sm.kp) ?_⟩
       k_is
       cases c3:Dw.az tk 0 ((rows.length:Int) - 1) with
       | false=>rw [c3] at q;exact q S' sm
       | true=>
        rw [c3] at q
        k_is
        refine ⟨rfl,bN (h6.keep sm.kp) ?_⟩
        k_is
        cases c4:Dw.az tw 0 99 with
        | false=>rw [c4] at q;exact q S' sm
        | true=>
         rw [c4] at q
         k_is
         refine bL (i:=0) (hms.keep sm.kp) rfl fun d1 t1=>?_
         obtain rfl:=t1.int
         exact ⟨rfl,bN (h7.keep sm.kp) (q S' sm)⟩
  ·rw [decide_eq_false hl]
   k_is
   have:=q S (Sm.refl S)
   rw [Dw.uF hl] at this
   exact this
 | _=>dsimp only [Dw.isT];k_is;exact q S (Sm.refl S)
theorem rY {r s:Int} {h' t:Dw.D} {rows:List Dw.D} {m d:D} (hm:TD p S (.tup [.int r,.int s,.tup rows,h']) m) (h:TD p S t d) (q:∀ S',Sm S S'->Q (.bl (Dw.bw rows.length r s t)) S'):Ok (evC aj (k+5) gj [m,d] S) Q:=by
 refine aG (d:=dz) (ρ:=[some m,some d]) rfl rfl ?_
 dsimp only [dz,gr]
 k_is
 refine ⟨rfl,bD h ?_⟩
 k_is
 cases t with
 | tup ts=>
  obtain ⟨ds,rfl,hs⟩:=h.tup
  have e7:=Dw.wV ts 7
  rw [show ((7:Nat):Int)=7 from rfl] at e7
  rw [e7]
  by_cases hl:ts.length<=7
  ·rw [decide_eq_true hl]
   k_is
   refine eN hs (by omega) (Dw.bp rows.length r s) (fun i t d S' _ sm td=>⟨_,rfl,?_⟩) fun S' sm=>?_
   ·k_is
    exact ⟨rfl,vG (hm.keep sm.kp) td fun S2 sm2=>⟨rfl,sm2⟩⟩
   ·rw [cf,ao]
    have:=q S' sm
    simp only [Dw.bw,decide_eq_true hl,Bool.true_and] at this
    exact this
  ·rw [decide_eq_false hl]
   have:=q S (Sm.refl S)
   simp only [Dw.bw,decide_eq_false hl,Bool.false_and] at this
   exact this
 | _=>dsimp only [Dw.isT];k_is;exact q S (Sm.refl S)
theorem y3 {n:Nat} {r s:Int} {t:Dw.D} {gs:List Dw.D} {g d:D} (hg:TD p S (.tup gs) g) (ha:gs.all (Dw.bp n r s)=true) (hl:gs.length<=7) (h:TD p S t d) (q:∀ S',Sm S S'->Q (.bl (Dw.cL gs t)) S'):Ok (evC aj (k+4) jt [g,d] S) Q:=by
 obtain ⟨ds,rfl,hs⟩:=hg.tup
 refine aG (d:=fC) (ρ:=[some (.tup ds),some d]) rfl rfl ?_
 dsimp only [fC,jA]
 k_is
 refine aa (jc hs) ?_
 refine ⟨rfl,mR h (by omega) fun S1 sm=>?_⟩
 k_is
 cases hu:Dw.cq gs.length t with
 | false=>
  k_is
  have:=q S1 sm
  have e:Dw.cL gs t=false:=by
   unfold Dw.cL
   split
   ·rw [hu];rfl
   ·rfl
  rw [e] at this
  exact this
 | true=>
  k_is
  cases t with
  | tup fs=>
   obtain ⟨es,rfl,hf⟩:=h.tup
   have hw:fs.all (fun e=>Dw.az e 0 ((gs.length:Int) - 1))=true:=by
    simp only [Dw.cq,bAE] at hu
    exact hu.2.1
   have ei:=nZ hw hf
   subst ei
   refine Bl (hs.keep sm.kp) (by omega) (fun i=>decide (Dw.fg gs i=0) || decide (((i:Nat):Int) ∈ Dw.bv fs)) (fun i t d S2 ht sm2 td=>⟨_,fG (Nat.lt_of_lt_of_le (by decide) (Nat.le_refl 4)) (Nat.lt_of_lt_of_le (by decide) (Nat.le_refl 4)),?_⟩) fun S2 sm2=>?_
   ·obtain ⟨a1,a2,a3,a4,a5,a6,g,rfl,hg',_⟩:=Dw.Ag ha ht
    obtain ⟨xs,rfl,hx⟩:=td.tup
    k_is
    refine bL (i:=6) hx rfl fun d1 t1=>?_
    obtain rfl:=t1.int
    k_is
    rw [hg']
    cases c:decide (g=0) with
    | true=>k_is;exact ⟨rfl,Sm.refl _⟩
    | false=>
     k_is
     simp only [ay,tQ,ao]
     exact ⟨by simp,Sm.refl _⟩
   ·rw [cf,ao]
    have:=q S2 (sm.trans sm2)
    simp only [Dw.cL,hu,Bool.true_and] at this
    have e:(Dw.Af gs (Dw.bv fs)).all id=(List.range gs.length).all fun i=>decide (Dw.fg gs i=0) || decide (((i:Nat):Int) ∈ Dw.bv fs):=by unfold Dw.Af;rw [List.all_map];rfl
    rw [<-e]
    exact this
  | _=>simp [Dw.cq] at hu
theorem Ib {t:Dw.D} {d:D} (h:TD p S t d) (q:∀ S',Sm S S'->Q (.bl (Dw.kj t)) S'):Ok (evC aj (k+7) pV [d] S) Q:=by
 refine aG (d:=lv) (ρ:=[some d,none,none,none,none]) rfl rfl ?_
 dsimp only [lv,pW]
 k_is
 refine ⟨rfl,bD h ?_⟩
 k_is
 cases t with
 | tup ts=>
  obtain ⟨ds,rfl,hs⟩:=h.tup
  rw [Dw.wL]
  by_cases hl:ts.length=4
  ·obtain ⟨tm,ta,tg,tf,rfl⟩:=Dw.sL hl
   obtain ⟨dm,da,dg,df,rfl,h1,h2,h3,h4⟩:=Ia hs
   rw [decide_eq_true hl]
   k_is
   rw [Dw.wW] at q
   refine ⟨rfl,vF h1 fun S1 sm1=>?_⟩
   k_is
   cases em:Dw.bH tm with
   | false=>rw [em] at q;exact q S1 sm1
   | true=>
    rw [em] at q
    obtain ⟨r,s,rows,hs',rfl,_⟩:=Dw.uD em
    k_is
    refine ⟨rfl,y0 (h1.keep sm1.kp) (h2.keep sm1.kp) ?_⟩
    k_is
    simp only [Dw.fK,Dw.jN,Dw.nu] at q
    cases ea:Dw.cD rows.length ta with
    | false=>rw [ea] at q;exact q S1 sm1
    | true=>
     rw [ea] at q
     k_is
     refine ⟨rfl,rY (h1.keep sm1.kp) (h3.keep sm1.kp) fun S2 sm2=>?_⟩
     k_is
     cases eg:Dw.bw rows.length r s tg with
     | false=>rw [eg] at q;exact q S2 (sm1.trans sm2)
     | true=>
      rw [eg] at q
      k_is
      cases tg with
      | tup gs=>
       simp only [Dw.bw,bAE,decide_eq_true_eq] at eg
       exact ⟨rfl,y3 (h3.keep (sm1.trans sm2).kp) eg.2 eg.1 (h4.keep (sm1.trans sm2).kp) fun S3 sm3=>q S3 ((sm1.trans sm2).trans sm3)⟩
      | _=>simp [Dw.bw] at eg
  ·rw [decide_eq_false hl]
   k_is
   have:=q S (Sm.refl S)
   rw [Dw.Ex hl] at this
   exact this
 | _=>dsimp only [Dw.isT];k_is;exact q S (Sm.refl S)
end Lw
namespace Lw
open PySem Ev
variable {p:Nat} {S:Sto} {k:Nat} {Q:D->Sto->Prop}
theorem aD {f:Int} (h:Pot p S) (h0:0 < f) (h1:f < 1073741824) (q:∀ (r:Int) S',0<=r->r < f->Dr p S S'->Q (.int r) S'):Ok (evC aj (k+1) ai [.ref p,.int f] S) Q:=by
 obtain ⟨n,e⟩:=h
 have lt:p < S.length:=(List.getElem?_eq_some_iff.mp e).1
 refine aG (d:=gQ) (ρ:=[some (.ref p),some (.int f),none]) rfl rfl ?_
 dsimp only [gQ,lh]
 k_is
 have ix:ixS (.ref p) (.int 0) S=some (.int n,S):=by simp only [ixS,aq,au,e];rfl
 refine aa ix ?_
 k_is
 refine ⟨h0,?_⟩
 k_is
 refine aa ix ?_
 k_is
 refine ⟨⟨h0,h1⟩,?_⟩
 k_is
 refine ⟨S.set p (.lst [.int (n / f)]),by simp only [kB,e];rfl,?_⟩
 exact q _ _ (Int.emod_nonneg _ (by omega)) (Int.emod_lt_of_pos _ h0) ⟨F7,_,eO lt⟩
theorem Cz {c:Nat} {ns:List Int} (h:S[0]?=some (.frz (ns.map D.int))) (q:∀ i:Int,Q (.int i) S):Ok (evC aj (k+1) gq [.ref 0,.int c] S) Q:=by
 refine aG (d:=dC) (ρ:=[some (.ref 0),some (.int c)]) rfl rfl ?_
 dsimp only [dC,gx]
 k_is
 have ln:ag bG (.ref 0) S=some (.int ns.length,S):=by simp only [ag,aq,au,h,Option.map_some,bG,List.length_map]
 refine aa ln ?_
 k_is
 refine aU (fun hc=>?_) fun hc=>?_
 ·k_is
  have hc':=of_decide_eq_true hc
  obtain ⟨d,e1,e2⟩:=F9 (ds:=ns.map D.int) (i:=c) (by omega) (by rw [List.length_map];omega)
  have ix:ixS (.ref 0) (.int c) S=some (d,S):=by simp only [ixS,aq,au,h,Option.map_some,e1]
  refine aa ix ?_
  rw [List.getElem?_map] at e2
  cases hn:ns[(c:Int).toNat]? with
  | none=>rw [hn] at e2;cases e2
  | some i=>rw [hn] at e2;cases e2;exact q i
 ·k_is
  exact q 0
theorem Ic {c:Int} (q:∀ n:Int,Q (.ref S.length) (S++[.lst [.int n]])):Ok (evC aj (k+1) mJ [.int c] S) Q:=by
 refine aG (d:=ja) (ρ:=[some (.int c),none,none,none]) rfl rfl ?_
 dsimp only [ja,mO]
 k_is
 refine ⟨⟨by decide,by decide,by decide⟩,?_⟩
 k_is
 refine aU (fun _=>?_) fun _=>?_
 ·k_is
  refine ⟨⟨by decide,by decide,by decide⟩,?_⟩
  k_is
  exact q _
 ·k_is
  refine ⟨by decide,?_⟩
  refine jD (by decide) (fun i ρ S'=>S'=S/\∃ n:Int,∃ u v,ρ=[some (.int c),some (.int n),u,v]) (fun i ρ S' hi ⟨es,n,u,v,er⟩=>?_) (fun ρ S' ⟨es,n,u,v,er⟩=>?_) ⟨rfl,0,none,none,rfl⟩
  ·subst es er
   refine ⟨_,rfl,?_⟩
   k_is
   refine ⟨by decide,?_⟩
   k_is
   refine ⟨n4 (by decide) (by decide),?_⟩
   k_is
   refine ⟨tS (by decide) (by decide),by decide,?_⟩
   k_is
   have a1:=Int.emod_nonneg ((c % 2147483629+7919 * (0+(i:Int))+1) * 48271) (show (2147483647:Int) ≠ 0 by decide)
   have a2:=Int.emod_lt_of_pos ((c % 2147483629+7919 * (0+(i:Int))+1) * 48271) (show (0:Int) < 2147483647 by decide)
   refine ⟨n4 (by omega) (by omega),?_⟩
   k_is
   refine ⟨n4 (by decide) (by decide),?_⟩
   k_is
   refine ⟨by decide,?_⟩
   k_is
   refine ⟨tS (by decide) (by decide),?_⟩
   k_is
   exact ⟨rfl,_,_,_,rfl⟩
  ·subst es er
   k_is
   exact q n
end Lw
namespace Sn
open Ev
structure Sky where
 r:Int
 s:Int
 M:List (List Int)
 H:List (Int × Int)
 ah:Option (Int × Int)
 G:List (List Int)
 F:List Int
noncomputable def gi (G:List (List Int)) (i:Int) (k:Nat):Int:=((G[i.toNat]?).getD []).getD k 0
noncomputable def fns:List (Int × Int)->Int->Int
 | [],m=>m
 | p::l,m=>if p.1<=m/\m < p.2 then p.2 else fns l m
noncomputable def opn:List (Int × Int)->Int->Int
 | [],m=>m
 | p::l,m=>opn l (if p.1<=m/\m < p.2 then p.2 else m)
noncomputable def Ris:Int->List (Int × Int)->Prop
 | _,[]=>True
 | lo,p::l=>lo < p.1/\p.1 < p.2/\Ris p.2 l
theorem t5:∀ {l:List (Int × Int)} {lo m:Int},Ris lo l->m<=lo->opn l m=m
 | [],_,_,_,_=>rfl
 | p::l,lo,m,h,hm=>by
  rw [Ris] at h
  rw [opn,if_neg (by omega)]
  exact t5 h.2.2 (by omega)
theorem t6:∀ {l:List (Int × Int)} {lo m:Int},Ris lo l->opn l m=fns l m
 | [],_,_,_=>rfl
 | p::l,lo,m,h=>by
  rw [Ris] at h
  rw [opn,fns]
  split
  ·exact t5 h.2.2 (Int.le_refl _)
  ·exact t6 h.2.2
section
variable (K:Sky)
noncomputable def jn (g:Int):Int:=gi K.G g 1
noncomputable def gp (a b:Int):Int:=Dw.mg2 K.M a.toNat b.toNat
noncomputable def vH (ah:Option (Int × Int)) (k:Int):Int:=match ah with
 | none=>0
 | some p=>p.2+gp K p.1 k
noncomputable def aQ (ah:Option (Int × Int)) (g:Int):Int:=match ah with
 | none=>gi K.G g 2
 | some p=>if p.2+gp K p.1 (gi K.G g 0) > gi K.G g 2 then p.2+gp K p.1 (gi K.G g 0) else gi K.G g 2
noncomputable def js:List Int:=gf (K.G.map fun g=>g.getD 1 0)
noncomputable def om (place:Nat) (m:Int):Bool:=match (js K)[(K.r+place).toNat]? with
 | some j=>decide (j < m - K.s)
 | none=>false
noncomputable def step (ah:Option (Int × Int)) (g:Int) (place:Nat):Option Int:=if (decide (gi K.G g 3 < opn K.H (aQ K ah g)) || om K place (opn K.H (aQ K ah g)))=true then none else some (opn K.H (aQ K ah g))
noncomputable def aJ (t:Int) (p:Int × Int):Bool:=decide (jn K p.1<=t) && decide (t < p.2 - K.s)
noncomputable def wts (L:List (Int × Int)) (t:Int):Nat:=(L.filter (aJ K t)).length
noncomputable def eX (L:List (Int × Int)) (g m:Int):List Int:=((jn K g::L.map fun p=>jn K p.1).filter fun t=>decide (jn K g<=t) && decide (t < m - K.s))
noncomputable def lC (L:List (Int × Int)) (g m:Int):Int:=uX 0 ((eX K L g m).map fun t=>1+(wts K L t:Int))
noncomputable def g8 (L:List (Int × Int)) (g m:Int):List Int:=jn K g::(js K).filter fun t=>decide (jn K g < t) && aJ K t (g,m)
noncomputable def qc (L:List (Int × Int)) (g m:Int):Int:=eY ((g8 K L g m).map fun t=>1+(wts K L t:Int))
noncomputable def qd (L:List (Int × Int)) (g m:Int):Bool:=decide (0 < gi K.G g 6) && (aJ K (jn K g) (g,m) && decide (gi K.G g 6 < qc K L g m))
noncomputable def jE (L:List (Int × Int)) (g m:Int):Bool:=decide (0 < gi K.G g 6) && decide (gi K.G g 6 < lC K L g m)
noncomputable def rn:List Int->Option (Int × Int)->List (Int × Int)->Nat ⊕ List (Int × Int)
 | [],_,L=>.inr L
 | g::os,ah,L=>match step K ah g L.length with
  | none=>.inl L.length
  | some m=>if jE K L g m=true then .inl L.length else rn os (some (gi K.G g 0,m)) (L++[(g,m)])
end
variable {K:Sky}
theorem jW {ns:List Int} (h:ns ≠ []):eY ns ∈ ns:=by
 cases ns with
 | nil=>exact absurd rfl h
 | cons n ns=>exact (iq ns n).1
theorem rZ {ns:List Int} {x:Int} (h:x ∈ ns):x<=eY ns:=by
 cases ns with
 | nil=>simp at h
 | cons n ns=>exact (iq ns n).2 x h
theorem y4 {A B:List Int} (hA:A ≠ []) (h:∀ x ∈ A,∃ y ∈ B,x<=y):eY A<=eY B:=by
 obtain ⟨y,hy,hle⟩:=h _ (jW hA)
 exact Int.le_trans hle (rZ hy)
theorem y6 {c:Int} {ns:List Int} (h:ns ≠ []):uX c ns=eY ns:=by
 cases ns with
 | nil=>exact absurd rfl h
 | cons n ns=>rfl
theorem t7 {α:Type} {p q:α->Bool}:∀ {l:List α},(∀ x ∈ l,p x=true->q x=true)->(l.filter p).length<=(l.filter q).length
 | [],_=>Nat.le_refl _
 | a::l,h=>by
  have ih:=t7 (l:=l) fun x hx=>h x (List.mem_cons_of_mem _ hx)
  have h0:=h a List.mem_cons_self
  rw [List.filter_cons,List.filter_cons]
  split
  ·rename_i c
   rw [if_pos (h0 c),List.length_cons,List.length_cons]
   omega
  ·split
   ·rw [List.length_cons];omega
   ·exact ih
theorem y7 {j t:Int} (hj:j<=t):∀ (L:List (Int × Int)),∃ u,(u=j\/∃ p ∈ L,u=jn K p.1)/\j<=u/\u<=t/\∀ p ∈ L,aJ K t p=true->jn K p.1<=u
 | []=>⟨j,.inl rfl,Int.le_refl _,hj,fun p hp=>by simp at hp⟩
 | p::L=>by
  obtain ⟨u,h1,h2,h3,h4⟩:=y7 hj L
  by_cases hw:aJ K t p=true/\u < jn K p.1
  ·refine ⟨jn K p.1,.inr ⟨p,List.mem_cons_self,rfl⟩,by omega,?_,fun q hq hqw=>?_⟩
   ·have:=hw.1
    simp only [aJ,bAE,decide_eq_true_eq] at this
    exact this.1
   ·rcases List.mem_cons.mp hq with rfl | hq
    ·exact Int.le_refl _
    ·have:=h4 q hq hqw;omega
  ·refine ⟨u,?_,h2,h3,fun q hq hqw=>?_⟩
   ·rcases h1 with h1 | ⟨q,hq,h1⟩
    ·exact .inl h1
    ·exact .inr ⟨q,List.mem_cons_of_mem _ hq,h1⟩
   ·rcases List.mem_cons.mp hq with rfl | hq
    ·by_cases hlt:u < jn K q.1
     ·exact absurd ⟨hqw,hlt⟩ hw
     ·omega
    ·exact h4 q hq hqw
theorem CA {L:List (Int × Int)} {g m:Int} (h:jn K g < m - K.s) (hL:∀ p ∈ L,jn K p.1 ∈ js K):qc K L g m=lC K L g m:=by
 have k0:jn K g ∈ eX K L g m:=by
  unfold eX
  rw [List.mem_filter]
  exact ⟨List.mem_cons_self,by simp [h]⟩
 have kn:(eX K L g m).map (fun t=>1+(wts K L t:Int)) ≠ []:=fun z=>by
  rw [List.map_eq_nil_iff] at z
  rw [z] at k0
  simp at k0
 unfold lC qc
 rw [y6 kn]
 refine Int.le_antisymm (y4 (by simp [g8]) fun x hx=>?_) (y4 kn fun x hx=>?_)
 ·obtain ⟨t,ht,rfl⟩:=List.mem_map.mp hx
  have ht':jn K g<=t/\t < m - K.s:=by
   rcases List.mem_cons.mp ht with rfl | ht
   ·exact ⟨Int.le_refl _,h⟩
   ·have:=(List.mem_filter.mp ht).2
    simp only [aJ,bAE,decide_eq_true_eq] at this
    exact ⟨this.2.1,this.2.2⟩
  obtain ⟨u,h1,h2,h3,h4⟩:=y7 (K:=K) ht'.1 L
  refine ⟨1+(wts K L u:Int),List.mem_map.mpr ⟨u,?_,rfl⟩,?_⟩
  ·unfold eX
   refine List.mem_filter.mpr ⟨?_,by simp only [bAE,decide_eq_true_eq];omega⟩
   rcases h1 with rfl | ⟨p,hp,rfl⟩
   ·exact List.mem_cons_self
   ·exact List.mem_cons_of_mem _ (List.mem_map.mpr ⟨p,hp,rfl⟩)
  ·have:wts K L t<=wts K L u:=t7 fun p hp hw=>by
    have a:=h4 p hp hw
    simp only [aJ,bAE,decide_eq_true_eq] at hw ⊢
    omega
   omega
 ·obtain ⟨t,ht,rfl⟩:=List.mem_map.mp hx
  refine ⟨1+(wts K L t:Int),List.mem_map.mpr ⟨t,?_,rfl⟩,Int.le_refl _⟩
  unfold eX at ht
  obtain ⟨h1,h2⟩:=List.mem_filter.mp ht
  simp only [bAE,decide_eq_true_eq] at h2
  unfold g8
  by_cases e:t=jn K g
  ·rw [e];exact List.mem_cons_self
  ·refine List.mem_cons_of_mem _ (List.mem_filter.mpr ⟨?_,by simp only [aJ,bAE,decide_eq_true_eq];omega⟩)
   rcases List.mem_cons.mp h1 with rfl | h1
   ·exact absurd rfl e
   ·obtain ⟨p,hp,rfl⟩:=List.mem_map.mp h1
    exact hL p hp
theorem vI {L:List (Int × Int)} {g m:Int} (h:¬ jn K g < m - K.s):lC K L g m=0:=by
 have:eX K L g m=[]:=by
  unfold eX
  rw [List.filter_eq_nil_iff]
  intro t _
  simp only [bAE,decide_eq_true_eq]
  omega
 unfold lC
 rw [this];rfl
theorem CB {L:List (Int × Int)} {g m:Int} (hL:∀ p ∈ L,jn K p.1 ∈ js K):qd K L g m=jE K L g m:=by
 unfold qd jE
 by_cases h:jn K g < m - K.s
 ·rw [CA h hL]
  have:aJ K (jn K g) (g,m)=true:=by simp only [aJ,bAE,decide_eq_true_eq];exact ⟨Int.le_refl _,h⟩
  rw [this,Bool.true_and]
 ·rw [vI h]
  have:aJ K (jn K g) (g,m)=false:=by simp [aJ,h]
  rw [this,Bool.false_and]
  by_cases h0:0 < gi K.G g 6
  ·have e:decide (gi K.G g 6 < 0)=false:=by simp;omega
   rw [e]
  ·rw [decide_eq_false h0];rfl
theorem y8 {ah:Option (Int × Int)} {g:Int} (h:0<=gi K.G g 2):(if vH K ah (gi K.G g 0) > gi K.G g 2 then vH K ah (gi K.G g 0) else gi K.G g 2)=aQ K ah g:=by
 cases ah with
 | none=>unfold vH aQ;dsimp only;rw [if_neg (by omega)]
 | some p=>rfl
end Sn
namespace Lw
open PySem Ev Sn
variable {p:Nat} {S:Sto} {k:Nat} {Q:D->Sto->Prop}
theorem y9 {ds:List D} {tg:Tg} {b:XS} {ρ:Rho} {Q:Fl->Rho->Sto->Prop} (hl:ds.length<=100000) (I:Nat->Rho->Sto->Prop)
  (step:∀ (i:Nat) d ρ S',ds[i]?=some d->I i ρ S'->∃ ρ1,ax tg d ρ=some ρ1/\OkS (b ρ1 S') fun fl ρ2 S2=>match fl with | .nx=>I (i+1) ρ2 S2 | .ct=>I (i+1) ρ2 S2 | .bk=>Q .nx ρ2 S2 | .rt d=>Q (.rt d) ρ2 S2)
  (q:∀ ρ S',I ds.length ρ S'->Q .nx ρ S') (h0:I 0 ρ S):OkS (dZ (nxL ds) tg b LF 0 ρ S) Q:=by
 refine jV ds.length I (by unfold LF;omega) (fun i ρ S' hi iv=>?_) (fun ρ S' iv=>⟨?_,q ρ S' iv⟩) h0
 ·obtain ⟨ρ1,e2,z⟩:=step i ds[i] ρ S' (gEG hi) iv
  exact ⟨ds[i],ρ1,by show some ds[i]?=_;rw [gEG hi],e2,z⟩
 ·show some ds[ds.length]?=_
  rw [List.getElem?_eq_none (Nat.le_refl _)]
theorem zd {ds:List D} {tg:Tg} {b:XS} {ρ:Rho} {Q:Fl->Rho->Sto->Prop} (hl:ds.length<=100000) (I:Nat->Rho->Sto->Prop)
  (step:∀ (i:Nat) d ρ S',ds[i]?=some d->I i ρ S'->∃ ρ1,ax tg (.tup [.int i,d]) ρ=some ρ1/\OkS (b ρ1 S') fun fl ρ2 S2=>match fl with | .nx=>I (i+1) ρ2 S2 | .ct=>I (i+1) ρ2 S2 | .bk=>Q .nx ρ2 S2 | .rt d=>Q (.rt d) ρ2 S2)
  (q:∀ ρ S',I ds.length ρ S'->Q .nx ρ S') (h0:I 0 ρ S):OkS (dZ (pC ds) tg b LF 0 ρ S) Q:=by
 refine jV ds.length I (by unfold LF;omega) (fun i ρ S' hi iv=>?_) (fun ρ S' iv=>⟨?_,q ρ S' iv⟩) h0
 ·obtain ⟨ρ1,e2,z⟩:=step i ds[i] ρ S' (gEG hi) iv
  refine ⟨.tup [.int i,ds[i]],ρ1,?_,e2,z⟩
  show enm ds i=_
  unfold enm
  rw [if_pos (by omega),gEG hi];rfl
 ·show enm ds ds.length=_
  unfold enm
  rw [if_pos (Nat.le_refl _),List.getElem?_eq_none (Nat.le_refl _)];rfl
theorem bU {α:Type} {nx:Nxt} {tg:Tg} {c:XA} {ρ:Rho} {Q:List D->Sto->Prop} (l:List α) (E:α->D) (f:α->List D) (hl:l.length<=1000) (hf:∀ a ∈ l,(f a).length<=1)
  (hnx:∀ i S',Sm S S'->nx i S'=some ((l[i]?).map E))
  (step:∀ (i:Nat) a S',l[i]?=some a->Sm S S'->∃ ρ1,ax tg (E a) ρ=some ρ1/\Ok (c ρ1 S') fun es S1=>es=f a/\Sm S' S1) (q:∀ S',Sm S S'->Q (l.flatMap f) S') :
  Ok (bj nx tg c ρ LF 0 S) fun es S2=>es.length<=100000/\Q es S2:=by
 refine (cU l.length (fun i acc S'=>Sm S S'/\acc=(l.take i).flatMap f) (by unfold LF;omega) (fun i acc S' hi ⟨sm,ea⟩=>?_) (fun acc S' ⟨sm,ea⟩=>?_) ⟨Sm.refl S,by simp⟩).mono fun es S' ⟨sm,ea⟩=>?_
 ·obtain ⟨ρ1,e2,es,S1,e3,e4,sm'⟩:=step i l[i] S' (gEG hi) sm
  refine ⟨E l[i],ρ1,by rw [hnx i S' sm,gEG hi];rfl,e2,es,S1,e3,sm.trans sm',?_⟩
  rw [ea,e4,List.take_succ_eq_append_getElem hi,List.flatMap_append]
  simp
 ·rw [hnx _ S' sm,List.getElem?_eq_none (Nat.le_refl _)];rfl
 ·rw [List.take_length] at ea
  subst ea
  refine ⟨?_,q S' sm⟩
  have:∀ m:List α,(∀ a ∈ m,(f a).length<=1)->(m.flatMap f).length<=m.length:=fun m=>by
   induction m with
   | nil=>intro _;simp
   | cons a m ih=>
    intro h
    rw [List.flatMap_cons,List.length_append,List.length_cons]
    have:=h a List.mem_cons_self
    have:=ih fun b hb=>h b (List.mem_cons_of_mem _ hb)
    omega
  have:=this l hf
  omega
theorem jd {α:Type} {l:List α} {E:α->D}:∀ i S',Sm S S'->nxL (l.map E) i S'=some ((l[i]?).map E):=fun i S' _=>by
 show some (l.map E)[i]?=_
 rw [List.getElem?_map]
theorem g9 {α:Type} {n:Nat} {l:List α} {E:α->D} (h:S[n]?=some (.lst (l.map E))):∀ i S',Sm S S'->nxS n i S'=some ((l[i]?).map E):=fun i S' sm=>by
 show (au S' n).map (fun ds=>ds[i]?)=_
 rw [aO (sm _ _ h),Option.map_some,List.getElem?_map]
theorem bV {α:Type} (l:List α) (f:α->D):(l.flatMap fun a=>[f a])=l.map f:=by
 induction l with
 | nil=>rfl
 | cons a l ih=>rw [List.flatMap_cons,ih];rfl
theorem cp {α:Type} (l:List α) (c:α->Bool) (f:α->D):(l.flatMap fun a=>if c a=true then [f a] else [])=(l.filter c).map f:=by
 induction l with
 | nil=>rfl
 | cons a l ih=>
  rw [List.flatMap_cons,ih,List.filter_cons]
  split <;> rfl
noncomputable def aE (r:List Int):D:=.tup (r.map D.int)
noncomputable def ahE:Option (Int × Int)->D
 | none=>.non
 | some q=>.tup [.int q.1,.int q.2]
noncomputable def meE (K:Sky):D:=.tup [.int K.r,.int K.s,.tup (K.M.map aE),.tup (K.H.map ae)]
noncomputable def skE (K:Sky):D:=.tup [meE K,ahE K.ah,.tup (K.G.map aE),.tup (K.F.map D.int)]
structure Vd (K:Sky):Prop where
 r0:0<=K.r
 r8:K.r<=8
 s0:0<=K.s
 s60:K.s<=60
 m0:1<=K.M.length
 m4:K.M.length<=4
 row:∀ r ∈ K.M,r.length=K.M.length
 ris:Ris (-1) K.H
 h4:K.H.length<=4
 ah0:∀ q,K.ah=some q->0<=q.1/\q.1 < K.M.length
 g7:K.G.length<=7
 gl:∀ g ∈ K.G,g.length=7/\0<=g.getD 0 0/\g.getD 0 0 < K.M.length/\0<=g.getD 2 0
variable {K:Sky}
theorem sk0:ixS (skE K) (.int 0) S=some (meE K,S):=rfl
theorem sk1:ixS (skE K) (.int 1) S=some (ahE K.ah,S):=rfl
theorem sk2:ixS (skE K) (.int 2) S=some (.tup (K.G.map aE),S):=rfl
theorem sk3:ixS (skE K) (.int 3) S=some (.tup (K.F.map D.int),S):=rfl
theorem me0:ixS (meE K) (.int 0) S=some (.int K.r,S):=rfl
theorem me1:ixS (meE K) (.int 1) S=some (.int K.s,S):=rfl
theorem me2:ixS (meE K) (.int 2) S=some (.tup (K.M.map aE),S):=rfl
theorem me3:ixS (meE K) (.int 3) S=some (.tup (K.H.map ae),S):=rfl
theorem gl7 (V:Vd K) {g:Int} (h0:0<=g) (h1:g < K.G.length):∃ a b c d e f h,K.G[g.toNat]?=some [a,b,c,d,e,f,h]/\gi K.G g 0=a/\gi K.G g 1=b/\gi K.G g 2=c/\gi K.G g 3=d/\gi K.G g 6=h/\0<=a/\a < K.M.length/\0<=c:=by
 have hi:g.toNat < K.G.length:=by omega
 obtain ⟨l7,a0,a1,c0⟩:=V.gl K.G[g.toNat] (List.getElem_mem hi)
 match hr:K.G[g.toNat],l7 with
 | [a,b,c,d,e,f,h],_=>
  have eq:K.G[g.toNat]?=some [a,b,c,d,e,f,h]:=by rw [gEG hi,hr]
  rw [hr] at a0 a1 c0
  refine ⟨a,b,c,d,e,f,h,eq,?_,?_,?_,?_,?_,a0,a1,c0⟩ <;> (unfold gi;rw [eq];rfl)
theorem ze {ds:List D} {i:Int} {d:D} (h0:0<=i) (h:ds[i.toNat]?=some d):ixS (.tup ds) (.int i) S=some (d,S):=by
 obtain ⟨n,rfl⟩:∃ n:Nat,i=(n:Int):=⟨i.toNat,by omega⟩
 exact wm h
theorem dQ {g:Int} {r:List Int} (h0:0<=g) (h:K.G[g.toNat]?=some r):ixS (.tup (K.G.map aE)) (.int g) S=some (aE r,S):=ze h0 (by rw [List.getElem?_map,h];rfl)
theorem zf (V:Vd K) {a b:Int} (a0:0<=a) (a1:a < K.M.length) (b0:0<=b) (b1:b < K.M.length):∃ r,ixS (.tup (K.M.map aE)) (.int a) S=some (aE r,S)/\ixS (aE r) (.int b) S=some (.int (gp K a b),S):=by
 have hi:a.toNat < K.M.length:=by omega
 have hr:=V.row K.M[a.toNat] (List.getElem_mem hi)
 have hj:b.toNat < K.M[a.toNat].length:=by omega
 refine ⟨K.M[a.toNat],ze a0 (by rw [List.getElem?_map,gEG hi];rfl),ze b0 ?_⟩
 rw [List.getElem?_map,gEG hj]
 have:gp K a b=K.M[a.toNat][b.toNat]:=by unfold gp Dw.mg2;rw [gEG hi,Option.getD_some,gEG hj];rfl
 rw [this];rfl
end Lw
namespace Lw
open PySem Ev Sn
variable {p:Nat} {S:Sto} {k:Nat} {Q:D->Sto->Prop} {K:Sky}
theorem qe {t u:Bool} {A B:Prop} (ha:t=true->u=true->A) (hb:(t && u)=false->B):wIf t (wIf u A B) B:=by
 cases t with
 | false=>exact hb rfl
 | true=>cases u with
  | true=>exact ha rfl rfl
  | false=>exact hb rfl
theorem jX {α:Type} {l:List α} {i:Nat} {a:α} (h:l[i]?=some a):l.drop i=a::l.drop (i+1):=by
 obtain ⟨hi,e⟩:=List.getElem?_eq_some_iff.mp h
 rw [List.drop_eq_getElem_cons hi,e]
theorem oo {α:Type} {l:List α} {E:α->D} {i:Nat} {d:D} (h:(l.map E)[i]?=some d):∃ a,l[i]?=some a/\d=E a:=by
 rw [List.getElem?_map] at h
 cases e:l[i]? with
 | none=>rw [e] at h;cases h
 | some a=>rw [e] at h;cases h;exact ⟨a,rfl,rfl⟩
theorem Ie {m:Int} (hl:K.H.length<=4) (q:Q (.int (fns K.H m)) S):Ok (evC aj (k+1) dJ [meE K,.int m] S) Q:=by
 refine aG (d:=b5) (ρ:=[some (meE K),some (.int m),none,none]) rfl rfl ?_
 dsimp only [b5,dM]
 k_is
 refine aa me3 ?_
 k_is
 refine y9 (by rw [List.length_map];omega) (fun i ρ S'=>S'=S/\fns K.H m=fns (K.H.drop i) m/\∃ u v,ρ=[some (meE K),some (.int m),u,v]) (fun i d ρ S' hd ⟨es,ef,u,v,er⟩=>?_) (fun ρ S' ⟨es,ef,u,v,er⟩=>?_) ⟨rfl,rfl,none,none,rfl⟩
 ·subst es er
  obtain ⟨pr,hp,rfl⟩:=oo hd
  refine ⟨_,show ax (.tup [.name 2,.name 3]) (.tup [.int pr.1,.int pr.2]) _=_ from fG (by simp) (by simp),?_⟩
  k_is
  rw [jX hp,fns] at ef
  refine qe (fun h1 h2=>?_) fun h=>?_
  ·k_is
   rw [if_pos ⟨of_decide_eq_true h1,of_decide_eq_true h2⟩] at ef
   rw [ef] at q
   exact q
  ·k_is
   rw [if_neg (fun z=>by rw [decide_eq_true z.1,decide_eq_true z.2] at h;cases h)] at ef
   exact ⟨rfl,ef,_,_,rfl⟩
 ·subst es er
  k_is
  rw [List.length_map,List.drop_length,fns] at ef
  rw [ef] at q
  exact q
noncomputable def cA (K:Sky) (L:List (Int × Int)):Option (Int × Int):=match L.getLast? with
 | none=>K.ah
 | some p=>some (gi K.G p.1 0,p.2)
noncomputable def InG (K:Sky) (L:List (Int × Int)):Prop:=∀ p ∈ L,0<=p.1/\p.1 < K.G.length
theorem zg (V:Vd K) {L:List (Int × Int)} {n:Nat} (hn:S[n]?=some (.lst (L.map ae))) (hL:InG K L) (q:Q (ahE (cA K L)) S):Ok (evC aj (k+1) eT [skE K,.ref n] S) Q:=by
 refine aG (d:=cv) (ρ:=[some (skE K),some (.ref n),none,none]) rfl rfl ?_
 dsimp only [cv,eV]
 k_is
 have tr:ko (.ref n) S=some (!(L.map ae).isEmpty,S):=by simp only [ko,aO hn]
 refine aa tr ?_
 k_is
 rcases List.eq_nil_or_concat L with rfl | ⟨L',z,rfl⟩
 ·k_is
  exact aa sk1 q
 ·rw [List.concat_eq_append] at hn hL q ⊢
  rw [show (!!((L'++[z]).map ae).isEmpty)=false by simp]
  k_is
  have hz:=hL z (by simp)
  refine aa (n6 (ds:=L'.map ae) (e:=ae z) (by rw [hn,List.map_append];rfl)) ?_
  rw [show ae z = .tup [.int z.1,.int z.2] from rfl]
  k_is
  refine aa sk2 ?_
  obtain ⟨a,b,c,d,e,f,h,eg,e0,_⟩:=gl7 V hz.1 hz.2
  refine aa (dQ hz.1 eg) (aa (show ixS (aE [a,b,c,d,e,f,h]) (.int 0) S=some (.int a,S) from rfl) ?_)
  k_is
  have:cA K (L'++[z])=some (a,z.2):=by
   unfold cA
   rw [List.getLast?_append]
   simp [e0]
  rw [this] at q
  exact q
theorem CC (V:Vd K) {a:Option (Int × Int)} {kd:Int} (ha:∀ q,a=some q->0<=q.1/\q.1 < K.M.length) (k0:0<=kd) (k1:kd < K.M.length) (q:Q (.int (vH K a kd)) S):Ok (evC aj (k+1) mH [skE K,ahE a,.int kd] S) Q:=by
 refine aG (d:=i8) (ρ:=[some (skE K),some (ahE a),some (.int kd)]) rfl rfl ?_
 dsimp only [i8,mM]
 k_is
 cases a with
 | none=>exact aa (show ay .is (ahE none) .non S=some (.bl true,S) from rfl) (by k_is;exact q)
 | some z=>
  refine aa (show ay .is (ahE (some z)) .non S=some (.bl false,S) from rfl) ?_
  k_is
  obtain ⟨h0,h1⟩:=ha z rfl
  refine aa (show ixS (ahE (some z)) (.int 1) S=some (.int z.2,S) from rfl) ?_
  refine aa sk0 (aa me2 (aa (show ixS (ahE (some z)) (.int 0) S=some (.int z.1,S) from rfl) ?_))
  obtain ⟨r,g1,g2⟩:=zf (S:=S) V h0 h1 k0 k1
  refine aa g1 (aa g2 ?_)
  k_is
  exact q
theorem lD (V:Vd K) {z:Int × Int} {t:Int} (h0:0<=z.1) (h1:z.1 < K.G.length) (q:Q (.bl (aJ K t z)) S):Ok (evC aj (k+1) eB [skE K,ae z,.int t] S) Q:=by
 refine aG (d:=gO) (ρ:=[some (skE K),some (ae z),some (.int t),none,none]) rfl rfl ?_
 dsimp only [gO,k9]
 rw [show ae z = .tup [.int z.1,.int z.2] from rfl]
 k_is
 refine aa sk2 ?_
 obtain ⟨a,b,c,d,e,f,h,eg,_,e1,_⟩:=gl7 V h0 h1
 refine aa (dQ h0 eg) (aa (show ixS (aE [a,b,c,d,e,f,h]) (.int 1) S=some (.int b,S) from rfl) ?_)
 k_is
 have ew:aJ K t z=(decide (b<=t) && decide (t < z.2 - K.s)):=by unfold aJ jn;rw [e1]
 rw [ew] at q
 cases c1:decide (b<=t) with
 | false=>rw [c1] at q;k_is;exact q
 | true=>
  rw [c1] at q
  k_is
  refine aa sk0 (aa me1 ?_)
  k_is
  exact q
theorem Ig (V:Vd K) {L:List (Int × Int)} {n:Nat} {t:Int} (hn:S[n]?=some (.lst (L.map ae))) (hL:InG K L) (hl:L.length<=1000) (q:∀ S',Sm S S'->Q (.int (wts K L t)) S'):Ok (evC aj (k+2) eU [skE K,.ref n,.int t] S) Q:=by
 refine aG (d:=cw) (ρ:=[some (skE K),some (.ref n),some (.int t)]) rfl rfl ?_
 dsimp only [cw,eW]
 k_is
 refine ⟨by rw [aO hn];rfl,?_⟩
 refine bU L ae (fun z=>if aJ K t z=true then [ae z] else []) hl (fun z _=>by split <;> simp) (g9 hn) (fun i z S' hz sm=>⟨_,rfl,?_⟩) fun S' sm=>?_
 ·have:=hL z (List.mem_of_getElem? hz)
  k_is
  refine ⟨rfl,lD V this.1 this.2 ?_⟩
  k_is
  cases aJ K t z with
  | true=>k_is;exact ⟨rfl,Sm.refl _⟩
  | false=>k_is;exact ⟨rfl,Sm.refl _⟩
 ·rw [cp]
  refine aa (show bG false ((L.filter (aJ K t)).map ae) S'=some (.int (wts K L t),S') by unfold bG wts;rw [List.length_map]) ?_
  k_is
  exact q S' sm
theorem vJ {x:Int} {xs:List Int}:dn ((x::xs).map D.int)=none:=by simp only [List.map_cons,dn,kx]
theorem jY:∀ (xs:List Int),io (xs.map D.int)=some xs
 | []=>rfl
 | x::xs=>by simp only [List.map_cons,io,jY xs]
theorem qf {xs:List Int} (h:xs.length < 64):cu false (xs.map D.int)=some ((gf xs).map D.int):=by
 unfold cu
 rw [if_pos rfl]
 cases xs with
 | nil=>rfl
 | cons x xs=>
  simp only [rm,vJ,jY]
  rw [if_pos h]
theorem zh:(js K).length=K.G.length:=by unfold js;rw [(cP _).length_eq,List.length_map]
theorem qg (V:Vd K) (q:∀ S',Sm S S'->S'[List.length S' - 1]?=some (.lst ((js K).map D.int))->List.length S<=List.length S' - 1->Q (.ref (List.length S' - 1)) S'):Ok (evC aj (k+1) bR [skE K] S) Q:=by
 refine aG (d:=bS) (ρ:=[some (skE K)]) rfl rfl ?_
 dsimp only [bS,c7]
 k_is
 refine aa sk2 ?_
 k_is
 refine bU K.G aE (fun g=>[.int (g.getD 1 0)]) (by have:=V.g7;omega) (fun _ _=>Nat.le_refl _) jd (fun i g S' hg sm=>⟨_,rfl,?_⟩) fun S' sm=>?_
 ·obtain ⟨l7,_⟩:=V.gl g (List.mem_of_getElem? hg)
  match g,l7 with
  | [a,b,c,d,e,f,h],_=>
   k_is
   exact aa (show ixS (aE [a,b,c,d,e,f,h]) (.int 1) S'=some (.int b,S') from rfl) ⟨rfl,Sm.refl _⟩
 ·rw [bV]
  refine ⟨_,show cu false (K.G.map fun g=>D.int (g.getD 1 0))=some ((js K).map D.int) from ?_,?_⟩
  ·have:=qf (xs:=K.G.map fun g=>g.getD 1 0) (by rw [List.length_map];have:=V.g7;omega)
   rw [List.map_map] at this
   exact this
  ·have e:List.length (S'++[Ob.lst ((js K).map D.int)]) - 1=List.length S':=by simp
   have sl:List.length S<=List.length S':=by
    cases hz:decide (List.length S<=List.length S') with
    | true=>exact of_decide_eq_true hz
    | false=>
     exfalso
     have hlt:List.length S' < List.length S:=by have:=of_decide_eq_false hz;omega
     have:=sm (List.length S') S[List.length S'] (gEG hlt)
     rw [List.getElem?_eq_none (Nat.le_refl _)] at this
     cases this
   have:=q (S'++[Ob.lst ((js K).map D.int)]) (sm.trans (Sm.app _ _)) (by rw [e];exact aI) (by rw [e];exact sl)
   rw [e] at this
   exact this
end Lw
namespace Lw
open PySem Ev Sn
variable {p:Nat} {S:Sto} {k:Nat} {Q:D->Sto->Prop} {K:Sky}
theorem fH {n:Nat} {ds:List D} {i:Int} {d:D} (hn:S[n]?=some (.lst ds)) (h0:0<=i) (h:ds[i.toNat]?=some d):ixS (.ref n) (.int i) S=some (d,S):=by
 obtain ⟨j,rfl⟩:∃ j:Nat,i=(j:Int):=⟨i.toNat,by omega⟩
 rw [Int.toNat_natCast] at h
 simp only [ixS,aq,aO hn,Option.map_some,Ev.sH h]
theorem oq {n:Nat} {ds:List D} {j:Nat} (hn:S[n]?=some (.lst ds)):slS none (some (j:Int)) (.ref n) S=some (.ref (List.length S),S++[.lst (ds.take j)]):=by
 have:cC ds none (some (j:Int))=ds.take j:=by
  by_cases h:j<=ds.length
  ·exact ib ds j h
  ·unfold cC
   rw [Dw.qK _ _ (by omega),Int.toNat_natCast,Nat.min_eq_right (by omega)]
   show (ds.drop 0).take (ds.length - 0)=ds.take j
   rw [List.drop_zero,List.take_of_length_le (by omega),List.take_of_length_le (by omega)]
 simp only [slS,aO hn,this]
theorem ot {a b:Nat} {xs ys:List D} (ha:S[a]?=some (.lst xs)) (hb:S[b]?=some (.lst ys)) (hl:xs.length+ys.length<=100000):bI .add (.ref a) (.ref b) S=some (.ref (List.length S),S++[.lst (xs++ys)]):=by
 simp only [bI,jL,EK,ha,hb]
 rw [if_pos hl]
theorem cG {n:Nat} {ds:List D} (hn:S[n]?=some (.lst ds)):ag bG (.ref n) S=some (.int ds.length,S):=by simp only [ag,aq,aO hn,Option.map_some,bG]
theorem lH {xs:List Int} (h:xs ≠ []):ky false (xs.map D.int) S=some (.int (eY xs),S):=by
 cases xs with
 | nil=>exact absurd rfl h
 | cons x xs=>unfold ky;rw [jY]
theorem CD (V:Vd K) {L:List (Int × Int)} {n j:Nat} {z:Int × Int} (hn:S[n]?=some (.lst (L.map ae))) (hz:L[j]?=some z) (hL:InG K L) (hl:L.length<=100) (q:∀ S',Sm S S'->Q (.int (qc K (L.take j) z.1 z.2)) S'):Ok (evC aj (k+3) gm [skE K,.ref n,.int j,.int (jn K z.1)] S) Q:=by
 refine aG (d:=dB) (ρ:=[some (skE K),some (.ref n),some (.int j),some (.int (jn K z.1)),none,none]) rfl rfl ?_
 dsimp only [dB,gw]
 have hzG:=hL z (List.mem_of_getElem? hz)
 k_is
 refine aa (oq hn) ?_
 k_is
 have s1:Sm S (S++[Ob.lst ((L.map ae).take j)]):=Sm.app _ _
 have a1:(S++[Ob.lst ((L.map ae).take j)])[List.length S]?=some (Ob.lst ((L.take j).map ae)):=by rw [aI,List.map_take]
 generalize List.length S=N1 at *
 generalize S++[Ob.lst ((L.map ae).take j)]=S1 at *
 refine ⟨rfl,qg V fun S2 s2 a2 _=>?_⟩
 k_is
 refine ⟨by rw [aO a2];rfl,?_⟩
 have hjl:(js K).length<=7:=by rw [zh];exact V.g7
 refine bU (js K) D.int (fun t=>if (decide (jn K z.1 < t) && aJ K t z)=true then [D.int t] else []) (by omega) (fun _ _=>by split <;> simp) (g9 a2) (fun i t S' ht sm=>⟨_,rfl,?_⟩) fun S3 s3=>?_
 ·k_is
  cases c:decide (jn K z.1 < t) with
  | false=>k_is;exact ⟨rfl,Sm.refl _⟩
  | true=>
   k_is
   have hn':=sm _ _ (s2 _ _ (s1 _ _ hn))
   refine aa (fH hn' (by omega) (show (L.map ae)[((j:Nat):Int).toNat]?=some (ae z) by rw [Int.toNat_natCast,List.getElem?_map,hz];rfl)) ?_
   refine ⟨rfl,lD V hzG.1 hzG.2 ?_⟩
   k_is
   cases aJ K t z with
   | true=>k_is;exact ⟨rfl,Sm.refl _⟩
   | false=>k_is;exact ⟨rfl,Sm.refl _⟩
 ·rw [cp]
  k_is
  have lt3:List.length S3 < List.length (S3++[Ob.lst (((js K).filter fun t=>decide (jn K z.1 < t) && aJ K t z).map D.int)]):=by simp
  have a3:(S3++[Ob.lst (((js K).filter fun t=>decide (jn K z.1 < t) && aJ K t z).map D.int)])[List.length S3]?=some (Ob.lst (((js K).filter fun t=>decide (jn K z.1 < t) && aJ K t z).map D.int)):=aI
  have s4:Sm S3 (S3++[Ob.lst (((js K).filter fun t=>decide (jn K z.1 < t) && aJ K t z).map D.int)]):=Sm.app _ _
  have lf:((js K).filter fun t=>decide (jn K z.1 < t) && aJ K t z).length<=7:=Nat.le_trans (List.length_filter_le _ _) hjl
  generalize List.length S3=N3 at *
  generalize S3++[Ob.lst (((js K).filter fun t=>decide (jn K z.1 < t) && aJ K t z).map D.int)]=S4 at *
  have s5:Sm S4 (S4++[Ob.lst [D.int (jn K z.1)]]):=Sm.app _ _
  refine aa (ot (xs:=[D.int (jn K z.1)]) aI (s5 _ _ a3) (by rw [List.length_map,List.length_singleton];omega)) ?_
  k_is
  have s6:Sm (S4++[Ob.lst [D.int (jn K z.1)]]) (S4++[Ob.lst [D.int (jn K z.1)]]++[Ob.lst ([D.int (jn K z.1)]++((js K).filter fun t=>decide (jn K z.1 < t) && aJ K t z).map D.int)]):=Sm.app _ _
  have a6:(S4++[Ob.lst [D.int (jn K z.1)]]++[Ob.lst ([D.int (jn K z.1)]++((js K).filter fun t=>decide (jn K z.1 < t) && aJ K t z).map D.int)])[List.length (S4++[Ob.lst [D.int (jn K z.1)]])]?=some (Ob.lst ((g8 K (L.take j) z.1 z.2).map D.int)):=aI
  refine ⟨by rw [aO a6];rfl,?_⟩
  have sA:=((((s1.trans s2).trans s3).trans s4).trans s5).trans s6
  have aL:=(((((s2.trans s3).trans s4).trans s5).trans s6)) _ _ a1
  refine bU (g8 K (L.take j) z.1 z.2) D.int (fun t=>[D.int (1+(wts K (L.take j) t:Int))]) (by show ((js K).filter fun t=>decide (jn K z.1 < t) && aJ K t z).length+1<=1000;omega) (fun _ _=>Nat.le_refl _) (g9 a6) (fun i t S' ht sm=>⟨_,rfl,?_⟩) fun S7 s7=>?_
  ·k_is
   refine ⟨rfl,Ig V (sm _ _ aL) (fun w hw=>hL w (List.mem_of_mem_take hw)) (by rw [List.length_take];omega) fun S8 s8=>?_⟩
   k_is
   exact ⟨rfl,s8⟩
  ·rw [bV]
   have em:=lH (S:=S7) (xs:=(g8 K (L.take j) z.1 z.2).map fun t=>1+(wts K (L.take j) t:Int)) (by unfold g8;simp)
   rw [List.map_map] at em
   exact aa em (by k_is;exact q S7 (sA.trans s7))
theorem CF (V:Vd K) {L:List (Int × Int)} {n j:Nat} {z:Int × Int} (hn:S[n]?=some (.lst (L.map ae))) (hz:L[j]?=some z) (hL:InG K L) (hl:L.length<=100) (q:∀ S',Sm S S'->Q (.bl (qd K (L.take j) z.1 z.2)) S'):Ok (evC aj (k+4) gk [skE K,.ref n,.int j] S) Q:=by
 refine aG (d:=dA) (ρ:=[some (skE K),some (.ref n),some (.int j),none,none,none,none,none,none,none]) rfl rfl ?_
 dsimp only [dA,gu]
 have hzG:=hL z (List.mem_of_getElem? hz)
 obtain ⟨a,b,c,d,e,f,h,eg,e0,e1,e2,e3,e6,_⟩:=gl7 V hzG.1 hzG.2
 have hi:=fH hn (show (0:Int)<=(j:Int) by omega) (show (L.map ae)[((j:Nat):Int).toNat]?=some (ae z) by rw [Int.toNat_natCast,List.getElem?_map,hz];rfl)
 k_is
 refine aa sk2 (aa hi (aa (show ixS (ae z) (.int 0) S=some (.int z.1,S) from rfl) (aa (dQ hzG.1 eg) ?_)))
 rw [show aE [a,b,c,d,e,f,h] = .tup [.int a,.int b,.int c,.int d,.int e,.int f,.int h] from rfl]
 k_is
 have ej:jn K z.1=b:=e1
 have eh:qd K (L.take j) z.1 z.2=(decide (0 < h) && (aJ K b z && decide (h < qc K (L.take j) z.1 z.2))):=by unfold qd;rw [e6,ej]
 rw [eh] at q
 cases c1:decide (0 < h) with
 | false=>rw [c1] at q;k_is;exact q S (Sm.refl S)
 | true=>
  rw [c1] at q
  k_is
  refine aa hi ?_
  refine ⟨rfl,lD V hzG.1 hzG.2 ?_⟩
  k_is
  cases c2:aJ K b z with
  | false=>rw [c2] at q;k_is;exact q S (Sm.refl S)
  | true=>
   rw [c2] at q
   k_is
   have rg:=CD (k:=k) (Q:=fun y S2=>wCx .gt y (.int h) S2 fun d S1=>Q d S1) V hn hz hL hl fun S' sm=>by
    k_is
    exact q S' sm
   rw [ej] at rg
   exact ⟨rfl,rg⟩
theorem CG (V:Vd K) {j:Nat} {m:Int} (q:∀ S',Sm S S'->Q (.bl (om K j m)) S'):Ok (evC aj (k+2) c6 [skE K,.int j,.int m] S) Q:=by
 refine aG (d:=bT) (ρ:=[some (skE K),some (.int j),some (.int m),none,none,none,none,none,none]) rfl rfl ?_
 dsimp only [bT,c9]
 k_is
 refine aa sk0 ?_
 rw [show meE K = .tup [.int K.r,.int K.s,.tup (K.M.map aE),.tup (K.H.map ae)] from rfl]
 k_is
 refine ⟨rfl,qg V fun S1 s1 a1 _=>?_⟩
 k_is
 refine aa (cG a1) ?_
 k_is
 rw [List.length_map]
 have r0:=V.r0
 have el:om K j m=match (js K)[(K.r+j).toNat]? with | some t=>decide (t < m - K.s) | none=>false:=rfl
 refine aU (fun h=>?_) fun h=>?_
 ·have hlt:(K.r+j).toNat < (js K).length:=by have:=of_decide_eq_true h;omega
  rw [gEG hlt] at el
  k_is
  refine aa (fH a1 (by omega) (show ((js K).map D.int)[(K.r+(j:Int)).toNat]?=some (.int (js K)[(K.r+(j:Int)).toNat]) by rw [List.getElem?_map,gEG hlt];rfl)) ?_
  k_is
  have:=q S1 s1
  rw [el] at this
  exact this
 ·have hge:(js K).length<=(K.r+j).toNat:=by have:=of_decide_eq_false h;omega
  rw [List.getElem?_eq_none hge] at el
  have:=q S1 s1
  rw [el] at this
  exact this
noncomputable def ou:Option Int->D
 | none=>.non
 | some m=>.int m
theorem vK (V:Vd K) {a:Option (Int × Int)} {g:Int} {j:Nat} (ha:∀ q,a=some q->0<=q.1/\q.1 < K.M.length) (g0:0<=g) (g1:g < K.G.length) (q:∀ S',Sm S S'->Q (ou (Sn.step K a g j)) S'):Ok (evC aj (k+3) dL [skE K,ahE a,.int g,.int j] S) Q:=by
 refine aG (d:=b6) (ρ:=[some (skE K),some (ahE a),some (.int g),some (.int j),none,none,none,none,none,none,none,none]) rfl rfl ?_
 dsimp only [b6,dN]
 obtain ⟨a0,b,c,d,e,f,h,eg,e0,e1,e2,e3,e6,k0,k1,c0⟩:=gl7 V g0 g1
 k_is
 refine aa sk2 (aa (dQ g0 eg) ?_)
 rw [show aE [a0,b,c,d,e,f,h] = .tup [.int a0,.int b,.int c,.int d,.int e,.int f,.int h] from rfl]
 k_is
 refine aa sk0 ?_
 refine ⟨rfl,CC V ha k0 k1 ?_⟩
 k_is
 refine ⟨rfl,Ie V.h4 ?_⟩
 k_is
 have em:fns K.H (if vH K a a0 > c then vH K a a0 else c)=opn K.H (aQ K a g):=by
  have:=y8 (K:=K) (ah:=a) (g:=g) (by rw [e2];exact c0)
  rw [e0,e2] at this
  rw [this,t6 V.ris]
 rw [em]
 have es:Sn.step K a g j=if (decide (d < opn K.H (aQ K a g)) || om K j (opn K.H (aQ K a g)))=true then none else some (opn K.H (aQ K a g)):=by unfold Sn.step;rw [e3]
 rw [es] at q
 cases c1:decide (d < opn K.H (aQ K a g)) with
 | true=>rw [c1] at q;k_is;exact q S (Sm.refl S)
 | false=>
  rw [c1] at q
  k_is
  refine ⟨rfl,CG V fun S1 s1=>?_⟩
  k_is
  cases c2:om K j (opn K.H (aQ K a g)) with
  | true=>rw [c2] at q;k_is;exact q S1 s1
  | false=>rw [c2] at q;k_is;exact q S1 s1
end Lw
namespace Lw
open PySem Ev Sn
variable {p:Nat} {S:Sto} {k:Nat} {Q:D->Sto->Prop} {K:Sky}
theorem Sm.setNew {S S':Sto} {f:Nat} {o:Ob} (h:Sm S S') (hf:S.length<=f):Sm S (S'.set f o):=fun i u e=>by
 have hi:=(List.getElem?_eq_some_iff.mp e).1
 rw [List.getElem?_set_ne (by omega)]
 exact h i u e
theorem Ih {g:Int} (g0:0<=g) (g1:g < K.G.length):jn K g ∈ js K:=by
 have hi:g.toNat < K.G.length:=by omega
 refine (cP _).mem_iff.mpr (List.mem_map.mpr ⟨K.G[g.toNat],List.getElem_mem hi,?_⟩)
 unfold jn gi
 rw [gEG hi];rfl
theorem qh (V:Vd K) {L:List (Int × Int)} (hL:InG K L):∀ q,cA K L=some q->0<=q.1/\q.1 < K.M.length:=fun q e=>by
 unfold cA at e
 cases h:L.getLast? with
 | none=>rw [h] at e;exact V.ah0 q e
 | some z=>
  rw [h] at e
  cases e
  have hz:=hL z (List.mem_of_getLast? h)
  obtain ⟨a,b,c,d,e,f,h,eg,e0,e1,e2,e3,e6,k0,k1,c0⟩:=gl7 V hz.1 hz.2
  show 0<=gi K.G z.1 0/\gi K.G z.1 0 < K.M.length
  rw [e0];exact ⟨k0,k1⟩
theorem hF {L:List (Int × Int)} {z:Int × Int}:cA K (L++[z])=some (gi K.G z.1 0,z.2):=by
 unfold cA
 rw [List.getLast?_append];rfl
theorem fk:∀ (os:List Int) (a:Option (Int × Int)) (L:List (Int × Int)) (j:Nat),rn K os a L = .inl j->j < L.length+os.length
 | [],_,_,_,h=>by cases h
 | g::os,a,L,j,h=>by
  rw [rn] at h
  rw [List.length_cons]
  split at h
  ·cases h;omega
  ·split at h
   ·cases h;omega
   ·have:=fk os _ _ j h
    rw [List.length_append,List.length_singleton] at this
    omega
theorem ow:∀ (os:List Int) (a:Option (Int × Int)) (L R:List (Int × Int)),rn K os a L = .inr R->R.length=L.length+os.length
 | [],_,_,_,h=>by cases h;rfl
 | g::os,a,L,R,h=>by
  rw [rn] at h
  rw [List.length_cons]
  split at h
  ·cases h
  ·split at h
   ·cases h
   ·have:=ow os _ _ R h
    rw [List.length_append,List.length_singleton] at this
    omega
structure Ends (K:Sky) (os:List Int) (L:List (Int × Int)):Prop where
 stuck:∀ j,rn K os K.ah [] = .inl j->L.length=j
 lands:∀ R,rn K os K.ah [] = .inr R->L=R
theorem qi (V:Vd K) {os:List Int} (ho:∀ g ∈ os,0<=g/\g < K.G.length) (lo:os.length<=7)
  (q:∀ n L S',Sm S S'->S'[n]?=some (.lst (L.map ae))->List.length S<=n->Ends K os L->Q (.ref n) S'):Ok (evC aj (k+5) cR [skE K,.tup (os.map D.int)] S) Q:=by
 refine aG (d:=bK) (ρ:=[some (skE K),some (.tup (os.map D.int)),none,none,none,none]) rfl rfl ?_
 dsimp only [bK,cS]
 k_is
 refine zd (by rw [List.length_map];omega) (fun i ρ S'=>Sm S S'/\∃ L u v w,ρ=[some (skE K),some (.tup (os.map D.int)),some (.ref (List.length S)),u,v,w]/\S'[List.length S]?=some (.lst (L.map ae))/\L.length=i/\InG K L/\rn K os K.ah []=rn K (os.drop i) (cA K L) L) (fun i d ρ S1 hd ⟨s1,L,u,v,w,er,hn,hi,hL,hr⟩=>?_) (fun ρ S1 ⟨s1,L,u,v,w,er,hn,hi,hL,hr⟩=>?_) ⟨Sm.app _ _,[],none,none,none,rfl,aI,rfl,fun _ h=>(by simp at h),rfl⟩
 ·subst er
  obtain ⟨g,hg,rfl⟩:=oo hd
  have hgG:=ho g (List.mem_of_getElem? hg)
  have hil:i < os.length:=(List.getElem?_eq_some_iff.mp hg).1
  rw [jX hg,rn,hi] at hr
  refine ⟨_,fG (by simp) (by simp),?_⟩
  k_is
  refine ⟨rfl,zg V hn hL ?_⟩
  refine ⟨rfl,vK V (qh V hL) hgG.1 hgG.2 fun S2 s2=>?_⟩
  k_is
  cases hst:Sn.step K (cA K L) g i with
  | none=>
   rw [hst] at hr
   refine aa (show ay .is (ou none) .non S2=some (.bl true,S2) from rfl) ?_
   k_is
   exact q _ L S2 (s1.trans s2) (s2 _ _ hn) (Nat.le_refl _) ⟨fun j e=>by rw [hr] at e;cases e;exact hi,fun R e=>by rw [hr] at e;cases e⟩
  | some m=>
   rw [hst] at hr
   refine aa (show ay .is (ou (some m)) .non S2=some (.bl false,S2) from rfl) ?_
   rw [show ou (some m) = .int m from rfl]
   k_is
   have hn2:=s2 _ _ hn
   refine ⟨dP hn2,?_⟩
   rw [ly hn2 (by rw [List.length_map];omega)]
   k_is
   have lt2:List.length S < S2.length:=(List.getElem?_eq_some_iff.mp hn2).1
   have hn3:(S2.set (List.length S) (Ob.lst (L.map ae++[D.tup [D.int g,D.int m]])))[List.length S]?=some (.lst ((L++[(g,m)]).map ae)):=by rw [eO lt2,List.map_append];rfl
   have s3:Sm S (S2.set (List.length S) (Ob.lst (L.map ae++[D.tup [D.int g,D.int m]]))):=Sm.setNew (s1.trans s2) (Nat.le_refl _)
   generalize S2.set (List.length S) (Ob.lst (L.map ae++[D.tup [D.int g,D.int m]]))=S3 at *
   have hL3:InG K (L++[(g,m)]):=fun z hz=>by
    rcases List.mem_append.mp hz with hz | hz
    ·exact hL z hz
    ·rw [List.mem_singleton.mp hz];exact hgG
   have hz3:(L++[(g,m)])[i]?=some (g,m):=by rw [List.getElem?_append_right (by omega),hi,Nat.sub_self];rfl
   have ht3:(L++[(g,m)]).take i=L:=by rw [<-hi,List.take_left]
   refine ⟨rfl,CF V hn3 hz3 hL3 (by rw [List.length_append,List.length_singleton];omega) fun S4 s4=>?_⟩
   rw [ht3,CB fun z hz=>Ih (hL z hz).1 (hL z hz).2]
   k_is
   dsimp only at hr
   cases hh:jE K L g m with
   | true=>
    rw [hh,if_pos rfl] at hr
    k_is
    refine aa (oq (s4 _ _ hn3)) ?_
    k_is
    have a5:(S4++[Ob.lst (((L++[(g,m)]).map ae).take i)])[List.length S4]?=some (.lst (L.map ae)):=by rw [aI,<-List.map_take,ht3]
    have l4:List.length S<=List.length S4:=Nat.le_of_lt (List.getElem?_eq_some_iff.mp (s4 _ _ hn3)).1
    exact q _ L _ ((s3.trans s4).trans (Sm.app _ _)) a5 l4 ⟨fun j e=>by rw [hr] at e;cases e;exact hi,fun R e=>by rw [hr] at e;cases e⟩
   | false=>
    rw [hh,if_neg Bool.false_ne_true] at hr
    k_is
    exact ⟨s3.trans s4,L++[(g,m)],_,_,_,rfl,s4 _ _ hn3,by rw [List.length_append,List.length_singleton];omega,hL3,by rw [hF];exact hr⟩
 ·subst er
  k_is
  rw [List.length_map,List.drop_length,rn] at hr
  exact q _ L S1 s1 hn (Nat.le_refl _) ⟨fun j e=>(by rw [hr] at e;cases e),fun R e=>(by rw [hr] at e;cases e;rfl)⟩
end Lw
namespace Lw
open PySem Ev Sn
variable {p:Nat} {S:Sto} {k:Nat} {Q:D->Sto->Prop} {K:Sky}
theorem oz (r:List Int):TDs p S (r.map Dw.D.int) (r.map D.int):=by
 induction r with
 | nil=>exact ce
 | cons a r ih=>exact aH fF ih
theorem r9:∀ (M:List (List Int)),TDs p S (Dw.dU M) (M.map aE)
 | []=>ce
 | r::M=>aH (cx (oz r)) (r9 M)
noncomputable def ahT:Option (Int × Int)->Dw.D
 | none=>.non
 | some q=>.tup [.int q.1,.int q.2]
noncomputable def skT (K:Sky):Dw.D:=.tup [.tup [.int K.r,.int K.s,.tup (Dw.dU K.M),.tup (K.H.map Dw.ci)],ahT K.ah,.tup (Dw.dU K.G),.tup (K.F.map Dw.D.int)]
theorem KL:∀ (a:Option (Int × Int)),TD p S (ahT a) (ahE a)
 | none=>FQ
 | some q=>cx (aH fF (aH fF ce))
theorem KM:TD p S (skT K) (skE K):=cx (aH (cx (aH fF (aH fF (aH (cx (r9 K.M)) (aH (cx (lx K.H)) ce))))) (aH (KL K.ah) (aH (cx (r9 K.G)) (aH (cx (oz K.F)) ce))))
theorem zi (hs:Dw.kj (skT K)=true) (q:∀ S',Sm S S'->Q .non S'):Ok (evC aj (k+8) ju [skE K] S) Q:=by
 refine aG (d:=fD) (ρ:=[some (skE K)]) rfl rfl ?_
 dsimp only [fD,jB]
 k_is
 refine ⟨rfl,Ib (p:=0) KM fun S1 s1=>?_⟩
 rw [hs]
 k_is
 exact q S1 s1
structure Ord (K:Sky) (os:List Int):Prop where
 nd:os.Nodup
 bd:∀ g ∈ os,0<=g/\g < K.G.length
 ln:os.length=K.G.length
 fx:∃ r,os=K.F++r
theorem qj {n:Nat}:∀ (xs:List Int),eqL (eqD (n+1) S) (xs.map D.int) (xs.map D.int)=some true
 | []=>rfl
 | x::xs=>by
  have e:eqD (n+1) S (D.int x) (D.int x)=some (x == x):=rfl
  rw [List.map_cons,eqL,e,qj xs,beq_self_eq_true];rfl
theorem CH (xs:List Int):ay .eq (.tup (xs.map D.int)) (.tup (xs.map D.int)) S=some (.bl true,S):=by
 have:eqD 60 S (.tup (xs.map D.int)) (.tup (xs.map D.int))=eqL (eqD 59 S) (xs.map D.int) (xs.map D.int):=rfl
 simp only [ay,eqS]
 rw [this,qj];rfl
theorem CJ {xs ys:List D} (h:Ok (ay .eq (.tup xs) (.tup ys) S) Q):rQ .eq xs (.tup ys) S Q:=by
 cases ys with
 | nil=>rw [tU,ao] at h;exact h
 | cons y ys=>exact h
theorem zj (V:Vd K) {os:List Int} (ho:Ord K os) (q:∀ S',Sm S S'->Q (.bl true) S'):Ok (evC aj (k+4) kR [skE K,.tup (os.map D.int)] S) Q:=by
 refine aG (d:=gP) (ρ:=[some (skE K),some (.tup (os.map D.int)),none]) rfl rfl ?_
 dsimp only [gP,lb]
 have g7:=V.g7
 have ei:Dw.bv (os.map Dw.D.int)=os:=by unfold Dw.bv;rw [List.map_map];exact (List.map_congr_left fun x _=>rfl).trans (List.map_id os)
 have hu:Dw.cq K.G.length (.tup (os.map Dw.D.int))=true:=by
  refine Dw.ji ?_ (by rw [ei];exact ho.nd)
  rw [List.all_map,List.all_eq_true]
  intro x hx
  have:=ho.bd x hx
  show (decide (0<=x) && decide (x<=(K.G.length:Int) - 1))=true
  rw [bAE,decide_eq_true_eq,decide_eq_true_eq]
  omega
 k_is
 refine aa sk2 ?_
 refine aa (show ag bG (.tup (K.G.map aE)) S=some (.int K.G.length,S) by simp only [ag,aq,bG,List.length_map]) ?_
 k_is
 refine ⟨rfl,mR (p:=0) (cx (oz os)) (by omega) fun S1 s1=>?_⟩
 rw [hu]
 k_is
 refine aa (show ag bG (.tup (os.map D.int)) S1=some (.int os.length,S1) by simp only [ag,aq,bG,List.length_map]) ?_
 k_is
 rw [ho.ln,decide_eq_true (rfl:(K.G.length:Int)=K.G.length)]
 k_is
 refine aa sk3 ?_
 refine aa (show ag bG (.tup (K.F.map D.int)) S1=some (.int K.F.length,S1) by simp only [ag,aq,bG,List.length_map]) ?_
 k_is
 refine aa sk3 ?_
 obtain ⟨r,er⟩:=ho.fx
 have hc:cC (os.map D.int) none (some (K.F.length:Int))=K.F.map D.int:=by
  rw [ib _ _ (by rw [List.length_map,er,List.length_append];omega),<-List.map_take,er,List.take_left]
 rw [hc]
 exact CJ (aa (CH K.F) (by k_is;exact q S1 s1))
noncomputable def Res (K:Sky) (os:List Int) (b:Nat) (d:D) (S':Sto):Prop:=match rn K os K.ah [] with
 | .inl j=>d = .tup [.str "stuck", .int j]
 | .inr R=>∃ n,d = .tup [.str "lands", .ref n]/\S'[n]?=some (.lst (R.map ae))/\b<=n
theorem sd (V:Vd K) (hs:Dw.kj (skT K)=true) {os:List Int} (ho:Ord K os) (q:∀ d S',Sm S S'->Res K os (List.length S) d S'->Q d S'):Ok (evC aj (k+9) mI [skE K,.tup (os.map D.int)] S) Q:=by
 refine aG (d:=i9) (ρ:=[some (skE K),some (.tup (os.map D.int)),none]) rfl rfl ?_
 dsimp only [i9,mN]
 have g7:=V.g7
 have ln:=ho.ln
 k_is
 refine ⟨rfl,zi hs fun S1 s1=>?_⟩
 k_is
 refine ⟨rfl,zj (k:=k+4) V ho fun S2 s2=>?_⟩
 k_is
 refine ⟨rfl,qi (k:=k+3) V ho.bd (by omega) fun n L S3 s3 hn hN he=>?_⟩
 k_is
 refine aa (cG hn) ?_
 refine aa (show ag bG (.tup (os.map D.int)) S3=some (.int os.length,S3) by simp only [ag,aq,bG,List.length_map]) ?_
 k_is
 rw [List.length_map]
 have sA:=(s1.trans s2).trans s3
 have lS:List.length S<=List.length S2:=by
  have s12:=s1.trans s2
  by_cases hz:List.length S<=List.length S2
  ·exact hz
  ·exfalso
   have hlt:List.length S2 < List.length S:=by omega
   have:=s12 (List.length S2) S[List.length S2] (gEG hlt)
   rw [List.getElem?_eq_none (Nat.le_refl _)] at this
   cases this
 cases hr:rn K os K.ah [] with
 | inl j=>
  have e1:=he.stuck j hr
  have e2:=fk os _ _ j hr
  rw [List.length_nil,Nat.zero_add] at e2
  rw [decide_eq_true (show (L.length:Int) < os.length by omega)]
  k_is
  refine aa (cG hn) ?_
  k_is
  refine q _ S3 sA ?_
  unfold Res
  rw [hr,List.length_map,e1]
 | inr R=>
  have e1:=he.lands R hr
  have e2:=ow os _ _ R hr
  rw [List.length_nil,Nat.zero_add] at e2
  rw [e1,decide_eq_false (show ¬ (R.length:Int) < os.length by omega)]
  k_is
  refine q _ S3 sA ?_
  unfold Res
  rw [hr]
  exact ⟨n,rfl,by rw [<-e1];exact hn,by omega⟩
end Lw
namespace Lw
open PySem Ev Sn
variable {p:Nat} {S:Sto} {k:Nat} {Q:D->Sto->Prop} {K:Sky}
theorem zk {H:List (Int × Int)} {m:Int} (hl:H.length<=4) (q:Q (.int (opn H m)) S):Ok (evC aj (k+1) kT [.tup (H.map ae),.int m] S) Q:=by
 refine aG (d:=gU) (ρ:=[some (.tup (H.map ae)),some (.int m),none,none]) rfl rfl ?_
 dsimp only [gU,ll]
 k_is
 refine y9 (by rw [List.length_map];omega) (fun i ρ S'=>S'=S/\∃ (m':Int) (u v:Option D),opn H m=opn (H.drop i) m'/\ρ=[some (.tup (H.map ae)),some (.int m'),u,v]) (fun i d ρ S' hd ⟨es,m',u,v,ef,er⟩=>?_) (fun ρ S' ⟨es,m',u,v,ef,er⟩=>?_) ⟨rfl,m,none,none,rfl,rfl⟩
 ·subst es er
  obtain ⟨pr,hp,rfl⟩:=oo hd
  refine ⟨_,show ax (.tup [.name 2,.name 3]) (.tup [.int pr.1,.int pr.2]) _=_ from fG (by simp) (by simp),?_⟩
  k_is
  rw [jX hp,opn] at ef
  refine qe (fun h1 h2=>?_) fun h=>?_
  ·k_is
   rw [if_pos ⟨of_decide_eq_true h1,of_decide_eq_true h2⟩] at ef
   exact ⟨rfl,_,_,_,ef,rfl⟩
  ·k_is
   rw [if_neg (fun z=>by rw [decide_eq_true z.1,decide_eq_true z.2] at h;cases h)] at ef
   exact ⟨rfl,_,_,_,ef,rfl⟩
 ·subst es er
  k_is
  rw [List.length_map,List.drop_length,opn] at ef
  rw [ef] at q
  exact q
theorem mS (V:Vd K) {L:List (Int × Int)} {n:Nat} {t:Int} (hn:S[n]?=some (.lst (L.map ae))) (hL:InG K L) (hl:L.length<=1000) (q:∀ N ds S',Sm S S'->S'[N]?=some (.lst ds)->ds.length=wts K L t->Q (.ref N) S'):Ok (evC aj (k+1) ft [skE K,.ref n,.int t] S) Q:=by
 refine aG (d:=fE) (ρ:=[some (skE K),some (.ref n),some (.int t)]) rfl rfl ?_
 dsimp only [fE,jC]
 k_is
 refine ⟨by rw [aO hn];rfl,?_⟩
 refine bU L ae (fun z=>if aJ K t z=true then [.int z.1] else []) hl (fun z _=>by split <;> simp) (g9 hn) (fun i z S' hz sm=>⟨_,show ax (.tup [.name 3,.name 4]) (.tup [.int z.1,.int z.2]) _=_ from fG (by simp) (by simp),?_⟩) fun S' sm=>?_
 ·obtain ⟨h0,h1⟩:=hL z (List.mem_of_getElem? hz)
  obtain ⟨a,b,c,d,e,f,h,eg,_,e1,_⟩:=gl7 V h0 h1
  k_is
  refine aa sk2 (aa (dQ h0 eg) (aa (show ixS (aE [a,b,c,d,e,f,h]) (.int 1) S'=some (.int b,S') from rfl) ?_))
  k_is
  have ew:aJ K t z=(decide (b<=t) && decide (t < z.2 - K.s)):=by unfold aJ jn;rw [e1]
  rw [ew]
  cases c1:decide (b<=t) with
  | false=>k_is;exact ⟨rfl,Sm.refl _⟩
  | true=>
   k_is
   refine aa sk0 (aa me1 ?_)
   k_is
   cases c2:decide (t < z.2 - K.s) with
   | true=>k_is;exact ⟨rfl,Sm.refl _⟩
   | false=>k_is;exact ⟨rfl,Sm.refl _⟩
 ·rw [cp]
  k_is
  exact q _ _ _ (sm.trans (Sm.app _ _)) aI (by rw [List.length_map];rfl)
theorem vL {c:Int} {xs:List Int} {n:Nat} (h:S[n]?=some (.lst (xs.map D.int))):ag (gg c) (.ref n) S=some (.int (uX c xs),S):=by
 simp only [ag,aq,aO h,Option.map_some,gg,jY]
theorem qk (V:Vd K) {L:List (Int × Int)} {n:Nat} {g m:Int} (hn:S[n]?=some (.lst (L.map ae))) (hL:InG K L) (hl:L.length<=100) (g0:0<=g) (g1:g < K.G.length) (q:∀ S',Sm S S'->Q (.int (lC K L g m)) S'):Ok (evC aj (k+2) gI [skE K,.ref n,.int g,.int m] S) Q:=by
 refine aG (d:=gX) (ρ:=[some (skE K),some (.ref n),some (.int g),some (.int m),none,none,none]) rfl rfl ?_
 dsimp only [gX,lp]
 obtain ⟨a,b,c,d,e,f,h,eg,_,e1,_⟩:=gl7 V g0 g1
 have ej:jn K g=b:=e1
 k_is
 refine aa sk2 (aa (dQ g0 eg) (aa (show ixS (aE [a,b,c,d,e,f,h]) (.int 1) S=some (.int b,S) from rfl) ?_))
 k_is
 have s1:Sm S (S++[Ob.lst [D.int b]]):=Sm.app _ _
 have a1:(S++[Ob.lst [D.int b]])[List.length S]?=some (Ob.lst [D.int b]):=aI
 generalize List.length S=N1 at *
 generalize S++[Ob.lst [D.int b]]=S1 at *
 have hn1:=s1 _ _ hn
 refine ⟨by rw [aO hn1];rfl,?_⟩
 refine bU L ae (fun z=>[.int (jn K z.1)]) (by omega) (fun _ _=>Nat.le_refl _) (g9 hn1) (fun i z S' hz sm=>⟨_,show ax (.tup [.name 7,.name 8]) (.tup [.int z.1,.int z.2]) _=_ from fG (by simp) (by simp),?_⟩) fun S2 s2=>?_
 ·obtain ⟨h0,h1⟩:=hL z (List.mem_of_getElem? hz)
  obtain ⟨a,b,c,d,e,f,h,eg,_,e1,_⟩:=gl7 V h0 h1
  k_is
  refine aa sk2 (aa (dQ h0 eg) (aa (show ixS (aE [a,b,c,d,e,f,h]) (.int 1) S'=some (.int b,S') from rfl) ?_))
  exact ⟨by rw [show jn K z.1=b from e1],Sm.refl _⟩
 ·rw [bV]
  have s3:Sm S2 (S2++[Ob.lst (L.map fun z=>D.int (jn K z.1))]):=Sm.app _ _
  refine aa (ot (s3 _ _ (s2 _ _ a1)) aI (by rw [List.length_map,List.length_singleton];omega)) ?_
  k_is
  have s4:Sm (S2++[Ob.lst (L.map fun z=>D.int (jn K z.1))]) (S2++[Ob.lst (L.map fun z=>D.int (jn K z.1))]++[Ob.lst ([D.int b]++L.map fun z=>D.int (jn K z.1))]):=Sm.app _ _
  have a4:(S2++[Ob.lst (L.map fun z=>D.int (jn K z.1))]++[Ob.lst ([D.int b]++L.map fun z=>D.int (jn K z.1))])[List.length (S2++[Ob.lst (L.map fun z=>D.int (jn K z.1))])]?=some (Ob.lst ((jn K g::L.map fun z=>jn K z.1).map D.int)):=by
   rw [aI,ej,List.map_cons,List.map_map];rfl
  have sA:=((s1.trans s2).trans s3).trans s4
  have hn4:=sA _ _ hn
  generalize List.length (S2++[Ob.lst (L.map fun z=>D.int (jn K z.1))])=N4 at *
  generalize S2++[Ob.lst (L.map fun z=>D.int (jn K z.1))]++[Ob.lst ([D.int b]++L.map fun z=>D.int (jn K z.1))]=S4 at *
  refine ⟨by rw [aO a4];rfl,?_⟩
  refine bU (jn K g::L.map fun z=>jn K z.1) D.int (fun t=>if (decide (jn K g<=t) && decide (t < m - K.s))=true then [D.int (1+(wts K L t:Int))] else []) (by rw [List.length_cons,List.length_map];omega) (fun _ _=>by split <;> simp) (g9 a4) (fun i t S' ht sm=>⟨_,rfl,?_⟩) fun S5 s5=>?_
  ·k_is
   rw [ej]
   cases c1:decide (b<=t) with
   | false=>k_is;exact ⟨rfl,Sm.refl _⟩
   | true=>
    k_is
    refine aa sk0 (aa me1 ?_)
    k_is
    cases c2:decide (t < m - K.s) with
    | false=>k_is;exact ⟨rfl,Sm.refl _⟩
    | true=>
     k_is
     refine ⟨rfl,mS V (sm _ _ hn4) hL (by omega) fun N ds S6 s6 hN hd=>?_⟩
     refine aa (cG hN) ?_
     k_is
     rw [hd]
     exact ⟨rfl,s6⟩
  ·rw [cp]
   k_is
   have s6:Sm S5 (S5++[Ob.lst ((eX K L g m).map fun t=>D.int (1+(wts K L t:Int)))]):=Sm.app _ _
   have a6:(S5++[Ob.lst ((eX K L g m).map fun t=>D.int (1+(wts K L t:Int)))])[List.length S5]?=some (Ob.lst (((eX K L g m).map fun t=>1+(wts K L t:Int)).map D.int)):=by rw [aI,List.map_map];rfl
   refine aa (vL a6) ?_
   k_is
   exact q _ ((sA.trans s5).trans s6)
theorem ql {ds:List D} {i:Int} (h0:0<=i):cC ds (some i) none=ds.drop i.toNat:=by
 unfold cC
 rw [Dw.Eu _ _ h0,HT.wg]
 by_cases h:i.toNat<=ds.length
 ·rw [Nat.min_eq_left h,List.take_of_length_le (by rw [List.length_drop];omega)]
 ·rw [Nat.min_eq_right (by omega),List.drop_length,List.take_nil,List.drop_eq_nil_of_le (by omega)]
theorem zl {n:Nat} {ds:List D} {i:Int} (hn:S[n]?=some (.lst ds)) (h0:0<=i):slS (some i) none (.ref n) S=some (.ref (List.length S),S++[.lst (ds.drop i.toNat)]):=by
 simp only [slS,aO hn,ql h0]
end Lw
namespace Lw
open PySem Ev Sn
variable {p:Nat} {S:Sto} {k:Nat} {Q:D->Sto->Prop} {K:Sky}
theorem se (V:Vd K) {a:Option (Int × Int)} {g:Int} {j:Nat} {kd jo la:Int} {w1 w2:Option D} (e3:gi K.G g 3=la) (q:∀ S',Sm S S'->Q (ou (Sn.step K a g j)) S') :
  rW (wSs (evC aj (k+1)) (iZ aj) 58 (eG.drop 2)) [some (skE K),some (ahE a),some (.int g),some (.int j),some (.int kd),some (.int jo),some (.int (aQ K a g)),some (.int la),none,none] S (out Q):=by
 dsimp only [eG,List.drop]
 k_is
 refine aa sk0 (aa me3 ?_)
 refine ⟨rfl,zk V.h4 ?_⟩
 k_is
 have es:Sn.step K a g j=if (decide (la < opn K.H (aQ K a g)) || om K j (opn K.H (aQ K a g)))=true then none else some (opn K.H (aQ K a g)):=by unfold Sn.step;rw [e3]
 rw [es] at q
 generalize opn K.H (aQ K a g)=m at *
 refine aa sk2 ?_
 k_is
 refine bU K.G aE (fun g=>[.int (g.getD 1 0)]) (by have:=V.g7;omega) (fun _ _=>Nat.le_refl _) jd (fun i g S' hg sm=>⟨_,rfl,?_⟩) fun S1 s1=>?_
 ·obtain ⟨l7,_⟩:=V.gl g (List.mem_of_getElem? hg)
  match g,l7 with
  | [a,b,c,d,e,f,h],_=>
   k_is
   exact aa (show ixS (aE [a,b,c,d,e,f,h]) (.int 1) S'=some (.int b,S') from rfl) ⟨rfl,Sm.refl _⟩
 ·rw [bV]
  refine ⟨_,show cu false (K.G.map fun g=>D.int (g.getD 1 0))=some ((js K).map D.int) from ?_,?_⟩
  ·have:=qf (xs:=K.G.map fun g=>g.getD 1 0) (by rw [List.length_map];have:=V.g7;omega)
   rw [List.map_map] at this
   exact this
  ·refine aa sk0 (aa me0 ?_)
   k_is
   have s2:Sm S1 (S1++[Ob.lst ((js K).map D.int)]):=Sm.app _ _
   have a2:(S1++[Ob.lst ((js K).map D.int)])[List.length S1]?=some (Ob.lst ((js K).map D.int)):=aI
   generalize List.length S1=N1 at *
   generalize S1++[Ob.lst ((js K).map D.int)]=S2 at *
   have r0:=V.r0
   refine aa (zl a2 (by omega)) ?_
   k_is
   have s3:Sm S2 (S2++[Ob.lst (((js K).map D.int).drop (K.r+(j:Int)).toNat)]):=Sm.app _ _
   have a3:(S2++[Ob.lst (((js K).map D.int).drop (K.r+(j:Int)).toNat)])[List.length S2]?=some (Ob.lst (((js K).map D.int).drop (K.r+(j:Int)).toNat)):=aI
   have l3:List.length S2 < List.length (S2++[Ob.lst (((js K).map D.int).drop (K.r+(j:Int)).toNat)]):=by simp
   generalize List.length S2=N2 at *
   generalize S2++[Ob.lst (((js K).map D.int).drop (K.r+(j:Int)).toNat)]=S3 at *
   have sA:=(s1.trans s2).trans s3
   cases c1:decide (la < m) with
   | true=>rw [c1] at q;k_is;exact q _ sA
   | false=>
    rw [c1] at q
    k_is
    refine aa (F3 (Sm.app _ _ _ _ a3) aI (by omega)) ?_
    k_is
    have sB:Sm S (S3++[Ob.lst []]):=sA.trans (Sm.app _ _)
    have a4:=Sm.app S3 [Ob.lst []] _ _ a3
    generalize S3++[Ob.lst []]=S4 at *
    have el:om K j m=match (js K)[(K.r+j).toNat]? with | some t=>decide (t < m - K.s) | none=>false:=rfl
    by_cases hlt:(K.r+(j:Int)).toNat < (js K).length
    ·rw [gEG hlt] at el
     dsimp only at el
     have ed:((js K).map D.int).drop (K.r+(j:Int)).toNat = .int (js K)[(K.r+(j:Int)).toNat]::((js K).map D.int).drop ((K.r+(j:Int)).toNat+1):=by
      rw [List.drop_eq_getElem_cons (by rw [List.length_map];exact hlt),List.getElem_map]
     rw [ed] at a4
     rw [ed,show (!(D.int (js K)[(K.r+(j:Int)).toNat]::((js K).map D.int).drop ((K.r+(j:Int)).toNat+1)).isEmpty)=true from rfl]
     k_is
     refine aa sk0 (aa me1 ?_)
     k_is
     refine aa (fH (i:=0) a4 (by omega) rfl) ?_
     k_is
     rw [el] at q
     cases c2:decide ((js K)[(K.r+(j:Int)).toNat] < m - K.s) with
     | true=>rw [c2] at q;k_is;exact q _ sB
     | false=>rw [c2] at q;k_is;exact q _ sB
    ·rw [List.getElem?_eq_none (by omega)] at el
     have ed:((js K).map D.int).drop (K.r+(j:Int)).toNat=[]:=List.drop_eq_nil_of_le (by rw [List.length_map];omega)
     rw [ed,show (!([]:List D).isEmpty)=false from rfl]
     k_is
     rw [el] at q
     exact q _ sB
theorem zm (V:Vd K) {a:Option (Int × Int)} {g:Int} {j:Nat} (ha:∀ q,a=some q->0<=q.1/\q.1 < K.M.length) (g0:0<=g) (g1:g < K.G.length) (q:∀ S',Sm S S'->Q (ou (Sn.step K a g j)) S'):Ok (evC aj (k+2) kU [skE K,ahE a,.int g,.int j] S) Q:=by
 refine aG (d:=gY) (ρ:=[some (skE K),some (ahE a),some (.int g),some (.int j),none,none,none,none,none,none]) rfl rfl ?_
 dsimp only [gY,eG]
 obtain ⟨a0,b,c,d,e,f,h,eg,e0,e1,e2,e3,e6,k0,k1,c0⟩:=gl7 V g0 g1
 k_is
 refine aa sk2 (aa (dQ g0 eg) ?_)
 rw [show aE [a0,b,c,d,e,f,h] = .tup [.int a0,.int b,.int c,.int d,.int e,.int f,.int h] from rfl]
 k_is
 rw [show cC [D.int a0,.int b,.int c,.int d,.int e,.int f,.int h] none (some 4)=[.int a0,.int b,.int c,.int d] from rfl]
 k_is
 have tail:=se (k:=k) (S:=S) (Q:=Q) V (a:=a) (g:=g) (j:=j) (kd:=a0) (jo:=b) (w1:=none) (w2:=none) e3 q
 dsimp only [eG,List.drop] at tail
 cases a with
 | none=>
  have ef:aQ K none g=c:=e2
  rw [ef] at tail
  refine aa (show ay .isnot (ahE none) .non S=some (.bl false,S) from rfl) ?_
  k_is
  exact tail
 | some z=>
  obtain ⟨z0,z1⟩:=ha z rfl
  refine aa (show ay .isnot (ahE (some z)) .non S=some (.bl true,S) from rfl) ?_
  k_is
  refine aa (show ixS (ahE (some z)) (.int 1) S=some (.int z.2,S) from rfl) ?_
  refine aa sk0 (aa me2 (aa (show ixS (ahE (some z)) (.int 0) S=some (.int z.1,S) from rfl) ?_))
  obtain ⟨r,h1,h2⟩:=zf (S:=S) V z0 z1 k0 k1
  refine aa h1 (aa h2 ?_)
  k_is
  have ef:aQ K (some z) g=if z.2+gp K z.1 a0 > c then z.2+gp K z.1 a0 else c:=by unfold aQ;rw [e0,e2]
  rw [ef] at tail
  exact tail
theorem lJ (V:Vd K) {L:List (Int × Int)} {S3:Sto} {N i:Nat} {g m h:Int} {od ad:D} (hn:S3[N]?=some (.lst (L.map ae))) (hl:L.length<=100) (g0:0<=g) (g1:g < K.G.length) {Qf:Fl->Rho->Sto->Prop}
  (q:Qf .nx [some (skE K),some od,some (ahE (cA K (L++[(g,m)]))),some (.ref N),some (.int i),some (.int g),some (.int m),some (.int h)] (S3.set N (.lst (L.map ae++[.tup [.int g,.int m]])))) :
  fm (.ref N) S3=true/\Ok (pA (.ref N) [.tup [.int g,.int m]] S3) fun _ S1=>rW (wSs (evC aj (k+2)) (iZ aj) 54 [CS.asg (Tg.name 2) (CE.tup [(((CE.var 0).ix (CE.int 2)).ix (CE.var 5)).ix (CE.int 0),CE.var 6])]) [some (skE K),some od,some ad,some (.ref N),some (.int i),some (.int g),some (.int m),some (.int h)] S1 Qf:=by
 refine ⟨dP hn,?_⟩
 rw [ly hn (by rw [List.length_map];omega)]
 obtain ⟨a,b,c,d,e,f,h',eg,e0,_⟩:=gl7 V g0 g1
 k_is
 refine aa sk2 (aa (dQ g0 eg) (aa (show ixS (aE [a,b,c,d,e,f,h']) (.int 0) (S3.set N (.lst (L.map ae++[.tup [.int g,.int m]])))=some (.int a,_) from rfl) ?_))
 k_is
 rw [hF,e0] at q
 exact q
theorem jF (V:Vd K) {os:List Int} (ho:∀ g ∈ os,0<=g/\g < K.G.length) (lo:os.length<=7) (q:∀ d S',Sm S S'->Res K os (List.length S) d S'->Q d S'):Ok (evC aj (k+3) dr [skE K,.tup (os.map D.int)] S) Q:=by
 refine aG (d:=dD) (ρ:=[some (skE K),some (.tup (os.map D.int)),none,none,none,none,none,none]) rfl rfl ?_
 dsimp only [dD,gy]
 k_is
 refine aa sk1 ?_
 k_is
 refine zd (by rw [List.length_map];omega) (fun i ρ S'=>Sm S S'/\∃ L u v w x,ρ=[some (skE K),some (.tup (os.map D.int)),some (ahE (cA K L)),some (.ref (List.length S)),u,v,w,x]/\S'[List.length S]?=some (.lst (L.map ae))/\L.length=i/\InG K L/\rn K os K.ah []=rn K (os.drop i) (cA K L) L) (fun i d ρ S1 hd ⟨s1,L,u,v,w,x,er,hn,hi,hL,hr⟩=>?_) (fun ρ S1 ⟨s1,L,u,v,w,x,er,hn,hi,hL,hr⟩=>?_) ⟨Sm.app _ _,[],none,none,none,none,rfl,aI,rfl,fun _ h=>(by simp at h),rfl⟩
 ·subst er
  obtain ⟨g,hg,rfl⟩:=oo hd
  have hgG:=ho g (List.mem_of_getElem? hg)
  have hil:i < os.length:=(List.getElem?_eq_some_iff.mp hg).1
  rw [jX hg,rn,hi] at hr
  refine ⟨_,fG (by simp) (by simp),?_⟩
  k_is
  refine ⟨rfl,zm V (qh V hL) hgG.1 hgG.2 fun S2 s2=>?_⟩
  obtain ⟨a,b,c,d,e,f,h,eg,e0,e1,e2,e3,e6,k0,k1,c0⟩:=gl7 V hgG.1 hgG.2
  refine aa sk2 (aa (dQ hgG.1 eg) (aa (show ixS (aE [a,b,c,d,e,f,h]) (.int 6) S2=some (.int h,S2) from rfl) ?_))
  k_is
  have hn2:=s2 _ _ hn
  have stuck:rn K os K.ah [] = .inl i->∀ S',Sm S S'->Q (.tup [.str "stuck", .int i]) S':=fun e S' s=>q _ S' s (by unfold Res;rw [e])
  cases hst:Sn.step K (cA K L) g i with
  | none=>
   rw [hst] at hr
   refine aa (show ay .is (ou none) .non S2=some (.bl true,S2) from rfl) ?_
   k_is
   exact stuck hr S2 (s1.trans s2)
  | some m=>
   rw [hst] at hr
   refine aa (show ay .is (ou (some m)) .non S2=some (.bl false,S2) from rfl) ?_
   rw [show ou (some m) = .int m from rfl]
   k_is
   dsimp only at hr
   have eh:jE K L g m=(decide (0 < h) && decide (h < lC K L g m)):=by unfold jE;rw [e6]
   rw [eh] at hr
   have fin:∀ S3,Sm S S3->S3[List.length S]?=some (.lst (L.map ae))->rn K os K.ah []=rn K (os.drop (i+1)) (some (gi K.G g 0,m)) (L++[(g,m)])->Sm S (S3.set (List.length S) (.lst (L.map ae++[.tup [.int g,.int m]])))/\∃ L' u v w x,[some (skE K),some (.tup (os.map D.int)),some (ahE (cA K (L++[(g,m)]))),some (.ref (List.length S)),some (.int (i:Int)),some (.int g),some (.int m),some (.int h)]=[some (skE K),some (.tup (os.map D.int)),some (ahE (cA K L')),some (.ref (List.length S)),u,v,w,x]/\(S3.set (List.length S) (.lst (L.map ae++[.tup [.int g,.int m]])))[List.length S]?=some (.lst (L'.map ae))/\L'.length=i+1/\InG K L'/\rn K os K.ah []=rn K (os.drop (i+1)) (cA K L') L':=fun S3 s3 h3 hr=>by
    have lt3:List.length S < S3.length:=(List.getElem?_eq_some_iff.mp h3).1
    refine ⟨Sm.setNew s3 (Nat.le_refl _),L++[(g,m)],_,_,_,_,rfl,by rw [eO lt3,List.map_append];rfl,by rw [List.length_append,List.length_singleton];omega,fun z hz=>?_,by rw [hF];exact hr⟩
    rcases List.mem_append.mp hz with hz | hz
    ·exact hL z hz
    ·rw [List.mem_singleton.mp hz];exact hgG
   refine aU (fun c1=>?_) fun c1=>?_
   ·rw [c1,Bool.true_and] at hr
    k_is
    refine ⟨rfl,qk (k:=k) V hn2 hL (by omega) hgG.1 hgG.2 fun S3 s3=>?_⟩
    k_is
    cases c2:decide (h < lC K L g m) with
    | true=>
     rw [c2,if_pos rfl] at hr
     k_is
     exact stuck hr S3 ((s1.trans s2).trans s3)
    | false=>
     rw [c2,if_neg Bool.false_ne_true] at hr
     k_is
     refine lJ V (s3 _ _ hn2) (by omega) hgG.1 hgG.2 ?_
     exact fin S3 ((s1.trans s2).trans s3) (s3 _ _ hn2) hr
   ·rw [c1,Bool.false_and,if_neg Bool.false_ne_true] at hr
    k_is
    refine lJ V hn2 (by omega) hgG.1 hgG.2 ?_
    exact fin S2 (s1.trans s2) hn2 hr
 ·subst er
  k_is
  rw [List.length_map,List.drop_length,rn] at hr
  exact q _ S1 s1 (by unfold Res;rw [hr];exact ⟨_,rfl,hn,Nat.le_refl _⟩)
end Lw
namespace Lw
open PySem Ev Sn
variable {p:Nat} {S:Sto} {k:Nat} {Q:D->Sto->Prop} {K:Sky}
theorem DE {ds:List D} (i:Nat) (d:D) (h:ds[i]?=some d):(fun i=>(ds[i]?).getD .non) i=d:=by
 show (ds[i]?).getD .non=d
 rw [h];rfl
theorem hJ {i:Int} (h0:0<=i) (h1:i < 1000):lim i=true:=by simp only [lim,bAE,decide_eq_true_eq];omega
theorem Ii {n:Nat} {lo:Int} {tg:Tg} {c:XA} {ρ:Rho} {Q:List D->Sto->Prop} (f:Nat->D) (hl:n<=1000) (step:∀ (i:Nat),i < n->∃ ρ1,ax tg (.int (lo+i)) ρ=some ρ1/\Ok (c ρ1 S) fun es S1=>es=[f i]/\S1=S) (q:Q ((List.range n).map f) S) :
  Ok (bj (nxR lo n) tg c ρ LF 0 S) fun es S2=>es.length<=100000/\Q es S2:=by
 refine n5 (by omega) (fun i acc S'=>S'=S/\acc=(List.range i).map f) (fun i acc S' hi ⟨e,ea⟩=>?_) (fun es S' ⟨e,ea⟩=>?_) ⟨rfl,rfl⟩
 ·subst e
  obtain ⟨ρ1,e2,es,S1,e3,e4,e5⟩:=step i hi
  exact ⟨ρ1,e2,es,S1,e3,e5,by rw [ea,e4,List.range_succ,List.map_append];rfl⟩
 ·subst e ea
  exact ⟨by rw [List.length_map,List.length_range];omega,q⟩
noncomputable def mid (M:List (List Int)) (n c a:Nat):List (List Int):=(List.range n).map fun i=>if i < a then Dw.aW M n c i else (M[i]?).getD []
theorem iL {M:List (List Int)} {n c a i:Nat} (hi:i < n):(mid M n c a)[i]?=some (if i < a then Dw.aW M n c i else (M[i]?).getD []):=by
 unfold mid;rw [List.getElem?_map,List.getElem?_range hi];rfl
theorem zn {M:List (List Int)} {n c:Nat} (h:Dw.Mat n M):mid M n c 0=M:=by
 apply List.ext_getElem?
 intro i
 by_cases hi:i < n
 ·rw [iL hi,if_neg (by omega)]
  have:i < M.length:=by rw [h.len];exact hi
  rw [gEG this];rfl
 ·rw [List.getElem?_eq_none (by unfold mid;rw [List.length_map,List.length_range];omega),List.getElem?_eq_none (by rw [h.len];omega)]
theorem CK {M:List (List Int)} {n c:Nat}:mid M n c n=(List.range n).map (Dw.aW M n c):=by
 unfold mid
 refine List.map_congr_left fun i hi=>?_
 rw [if_pos (List.mem_range.mp hi)]
theorem CL {M:List (List Int)} {n c a:Nat} (ha:a < n):(mid M n c a).set a (Dw.aW M n c a)=mid M n c (a+1):=by
 apply List.ext_getElem?
 intro i
 by_cases hi:i < n
 ·rw [iL hi]
  by_cases hia:i=a
  ·subst hia
   rw [List.getElem?_set_self (by unfold mid;rw [List.length_map,List.length_range];omega),if_pos (by omega)]
  ·rw [List.getElem?_set_ne (Ne.symm hia),iL hi]
   by_cases h:i < a
   ·rw [if_pos h,if_pos (by omega)]
   ·rw [if_neg h,if_neg (by omega)]
 ·rw [List.getElem?_eq_none (by rw [List.length_set];unfold mid;rw [List.length_map,List.length_range];omega),List.getElem?_eq_none (by unfold mid;rw [List.length_map,List.length_range];omega)]
theorem KN {M:List (List Int)} {n c a b:Nat} (h:Dw.Mat n M) (hc:c < n) (hb:b < n):Dw.mg2 (mid M n c a) c b=Dw.mg2 M c b:=by
 unfold Dw.mg2
 rw [iL hc]
 split
 ·rw [Option.getD_some,Dw.oS M hb]
  obtain ⟨_,_,_,_,p1,_⟩:=h.at hc hc
  show (if Dw.mg2 M c c+Dw.mg2 M c b < Dw.mg2 M c b then Dw.mg2 M c c+Dw.mg2 M c b else Dw.mg2 M c b)=_
  rw [if_neg (by omega)];rfl
 ·rfl
theorem KO {M:List (List Int)} {n c a b:Nat} (ha:a < n):Dw.mg2 (mid M n c a) a b=Dw.mg2 M a b:=by
 unfold Dw.mg2
 rw [iL ha,if_neg (Nat.lt_irrefl _)];rfl
theorem RowsS.at {rs:List D} {M:List (List Int)} (h:RowsS p S rs M) {n:Nat} {L:Nat} (hL:S[L]?=some (.lst rs)) {i j:Int} (i0:0<=i) (j0:0<=j) (hm:∃ r x,M[i.toNat]?=some r/\r[j.toNat]?=some x/\x=Dw.mg2 M i.toNat j.toNat) :
  ∃ a,ixS (.ref L) (.int i) S=some (.ref a,S)/\ixS (.ref a) (.int j) S=some (.int (Dw.mg2 M i.toNat j.toNat),S):=by
 obtain ⟨r,x,hr,hx,ex⟩:=hm
 obtain ⟨a,ea,na,za⟩:=h.row _ r hr
 exact ⟨a,fH hL i0 ea,fH za j0 (by rw [List.getElem?_map,hx,ex];rfl)⟩
theorem si {M:List (List Int)} {n i j:Nat} (hl:M.length=n) (hr:∀ r ∈ M,r.length=n) (hi:i < n) (hj:j < n):∃ r x,M[i]?=some r/\r[j]?=some x/\x=Dw.mg2 M i j:=by
 have hi':i < M.length:=by omega
 have hj':j < M[i].length:=by rw [hr _ (List.getElem_mem hi')];exact hj
 refine ⟨M[i],M[i][j],gEG hi',gEG hj',?_⟩
 unfold Dw.mg2
 rw [gEG hi',Option.getD_some,gEG hj'];rfl
theorem zo {M:List (List Int)} {n c a:Nat} (h:Dw.Mat n M):∀ r ∈ mid M n c a,r.length=n:=fun r hr=>by
 unfold mid at hr
 obtain ⟨i,hi,rfl⟩:=List.mem_map.mp hr
 have hi:=List.mem_range.mp hi
 split
 ·exact Dw.oQ M n c i
 ·have:i < M.length:=by rw [h.len];exact hi
  rw [gEG this]
  exact h.row _ (List.getElem_mem this)
theorem CM {M:List (List Int)} {n c a:Nat}:(mid M n c a).length=n:=by unfold mid;rw [List.length_map,List.length_range]
theorem RowsS.set {rs:List D} {M:List (List Int)} {L i a:Nat} {r:List Int} (h:RowsS p S rs M) (hL:S[L]?=some (.lst rs)) (hi:i < M.length) (na:a ≠ p) (za:S[a]?=some (.lst (r.map D.int))) (nL:a ≠ L) (hz:∀ (i:Nat) r b,M[i]?=some r->rs[i]?=some (D.ref b)->b ≠ L):RowsS p (S.set L (.lst (rs.set i (.ref a)))) (rs.set i (.ref a)) (M.set i r):=by
 refine ⟨by rw [List.length_set,List.length_set];exact h.len,fun j r' hr=>?_⟩
 by_cases hj:j=i
 ·subst hj
  rw [List.getElem?_set_self hi] at hr
  cases hr
  exact ⟨a,by rw [List.getElem?_set_self (by rw [h.len];exact hi)],na,by rw [List.getElem?_set_ne (Ne.symm nL)];exact za⟩
 ·rw [List.getElem?_set_ne (Ne.symm hj)] at hr
  obtain ⟨b,eb,nb,zb⟩:=h.row j r' hr
  have:=hz j r' b hr eb
  exact ⟨b,by rw [List.getElem?_set_ne (Ne.symm hj)];exact eb,nb,by rw [List.getElem?_set_ne (Ne.symm this)];exact zb⟩
theorem CN {rs:List D} {M:List (List Int)} {L n:Nat} (h:RowsS p S rs M) (hL:S[L]?=some (.lst rs)) (hr:∀ r ∈ M,0 < r.length):∀ (i:Nat) r b,M[i]?=some r->rs[i]?=some (D.ref b)->b ≠ L:=fun i r b e1 e2 e3=>by
 obtain ⟨b',e4,_,z⟩:=h.row i r e1
 rw [e2] at e4
 cases e4
 rw [e3,hL] at z
 cases z
 rw [List.getElem?_map] at e2
 cases hx:r[i]? with
 | none=>rw [hx] at e2;cases e2
 | some x=>rw [hx] at e2;cases e2
end Lw
namespace Lw
open PySem Ev Sn L2
variable {p:Nat} {S:Sto} {k:Nat} {Q:D->Sto->Prop} {K:Sky}
theorem Kp.len {p:Nat} {S S':Sto} (h:Ev.Kp p S S') (hp:p < S'.length):S.length<=S'.length:=by
 by_cases hz:S.length<=S'.length
 ·exact hz
 ·exfalso
  have hlt:S'.length < S.length:=by omega
  have:=h S'.length S[S'.length] (by omega) (gEG hlt)
  rw [List.getElem?_eq_none (Nat.le_refl _)] at this
  cases this
theorem t8 {n:Nat} {ds:List D} {i:Int} {v:D} (hn:S[n]?=some (.lst ds)) (h0:0<=i) (h1:i.toNat < ds.length):kB (.ref n) (.int i) v S=some (S.set n (.lst (ds.set i.toNat v))):=by
 have hix:ixN ds.length i=some i.toNat:=by
  unfold ixN
  rw [if_pos (by omega),if_pos (by omega)]
 simp only [kB,hn,hix,Option.map_some]
theorem zp {n L:Nat} {es:List D} {M:List (List Int)} {u v w x:Option D} {pt:D} (hL:S[L]?=some (.lst es)) (hr:RowsS p S es M) (hm:Dw.Mat n M) (hn:n<=4) (q:∀ S',Sm S S'->Q (.tup (M.map aE)) S') :
  rW (wSs (evC aj (k+1)) (iZ aj) 57 (eF.drop 3)) [some pt,u,v,some (.ref L),w,x] S (out Q):=by
 dsimp only [eF,List.drop]
 k_is
 refine ⟨by rw [aO hL];rfl,?_⟩
 have le:es.length=n:=by rw [hr.len,hm.len]
 refine yw n (fun i=>(es[i]?).getD .non) (fun i acc S'=>S'=S/\acc=(M.take i).map aE) (fun i acc S' hi ⟨e,_⟩=>by subst e;rw [<-le];exact yx hL _ DE) (by omega) (fun i acc S2 hi ⟨e2,ea⟩=>?_) (fun es' S2 ⟨e2,ea⟩=>⟨by rw [ea,List.length_map,List.length_take];omega,?_⟩) ⟨rfl,rfl⟩
 ·subst e2
  have li:i < M.length:=by rw [hm.len];exact hi
  obtain ⟨a,eb,na,za⟩:=hr.row i M[i] (gEG li)
  simp only [eb,Option.getD_some]
  refine ⟨_,rfl,?_⟩
  k_is
  refine aa (show ag dH (.ref a) S2=some (.tup (M[i].map D.int),S2) by simp only [ag,aq,aO za,Option.map_some,dH]) ?_
  refine ⟨rfl,?_⟩
  rw [ea,List.take_succ_eq_append_getElem li,List.map_append];rfl
 ·subst e2
  rw [List.take_of_length_le (by rw [hm.len];exact Nat.le_refl _)] at ea
  subst ea
  refine aa (show dH false (M.map aE) S2=some (.tup (M.map aE),S2) from rfl) ?_
  k_is
  exact q S2 (Sm.refl _)
theorem zq (h:Pot p S) (q:∀ n M S',Dr p S S'->Dw.Mat n M->1<=n->n<=4->Dw.mq n n M->Q (.tup (M.map aE)) S'):Ok (evC aj (k+2) kS [.ref p] S) Q:=by
 refine aG (d:=gR) (ρ:=[some (.ref p),none,none,none,none,none]) rfl rfl ?_
 dsimp only [gR,eF]
 k_is
 refine ⟨rfl,aD h (by decide) (by decide) fun r0 S0 r1 r2 d0=>?_⟩
 k_is
 refine ⟨rfl,aD d0.pot (by decide) (by decide) fun f0 S1 f1 f2 d01=>?_⟩
 k_is
 have d1:=d0.trans d01
 obtain ⟨n,rfl⟩:∃ n:Nat,r0=(n:Int):=⟨r0.toNat,by omega⟩
 obtain ⟨far,at1,hf⟩:∃ e:Int,atI [D.int 3,D.int 12,D.int 40] f0=some (D.int e)/\0 < e/\e<=40:=by
  have:f0=0\/f0=1\/f0=2:=by omega
  rcases this with rfl | rfl | rfl
  ·exact ⟨3,rfl,by decide,by decide⟩
  ·exact ⟨12,rfl,by decide,by decide⟩
  ·exact ⟨40,rfl,by decide,by decide⟩
 refine ⟨_,at1,?_⟩
 k_is
 have e1:((1:Int)+n).toNat=n+1:=by omega
 have l1:lim (1+(n:Int))=true:=hJ (by omega) (by omega)
 refine ⟨l1,?_⟩
 rw [e1]
 refine n5 (by omega) (fun i acc S'=>Dr p S1 S'/\∃ M:List (List Int),M.length=i/\RowsS p S' acc M/\∀ r ∈ M,r.length=n+1/\∀ x ∈ r,1<=x/\x<=99) (fun i acc S2 hi ⟨d2,M,lM,rM,bM⟩=>⟨_,rfl,?_⟩) (fun es S2 ⟨d2,M,lM,rM,bM⟩=>⟨by rw [rM.len];omega,?_⟩) ⟨Dr.refl d1.pot,[],rfl,RowsS.nil,fun r hr=>by simp at hr⟩
 ·k_is
  refine ⟨l1,?_⟩
  rw [e1]
  refine n5 (by omega) (fun j acc S'=>Dr p S2 S'/\∃ r:List Int,acc=r.map D.int/\r.length=j/\∀ x ∈ r,1<=x/\x<=99) (fun j acc S3 hj ⟨d3,r,ea,lr,br⟩=>⟨_,rfl,?_⟩) (fun es S3 ⟨d3,r,ea,lr,br⟩=>⟨by rw [ea,List.length_map];omega,?_⟩) ⟨Dr.refl d2.pot,[],rfl,rfl,fun x hx=>by simp at hx⟩
  ·k_is
   refine ⟨rfl,aD d3.pot hf.1 (by omega) fun x S4 x1 x2 d4=>?_⟩
   k_is
   refine ⟨d3.trans d4,r++[1+x],by rw [ea,List.map_append];rfl,by simp [lr],fun y hy=>?_⟩
   rcases List.mem_append.mp hy with hy | hy
   ·exact br y hy
   ·simp at hy;omega
  ·subst ea
   k_is
   have lt:=d3.pot.lt
   refine ⟨(d2.trans d3).thenSm (Sm.app _ _),M++[r],by simp [lM],((rM.keep d3.kp).keep (Sm.app _ _).kp).snoc (by omega) aI,fun r' hr'=>?_⟩
   rcases List.mem_append.mp hr' with hr' | hr'
   ·exact bM r' hr'
   ·simp at hr';subst hr';exact ⟨lr,br⟩
 ·have lt2:=d2.pot.lt
  have d3:Dr p S (S2++[Ob.lst es]):=(d1.trans d2).thenSm (Sm.app _ _)
  have r3:RowsS p (S2++[Ob.lst es]) es M:=rM.keep (Sm.app _ _).kp
  have a3:(S2++[Ob.lst es])[S2.length]?=some (Ob.lst es):=aI
  have m3:Dw.Mat (n+1) M:=⟨lM,fun r hr=>(bM r hr).1,fun r hr=>(bM r hr).2⟩
  have lS:S.length<=S2.length:=Kp.len (d1.trans d2).kp lt2
  have ne3:S2.length ≠ p:=by omega
  revert a3 r3 d3
  generalize S2++[Ob.lst es]=S3
  generalize S2.length=L at *
  intro d3 r3 a3
  k_is
  refine ⟨l1,?_⟩
  rw [e1]
  refine jD (by omega) (fun c ρ S'=>Dr p S S'/\∃ es M u v,ρ=[some (.ref p),some (.int (1+(n:Int))),some (.int far),some (.ref L),u,v]/\S'[L]?=some (.lst es)/\RowsS p S' es M/\Dw.Mat (n+1) M/\Dw.mq (n+1) c M) (fun c ρ S4 hc ⟨d4,es,M,u,v,er,hL,hr,hm,tr⟩=>?_) (fun ρ S4 ⟨d4,es,M,u,v,er,hL,hr,hm,tr⟩=>?_) ⟨d3,es,M,none,none,rfl,a3,r3,m3,fun _ _ _ _ _ h=>absurd h (Nat.not_lt_zero _)⟩
  ·subst er
   refine ⟨_,rfl,?_⟩
   k_is
   refine ⟨l1,?_⟩
   rw [e1]
   refine jD (by omega) (fun a ρ S'=>Dr p S S'/\∃ es v,ρ=[some (.ref p),some (.int (1+(n:Int))),some (.int far),some (.ref L),some (.int (0+(c:Int))),v]/\S'[L]?=some (.lst es)/\RowsS p S' es (mid M (n+1) c a)) (fun a ρ S5 ha ⟨d5,es,v,er,hL,hr⟩=>?_) (fun ρ S5 ⟨d5,es,v,er,hL,hr⟩=>?_) ⟨d4,es,v,rfl,hL,by rw [zn hm];exact hr⟩
   ·subst er
    refine ⟨_,rfl,?_⟩
    k_is
    refine ⟨l1,?_⟩
    rw [e1]
    have ml:=@CM M (n+1) c a
    have mr:=zo (c:=c) (a:=a) hm
    have z0:∀ x:Nat,((0:Int)+x).toNat=x:=fun x=>by omega
    refine Ii (fun b=>.int (if Dw.mg2 M a c+Dw.mg2 M c b < Dw.mg2 M a b then Dw.mg2 M a c+Dw.mg2 M c b else Dw.mg2 M a b)) (by omega) (fun b hb=>⟨_,rfl,?_⟩) ?_
    ·k_is
     obtain ⟨x1,i1,j1⟩:=RowsS.at (n:=0) hr hL (i:=0+(a:Int)) (j:=0+(b:Int)) (by omega) (by omega) (by rw [z0,z0];exact si ml mr ha hb)
     obtain ⟨x2,i2,j2⟩:=RowsS.at (n:=0) hr hL (i:=0+(a:Int)) (j:=0+(c:Int)) (by omega) (by omega) (by rw [z0,z0];exact si ml mr ha hc)
     obtain ⟨x3,i3,j3⟩:=RowsS.at (n:=0) hr hL (i:=0+(c:Int)) (j:=0+(b:Int)) (by omega) (by omega) (by rw [z0,z0];exact si ml mr hc hb)
     rw [z0,z0,KO ha] at j1 j2
     rw [z0,z0,KN hm hc hb] at j3
     refine aa i1 (aa j1 (aa i2 (aa j2 (aa i3 (aa j3 ?_)))))
     k_is
     exact ⟨rfl,rfl⟩
    ·have ef:((List.range (n+1)).map fun b=>D.int (if Dw.mg2 M a c+Dw.mg2 M c b < Dw.mg2 M a b then Dw.mg2 M a c+Dw.mg2 M c b else Dw.mg2 M a b))=(Dw.aW M (n+1) c a).map D.int:=by unfold Dw.aW;rw [List.map_map];rfl
     rw [ef]
     k_is
     have lt5:=d5.pot.lt
     have hL':=Sm.app S5 [Ob.lst ((Dw.aW M (n+1) c a).map D.int)] _ _ hL
     have lL:L < S5.length:=(List.getElem?_eq_some_iff.mp hL).1
     have le:es.length=n+1:=by rw [hr.len,ml]
     refine ⟨_,t8 hL' (by omega) (by omega),?_⟩
     k_is
     rw [z0]
     have hr':RowsS p (S5++[Ob.lst ((Dw.aW M (n+1) c a).map D.int)]) es (mid M (n+1) c a):=hr.keep (Sm.app _ _).kp
     have hr2:=RowsS.set (i:=a) (a:=S5.length) (r:=Dw.aW M (n+1) c a) hr' hL' (by omega) (by omega) aI (by omega) (CN (n:=0) hr' hL' fun r hh=>by rw [mr r hh];omega)
     rw [CL ha] at hr2
     have kA:Ev.Kp p S ((S5++[Ob.lst ((Dw.aW M (n+1) c a).map D.int)]).set L (.lst (es.set a (.ref S5.length)))):=(d5.kp.trans (Sm.app _ _).kp).setNew lS
     refine ⟨⟨kA,((Dr.sm d5.pot (Sm.app _ _)).pot).setNe ne3⟩,_,_,rfl,?_,hr2⟩
     rw [eO (by rw [List.length_append];omega)]
   ·subst er
    k_is
    rw [CK] at hr
    exact ⟨d5,es,_,_,_,rfl,hL,hr,Dw.wQ hm hc,Dw.wN hm hc tr (Dw.Ae hm hc)⟩
  ·subst er
   have tail:=zp (k:=k) (p:=p) (Q:=Q) (pt:=.ref p) (u:=some (.int (1+(n:Int)))) (v:=some (.int far)) (w:=u) (x:=v) hL hr hm (by omega) fun S' sm=>q (n+1) M S' (d4.thenSm sm) hm (by omega) (by omega) tr
   dsimp only [eF,List.drop] at tail
   exact tail
end Lw
namespace Lw
open PySem Ev Sn L2
variable {p:Nat} {S:Sto} {k:Nat} {Q:D->Sto->Prop} {K:Sky}
theorem qm:∀ {H:List (Int × Int)} {lo x y:Int},Ris lo H->lo < x->(∀ q ∈ H,q.2 < x)->x < y->Ris lo (H++[(x,y)])
 | [],lo,x,y,_,h1,_,h3=>⟨h1,h3,trivial⟩
 | q::H,lo,x,y,h,h1,h2,h3=>by
  rw [Ris] at h
  exact ⟨h.1,h.2.1,qm h.2.2 (h2 q List.mem_cons_self) (fun r hr=>h2 r (List.mem_cons_of_mem _ hr)) h3⟩
theorem oA:∀ {H:List (Int × Int)} {lo:Int} {q:Int × Int},Ris lo H->q ∈ H->lo < q.1/\q.1 < q.2
 | q'::H,lo,q,h,hq=>by
  rw [Ris] at h
  rcases List.mem_cons.mp hq with rfl | hq
  ·exact ⟨h.1,h.2.1⟩
  ·have:=oA h.2.2 hq
   omega
theorem qo:∀ {H:List (Int × Int)} {lo:Int},Ris lo H->∀ (i:Nat) q q',H[i]?=some q->H[i+1]?=some q'->q.2 < q'.1
 | q0::H,lo,h,0,q,q',e1,e2=>by
  rw [Ris] at h
  cases e1
  rw [List.getElem?_cons_succ] at e2
  exact (oA h.2.2 (List.mem_of_getElem? e2)).1
 | q0::H,lo,h,i+1,q,q',e1,e2=>by
  rw [Ris] at h
  rw [List.getElem?_cons_succ] at e1 e2
  exact qo h.2.2 i q q' e1 e2
theorem vM {H:List (Int × Int)} (h:Ris (-1) H) (hb:∀ q ∈ H,q.2<=9999) (hl:H.length<=4):Dw.bA (.tup (H.map Dw.ci))=true:=by
 refine Dw.Good.shuts (b:=9999) ⟨fun q hq=>?_,qo h⟩ (by decide) hl
 have:=oA h hq
 have:=hb q hq
 omega
structure MeOk (r s:Int) (M:List (List Int)) (H:List (Int × Int)):Prop where
 r0:0<=r
 r8:r<=8
 s0:0<=s
 s60:s<=60
 mat:Dw.Mat M.length M
 m1:1<=M.length
 m4:M.length<=4
 tri:Dw.mq M.length M.length M
 ris:Ris (-1) H
 h4:H.length<=4
 hb:∀ q ∈ H,q.2<=999
theorem sj (h:Pot p S) (q:∀ r s M H S',Dr p S S'->MeOk r s M H->Q (.tup [.int r,.int s,.tup (M.map aE),.tup (H.map ae)]) S'):Ok (evC aj (k+3) iB [.ref p] S) Q:=by
 refine aG (d:=eL) (ρ:=[some (.ref p),none,none,none,none]) rfl rfl ?_
 dsimp only [eL,iH]
 have lt:=h.lt
 k_is
 have d0:Dr p S (S++[Ob.lst []]):=Dr.sm h (Sm.app _ _)
 have a0:(S++[Ob.lst []])[List.length S]?=some (Ob.lst (([]:List (Int × Int)).map ae)):=aI
 have nN:List.length S ≠ p:=by omega
 generalize S++[Ob.lst []]=S0 at *
 refine ⟨rfl,aD d0.pot (by decide) (by decide) fun i0 S1 i1 i2 d1=>?_⟩
 k_is
 obtain ⟨fr,at1,hf⟩:∃ e:Int,atI [D.int 1,D.int 5] i0=some (D.int e)/\0 < e/\e<=5:=by
  have:i0=0\/i0=1:=by omega
  rcases this with rfl | rfl
  ·exact ⟨1,rfl,by decide,by decide⟩
  ·exact ⟨5,rfl,by decide,by decide⟩
 refine ⟨_,at1,?_⟩
 refine ⟨rfl,aD d1.pot hf.1 (by omega) fun n0 S2 n1 n2 d2=>?_⟩
 k_is
 obtain ⟨n,rfl⟩:∃ n:Nat,n0=(n:Int):=⟨n0.toNat,by omega⟩
 refine ⟨hJ (by omega) (by omega),?_⟩
 rw [Int.toNat_natCast]
 have d02:=(d0.trans d1).trans d2
 have a2:=(d1.trans d2).kp _ _ nN a0
 refine jD (by omega) (fun i ρ S'=>Dr p S S'/\∃ (H:List (Int × Int)) (b:Int) (u v:Option D),ρ=[some (.ref p),some (.ref (List.length S)),some (.int b),u,v]/\S'[List.length S]?=some (.lst (H.map ae))/\H.length=i/\Ris (-1) H/\(∀ q ∈ H,q.2 < b)/\0<=b/\b<=60 * i) (fun i ρ S3 hi ⟨d3,H,b,u,v,er,hn,hl,hr,hm,b0,b1⟩=>?_) (fun ρ S3 ⟨d3,H,b,u,v,er,hn,hl,hr,hm,b0,b1⟩=>?_) ⟨d02,[],0,none,none,rfl,a2,rfl,trivial,fun q hq=>by simp at hq,by decide,by decide⟩
 ·subst er
  refine ⟨_,rfl,?_⟩
  k_is
  refine ⟨rfl,aD d3.pot (by decide) (by decide) fun x S4 x1 x2 d4=>?_⟩
  k_is
  have hn4:=d4.kp _ _ nN hn
  refine ⟨dP hn4,?_⟩
  refine ⟨rfl,aD d4.pot (by decide) (by decide) fun y S5 y1 y2 d5=>?_⟩
  k_is
  have hn5:=d5.kp _ _ nN hn4
  rw [ly hn5 (by rw [List.length_map];omega)]
  k_is
  have lt5:List.length S < S5.length:=(List.getElem?_eq_some_iff.mp hn5).1
  have f5:(S5.set (List.length S) (Ob.lst (H.map ae++[D.tup [D.int (b+x),D.int (b+x+1+y)]])))[List.length S]?=some (Ob.lst (H.map ae++[D.tup [D.int (b+x),D.int (b+x+1+y)]])):=eO lt5
  refine aa (n6 f5) (aa (show ixS (D.tup [D.int (b+x),D.int (b+x+1+y)]) (.int 1) (S5.set (List.length S) (Ob.lst (H.map ae++[D.tup [D.int (b+x),D.int (b+x+1+y)]])))=some (.int (b+x+1+y),_) from rfl) ?_)
  k_is
  refine ⟨⟨((d3.kp.trans d4.kp).trans d5.kp).setNew (Nat.le_refl _),d5.pot.setNe nN⟩,H++[(b+x,b+x+1+y)],_,_,_,rfl,by rw [f5,List.map_append];rfl,by rw [List.length_append,List.length_singleton];omega,qm hr (by omega) (fun q hq=>by have:=hm q hq;omega) (by omega),fun q hq=>?_,by omega,by omega⟩
  rcases List.mem_append.mp hq with hq | hq
  ·have:=hm q hq;omega
  ·rw [List.mem_singleton.mp hq];show b+x+1+y < b+x+1+y+1;omega
 ·subst er
  k_is
  refine ⟨rfl,aD d3.pot (by decide) (by decide) fun i3 S4 j3 k3 d4=>?_⟩
  k_is
  obtain ⟨r,at3,h3⟩:∃ e:Int,atI [D.int 8,D.int 1,D.int 2,D.int 3,D.int 0] i3=some (D.int e)/\0<=e/\e<=8:=by
   have:i3=0\/i3=1\/i3=2\/i3=3\/i3=4:=by omega
   rcases this with rfl | rfl | rfl | rfl | rfl
   ·exact ⟨8,rfl,by decide,by decide⟩
   ·exact ⟨1,rfl,by decide,by decide⟩
   ·exact ⟨2,rfl,by decide,by decide⟩
   ·exact ⟨3,rfl,by decide,by decide⟩
   ·exact ⟨0,rfl,by decide,by decide⟩
  refine ⟨_,at3,?_⟩
  refine ⟨rfl,aD d4.pot (by decide) (by decide) fun i5 S5 j5 k5 d5=>?_⟩
  k_is
  obtain ⟨s,at5,h5⟩:∃ e:Int,atI [D.int 0,D.int 2,D.int 9,D.int 60] i5=some (D.int e)/\0<=e/\e<=60:=by
   have:i5=0\/i5=1\/i5=2\/i5=3:=by omega
   rcases this with rfl | rfl | rfl | rfl
   ·exact ⟨0,rfl,by decide,by decide⟩
   ·exact ⟨2,rfl,by decide,by decide⟩
   ·exact ⟨9,rfl,by decide,by decide⟩
   ·exact ⟨60,rfl,by decide,by decide⟩
  refine ⟨_,at5,?_⟩
  refine ⟨rfl,zq d5.pot fun m M S6 d6 hM m1 m4 tr=>?_⟩
  have hn6:=((d4.trans d5).trans d6).kp _ _ nN hn
  refine aa (show ag dH (.ref (List.length S)) S6=some (.tup (H.map ae),S6) by simp only [ag,aq,aO hn6,Option.map_some,dH]) ?_
  k_is
  obtain rfl:=hM.len
  exact q r s M H S6 (d3.trans ((d4.trans d5).trans d6)) ⟨h3.1,h3.2,h5.1,h5.2,hM,m1,m4,tr,hr,by omega,fun q hq=>by have:=hm q hq;omega⟩
end Lw
namespace Lw
open PySem Ev Sn L2
variable {p:Nat} {S S':Sto} {k:Nat} {Q:D->Sto->Prop} {K:Sky}
structure Gs (p N hi:Nat) (S:Sto) (es:List D) (G:List (List Int)):Prop where
 pN:p < N
 at_:S[N]?=some (.lst es)
 len:es.length=G.length
 row:∀ (i:Nat) g,G[i]?=some g->∃ a,es[i]?=some (D.ref a)/\N < a/\a < hi/\S[a]?=some (.lst (g.map D.int))
 inj:∀ (i j a:Nat),es[i]?=some (D.ref a)->es[j]?=some (D.ref a)->i=j
section
variable {N hi hi':Nat} {es:List D} {G:List (List Int)}
theorem Gs.keep (h:Gs p N hi S es G) (kp:Ev.Kp p S S'):Gs p N hi S' es G:=by
 have pN:=h.pN
 refine ⟨h.pN,kp _ _ (by omega) h.at_,h.len,fun i g hg=>?_,h.inj⟩
 obtain ⟨a,e,n1,n2,z⟩:=h.row i g hg
 exact ⟨a,e,n1,n2,kp _ _ (by omega) z⟩
theorem Gs.up (h:Gs p N hi S es G) (hh:hi<=hi'):Gs p N hi' S es G:=by
 refine ⟨h.pN,h.at_,h.len,fun i g hg=>?_,h.inj⟩
 obtain ⟨a,e,n1,n2,z⟩:=h.row i g hg
 exact ⟨a,e,n1,by omega,z⟩
theorem Gs.other (h:Gs p N hi S es G) {f:Nat} {o:Ob} (hf:hi<=f) (hN:N < hi):Gs p N hi (S.set f o) es G:=by
 refine ⟨h.pN,by rw [List.getElem?_set_ne (by omega)];exact h.at_,h.len,fun i g hg=>?_,h.inj⟩
 obtain ⟨a,e,n1,n2,z⟩:=h.row i g hg
 exact ⟨a,e,n1,n2,by rw [List.getElem?_set_ne (by omega)];exact z⟩
theorem Gs.snoc (h:Gs p N S.length S es G) {g:List Int}:Gs p N (S.length+1) ((S++[Ob.lst (g.map D.int)]).set N (.lst (es++[D.ref S.length]))) (es++[D.ref S.length]) (G++[g]):=by
 have lN:N < S.length:=(List.getElem?_eq_some_iff.mp h.at_).1
 have old:∀ (i a:Nat),es[i]?=some (D.ref a)->a < S.length:=fun i a e=>by
  have hi:i < G.length:=by rw [<-h.len];exact (List.getElem?_eq_some_iff.mp e).1
  obtain ⟨b,e2,n1,n2,_⟩:=h.row i G[i] (gEG hi)
  rw [e] at e2
  cases e2
  exact n2
 refine ⟨h.pN,by rw [eO (by rw [List.length_append];omega)],by rw [List.length_append,List.length_append,h.len];rfl,fun i g' hg=>?_,fun i j a e1 e2=>?_⟩
 ·by_cases hi:i < G.length
  ·rw [List.getElem?_append_left hi] at hg
   obtain ⟨a,e,n1,n2,z⟩:=h.row i g' hg
   exact ⟨a,by rw [List.getElem?_append_left (by rw [h.len];exact hi)];exact e,n1,by omega,by rw [List.getElem?_set_ne (by omega),List.getElem?_append_left n2];exact z⟩
  ·have hl:=(List.getElem?_eq_some_iff.mp hg).1
   rw [List.length_append,List.length_singleton] at hl
   obtain rfl:i=G.length:=by omega
   rw [List.getElem?_append_right (Nat.le_refl _),Nat.sub_self] at hg
   cases hg
   exact ⟨S.length,by rw [List.getElem?_append_right (by rw [h.len];omega),h.len,Nat.sub_self];rfl,lN,by omega,by rw [List.getElem?_set_ne (by omega),aI]⟩
 ·have key:∀ (i:Nat),(es++[D.ref S.length])[i]?=some (D.ref a)->(i < es.length/\es[i]?=some (D.ref a))\/(i=es.length/\a=S.length):=fun i e=>by
   by_cases hi:i < es.length
   ·rw [List.getElem?_append_left hi] at e;exact .inl ⟨hi,e⟩
   ·have hl:=(List.getElem?_eq_some_iff.mp e).1
    rw [List.length_append,List.length_singleton] at hl
    obtain rfl:i=es.length:=by omega
    rw [List.getElem?_append_right (Nat.le_refl _),Nat.sub_self] at e
    cases e
    exact .inr ⟨rfl,rfl⟩
  rcases key i e1 with ⟨h1,z1⟩ | ⟨h1,z1⟩ <;> rcases key j e2 with ⟨h2,z2⟩ | ⟨h2,z2⟩
  ·exact h.inj i j a z1 z2
  ·have:=old i a z1;omega
  ·have:=old j a z2;omega
  ·omega
theorem Gs.setRow (h:Gs p N hi S es G) {i a:Nat} {g:List Int} (hi':i < G.length) (ea:es[i]?=some (D.ref a)):Gs p N hi (S.set a (.lst (g.map D.int))) es (G.set i g):=by
 obtain ⟨b,eb,n1,n2,zb⟩:=h.row i G[i] (gEG hi')
 rw [ea] at eb
 cases eb
 have la:=(List.getElem?_eq_some_iff.mp zb).1
 refine ⟨h.pN,by rw [List.getElem?_set_ne (by omega)];exact h.at_,by rw [List.length_set];exact h.len,fun j g' hg=>?_,h.inj⟩
 by_cases hj:j=i
 ·subst hj
  rw [List.getElem?_set_self hi'] at hg
  cases hg
  exact ⟨a,ea,n1,n2,eO la⟩
 ·rw [List.getElem?_set_ne (Ne.symm hj)] at hg
  obtain ⟨c,ec,m1,m2,zc⟩:=h.row j g' hg
  have:c ≠ a:=fun z=>hj (by rw [z] at ec;exact h.inj j i a ec ea)
  exact ⟨c,ec,m1,m2,by rw [List.getElem?_set_ne (Ne.symm this)];exact zc⟩
end
noncomputable def GB (n:Nat) (r s:Int) (g:List Int):Prop:=∃ kd jo fi la du we ri:Int,g=[kd,jo,fi,la,du,we,ri]/\0<=kd/\kd < n/\0<=jo/\jo+s<=fi/\fi<=la/\la<=9999/\0<=du/\du<=9999/\0<=we/\we<=99/\0<=ri/\ri<=r
structure SkOk (K:Sky):Prop where
 me:MeOk K.r K.s K.M K.H
 g7:K.G.length<=7
 gb:∀ g ∈ K.G,GB K.M.length K.r K.s g
 nd:K.F.Nodup
 bd:∀ x ∈ K.F,0<=x/\x < K.G.length
 rg:∀ (j:Nat) g,K.G[j]?=some g->g.getD 6 0=0\/(j:Int) ∈ K.F
 ah:∀ q,K.ah=some q->0<=q.1/\q.1 < K.M.length/\0<=q.2/\q.2<=999
theorem SkOk.vd (h:SkOk K):Vd K:=by
 refine ⟨h.me.r0,h.me.r8,h.me.s0,h.me.s60,h.me.m1,h.me.m4,h.me.mat.row,h.me.ris,h.me.h4,fun q e=>⟨(h.ah q e).1,(h.ah q e).2.1⟩,h.g7,fun g hg=>?_⟩
 obtain ⟨kd,jo,fi,la,du,we,ri,rfl,h1,h2,h3,h4,_⟩:=h.gb g hg
 have:=h.me.s0
 refine ⟨rfl,h1,h2,?_⟩
 show 0<=fi
 omega
theorem SkOk.sky (h:SkOk K):Dw.kj (skT K)=true:=by
 have lm:(Dw.dU K.G).length=K.G.length:=by unfold Dw.dU;rw [List.length_map]
 have lM:(Dw.dU K.M).length=K.M.length:=by unfold Dw.dU;rw [List.length_map]
 have em:Dw.bH (.tup [.int K.r,.int K.s,.tup (Dw.dU K.M),.tup (K.H.map Dw.ci)])=true:=by
  rw [Dw.Dg,Dw.wP h.me.mat h.me.m1 h.me.m4 h.me.tri,vM h.me.ris (fun q hq=>by have:=h.me.hb q hq;omega) h.me.h4]
  have:=h.me.r0;have:=h.me.r8;have:=h.me.s0;have:=h.me.s60
  simp only [Dw.az,Bool.and_true,bAE,decide_eq_true_eq]
  omega
 have ea:Dw.cD K.M.length (ahT K.ah)=true:=by
  cases hq:K.ah with
  | none=>rfl
  | some q=>
   have:=h.ah q hq
   simp only [ahT,Dw.cD,Dw.az,bAE,decide_eq_true_eq]
   omega
 have ha:(Dw.dU K.G).all (Dw.bp K.M.length K.r K.s)=true:=by
  unfold Dw.dU
  rw [List.all_map,List.all_eq_true]
  intro g hg
  obtain ⟨kd,jo,fi,la,du,we,ri,rfl,h1⟩:=h.gb g hg
  have:=h.me.s0
  show Dw.bp K.M.length K.r K.s (.tup ([kd,jo,fi,la,du,we,ri].map Dw.D.int))=true
  simp only [List.map_cons,List.map_nil,Dw.bp,Dw.az,Dw.leD,List.all_cons,List.all_nil,bAE,decide_eq_true_eq,Bool.and_true]
  omega
 have ei:Dw.bv (K.F.map Dw.D.int)=K.F:=by unfold Dw.bv;rw [List.map_map];exact (List.map_congr_left fun x _=>rfl).trans (List.map_id K.F)
 have hu:Dw.cq K.G.length (.tup (K.F.map Dw.D.int))=true:=by
  refine Dw.ji ?_ (by rw [ei];exact h.nd)
  rw [List.all_map,List.all_eq_true]
  intro x hx
  have:=h.bd x hx
  show (decide (0<=x) && decide (x<=(K.G.length:Int) - 1))=true
  rw [bAE,decide_eq_true_eq,decide_eq_true_eq]
  omega
 unfold skT
 rw [Dw.wW,em]
 simp only [Dw.fK,Dw.jN,Dw.nu,lM,ea,Bool.true_and,Dw.bw,ha,lm,decide_eq_true h.g7,Dw.tupOf,Dw.cL,hu,ei]
 unfold Dw.Af
 rw [List.all_map,List.all_eq_true]
 intro i hi
 rw [lm] at hi
 have hi':=List.mem_range.mp hi
 obtain ⟨kd,jo,fi,la,du,we,ri,eg,_⟩:=h.gb K.G[i] (List.getElem_mem hi')
 have er:Dw.fg (Dw.dU K.G) i=ri:=by
  unfold Dw.fg Dw.dU
  rw [List.getElem?_map,gEG hi',eg]
  rfl
 show (decide (Dw.fg (Dw.dU K.G) i=0) || decide (((i:Nat):Int) ∈ K.F))=true
 rw [er,Bool.or_eq_true,decide_eq_true_eq,decide_eq_true_eq]
 have:=h.rg i _ (gEG hi')
 rw [eg] at this
 exact this
end Lw
namespace Lw
open PySem Ev Sn L2
variable {p:Nat} {S S':Sto} {k:Nat} {Q:D->Sto->Prop} {K:Sky}
noncomputable def meL (r s:Int) (M:List (List Int)) (H:List (Int × Int)):D:=.tup [.int r,.int s,.tup (M.map aE),.tup (H.map ae)]
theorem CO {r s:Int} {M G:List (List Int)} {H:List (Int × Int)} {F:List Int} {es:List D} {N Nf hi:Nat} {u4 u5 u6 u7 u8 u9 u10 u11 u13:Option D} (h:Pot p S) (gs:Gs p N hi S es G) (hf:S[Nf]?=some (.lst (F.map D.int))) (nf:Nf ≠ p) (me:MeOk r s M H) (g7:G.length<=7)
  (q:∀ a S',Dr p S S'->(∀ z:Int × Int,a=some z->0<=z.1/\z.1 < M.length/\0<=z.2/\z.2<=999)->Q (skE ⟨r,s,M,H,a,G,F⟩) S') :
  rW (wSs (evC aj (k+3)) (iZ aj) 55 (fX.drop 5)) [some (.ref p),some (.int 7),some (meL r s M H),some (.ref N),u4,u5,u6,u7,u8,u9,u10,u11,some (.ref Nf),u13,none] S (out Q):=by
 dsimp only [fX,List.drop]
 have m1:=me.m1
 have m4:=me.m4
 k_is
 refine aa (show ixS (meL r s M H) (.int 2) S=some (.tup (M.map aE),S) from rfl) ?_
 refine aa (show ag bG (.tup (M.map aE)) S=some (.int M.length,S) by simp only [ag,aq,bG,List.length_map]) ?_
 refine ⟨rfl,aD h (by omega) (by omega) fun x S1 x1 x2 d1=>?_⟩
 refine ⟨rfl,aD d1.pot (by decide) (by decide) fun y S2 y1 y2 d2=>?_⟩
 refine ⟨rfl,aD d2.pot (by decide) (by decide) fun z S3 z1 z2 d3=>?_⟩
 k_is
 have d:=(d1.trans d2).trans d3
 obtain ⟨a,ea,ha⟩:∃ a:Option (Int × Int),atI [D.non,D.tup [D.int x,D.int y]] z=some (ahE a)/\∀ q,a=some q->0<=q.1/\q.1 < M.length/\0<=q.2/\q.2<=999:=by
  have:z=0\/z=1:=by omega
  rcases this with rfl | rfl
  ·exact ⟨none,rfl,fun q e=>by cases e⟩
  ·exact ⟨some (x,y),rfl,fun q e=>by cases e;exact ⟨x1,x2,y1,by omega⟩⟩
 refine ⟨_,ea,?_⟩
 k_is
 have gs3:=gs.keep d.kp
 have hf3:=d.kp _ _ nf hf
 refine ⟨by rw [aO gs3.at_];rfl,?_⟩
 have le:=gs3.len
 refine yw es.length (fun i=>(es[i]?).getD .non) (fun i acc S'=>S'=S3/\acc=(G.take i).map aE) (fun i acc S' hi ⟨e,_⟩=>by subst e;exact yx gs3.at_ _ DE) (by omega) (fun i acc S4 hi ⟨e4,ea'⟩=>?_) (fun es' S4 ⟨e4,ea'⟩=>⟨by rw [ea',List.length_map,List.length_take];omega,?_⟩) ⟨rfl,rfl⟩
 ·subst e4
  have li:i < G.length:=by omega
  obtain ⟨b,eb,_,_,zb⟩:=gs3.row i G[i] (gEG li)
  simp only [eb,Option.getD_some]
  refine ⟨_,rfl,?_⟩
  k_is
  refine aa (show ag dH (.ref b) S4=some (.tup (G[i].map D.int),S4) by simp only [ag,aq,aO zb,Option.map_some,dH]) ?_
  refine ⟨rfl,?_⟩
  rw [ea',List.take_succ_eq_append_getElem li,List.map_append];rfl
 ·subst e4
  rw [List.take_of_length_le (by omega)] at ea'
  subst ea'
  refine aa (show dH false (G.map aE) S4=some (.tup (G.map aE),S4) from rfl) ?_
  refine aa (show ag dH (.ref Nf) S4=some (.tup (F.map D.int),S4) by simp only [ag,aq,aO hf3,Option.map_some,dH]) ?_
  k_is
  exact q a S4 d ha
theorem sr {l:List Int} {j:Nat} (h:j < l.length):(l[j]::l.eraseIdx j).Perm l:=by
 induction l generalizing j with
 | nil=>simp at h
 | cons a l ih=>
  cases j with
  | zero=>exact List.Perm.refl _
  | succ j=>
   rw [List.length_cons] at h
   have:=ih (j:=j) (by omega)
   rw [List.getElem_cons_succ,List.eraseIdx_cons_succ]
   exact (List.Perm.swap _ _ _).trans (this.cons a)
theorem mT:∀ (l:List Int) (j:Nat),(l.map D.int).eraseIdx j=(l.eraseIdx j).map D.int
 | [],_=>rfl
 | a::l,0=>rfl
 | a::l,j+1=>by rw [List.map_cons,List.eraseIdx_cons_succ,List.eraseIdx_cons_succ,List.map_cons,mT l j]
theorem zr {n:Nat} {l:List Int} {j:Nat} (hn:S[n]?=some (.lst (l.map D.int))) (hj:j < l.length):gC (.ref n) [.int (j:Int)] S=some (.int l[j],S.set n (.lst ((l.eraseIdx j).map D.int))):=by
 have hix:ixN (l.map D.int).length (j:Int)=some j:=by
  unfold ixN
  rw [if_pos (by omega),if_pos (by rw [List.length_map];omega),Int.toNat_natCast]
 have hg:(l.map D.int)[j]?=some (.int l[j]):=by rw [List.getElem?_map,gEG hj];rfl
 have he:(l.map D.int).eraseIdx j=(l.eraseIdx j).map D.int:=mT l j
 simp only [gC,chg,hn,hix,hg,Option.map_some,he]
end Lw
namespace Lw
open PySem Ev Sn L2
variable {p:Nat} {S S':Sto} {k:Nat} {Q:D->Sto->Prop} {K:Sky}
theorem lK {n:Nat} {l:List Int} (h:l.Perm ((List.range n).map fun i=>Int.ofNat i)):l.Nodup/\(∀ x ∈ l,0<=x/\x < n)/\l.length=n:=by
 refine ⟨h.nodup_iff.mpr (List.pairwise_map.mpr (List.nodup_range.imp fun h z=>h (Int.ofNat.inj z))),fun x hx=>?_,by rw [h.length_eq,List.length_map,List.length_range]⟩
 obtain ⟨i,hi,rfl⟩:=List.mem_map.mp (h.mem_iff.mp hx)
 have:=List.mem_range.mp hi
 show 0<=(i:Int)/\(i:Int) < n
 omega
structure Fxs (p N Nl Nf:Nat) (S:Sto) (es:List D) (G:List (List Int)) (l F:List Int):Prop where
 gs:Gs p N Nl S es G
 al:S[Nl]?=some (.lst (l.map D.int))
 af:S[Nf]?=some (.lst (F.map D.int))
 nn:Nl < Nf
 pm:(F++l).Perm ((List.range G.length).map fun i=>Int.ofNat i)
 rg:∀ (j:Nat) g,G[j]?=some g->g.getD 6 0=0\/(j:Int) ∈ F
theorem Fxs.keep {N Nl Nf:Nat} {es:List D} {G:List (List Int)} {l F:List Int} (h:Fxs p N Nl Nf S es G l F) (kp:Ev.Kp p S S') (hN:N < Nl):Fxs p N Nl Nf S' es G l F:=by
 have:=h.gs.pN
 have:=h.nn
 exact ⟨h.gs.keep kp,kp _ _ (by omega) h.al,kp _ _ (by omega) h.af,h.nn,h.pm,h.rg⟩
theorem CP {r s:Int} {M G:List (List Int)} {H:List (Int × Int)} {es:List D} {N hi:Nat} {S0:Sto} {u4 u5 u6 u7 u8 u9 u10:Option D} (h:Dr p S0 S) (l0:S0.length<=N) (gs:Gs p N S.length S es G) (me:MeOk r s M H) (g7:G.length<=7) (gb:∀ g ∈ G,GB M.length r s g) (g0:∀ g ∈ G,g.getD 6 0=0) (lo:∀ g ∈ G,g.getD 2 0<=999)
  (q:∀ K S',Dr p S0 S'->SkOk K->(∀ g ∈ K.G,g.getD 2 0<=999)->Q (skE K) S') :
  rW (wSs (evC aj (k+3)) (iZ aj) 57 (fX.drop 3)) [some (.ref p),some (.int 7),some (meL r s M H),some (.ref N),u4,u5,u6,u7,u8,u9,u10,none,none,none,none] S (out Q):=by
 have tail:=fun (u11 u13:Option D) (G':List (List Int)) (es':List D) (F:List Int) (Nf hi:Nat) (S1:Sto) (d:Dr p S0 S1) (gs':Gs p N hi S1 es' G') (hf:S1[Nf]?=some (.lst (F.map D.int))) (nf:Nf ≠ p) (g7':G'.length<=7) (gb':∀ g ∈ G',GB M.length r s g) (lo':∀ g ∈ G',g.getD 2 0<=999) (nd:F.Nodup) (bd:∀ x ∈ F,0<=x/\x < G'.length) (rg:∀ (j:Nat) g,G'[j]?=some g->g.getD 6 0=0\/(j:Int) ∈ F)=>
  CO (k:=k) (Q:=Q) (u4:=u4) (u5:=u5) (u6:=u6) (u7:=u7) (u8:=u8) (u9:=u9) (u10:=u10) (u11:=u11) (u13:=u13) d.pot gs' hf nf me g7' fun a S2 d2 ha=>q _ S2 (d.trans d2) ⟨me,g7',gb',nd,bd,rg,ha⟩ lo'
 dsimp only [fX,List.drop] at tail ⊢
 have pN:=gs.pN
 have le:=gs.len
 have lN:N < S.length:=(List.getElem?_eq_some_iff.mp gs.at_).1
 k_is
 refine aa (cG gs.at_) ?_
 refine ⟨es.length,rfl,by omega,?_⟩
 k_is
 rw [le]
 have al:(S++[Ob.lst ((List.range G.length).map fun j=>D.int (Int.ofNat j))]++[Ob.lst []])[S.length]?=some (.lst (((List.range G.length).map fun j=>Int.ofNat j).map D.int)):=by
  rw [List.getElem?_append_left (by simp),aI,List.map_map];rfl
 have af:(S++[Ob.lst ((List.range G.length).map fun j=>D.int (Int.ofNat j))]++[Ob.lst []])[List.length (S++[Ob.lst ((List.range G.length).map fun j=>D.int (Int.ofNat j))])]?=some (.lst (([]:List Int).map D.int)):=aI
 have sm1:Sm S (S++[Ob.lst ((List.range G.length).map fun j=>D.int (Int.ofNat j))]++[Ob.lst []]):=(Sm.app _ _).trans (Sm.app _ _)
 have nn:S.length < List.length (S++[Ob.lst ((List.range G.length).map fun j=>D.int (Int.ofNat j))]):=by simp
 generalize List.length (S++[Ob.lst ((List.range G.length).map fun j=>D.int (Int.ofNat j))])=Nf at *
 generalize S++[Ob.lst ((List.range G.length).map fun j=>D.int (Int.ofNat j))]++[Ob.lst []]=S1 at *
 have d1:Dr p S0 S1:=h.thenSm sm1
 have fx1:Fxs p N S.length Nf S1 es G ((List.range G.length).map fun j=>Int.ofNat j) []:=⟨gs.keep sm1.kp,al,af,nn,List.Perm.refl _,fun j g e=>.inl (g0 g (List.mem_of_getElem? e))⟩
 have sl:S0.length<=S.length:=by omega
 generalize S.length=Nl at *
 refine aa (cG (sm1 _ _ gs.at_)) ?_
 k_is
 rw [le]
 refine ⟨rfl,aD d1.pot (by omega) (by omega) fun t S2 t1 t2 d2=>?_⟩
 refine ⟨rfl,aD d2.pot (by decide) (by decide) fun z S3 z1 z2 d3=>?_⟩
 k_is
 obtain ⟨c,ec,hc⟩:∃ c:Nat,atI [D.int 0,D.int t] z=some (D.int c)/\c<=G.length:=by
  have:z=0\/z=1:=by omega
  rcases this with rfl | rfl
  ·exact ⟨0,rfl,Nat.zero_le _⟩
  ·obtain ⟨m,rfl⟩:∃ m:Nat,t=(m:Int):=⟨t.toNat,by omega⟩
   exact ⟨m,rfl,by omega⟩
 refine ⟨_,ec,?_⟩
 k_is
 refine ⟨hJ (by omega) (by omega),?_⟩
 rw [Int.toNat_natCast]
 refine jD (by omega) (fun i ρ S'=>Dr p S0 S'/\∃ G' l F u13,ρ=[some (.ref p),some (.int 7),some (meL r s M H),some (.ref N),u4,u5,u6,u7,u8,u9,u10,some (.ref Nl),some (.ref Nf),u13,none]/\Fxs p N Nl Nf S' es G' l F/\F.length=i/\G'.length=G.length/\(∀ g ∈ G',GB M.length r s g)/\∀ g ∈ G',g.getD 2 0<=999) (fun i ρ S4 hi ⟨d4,G',l,F,u13,er,fx,lF,lG,gb',lo'⟩=>?_) (fun ρ S4 ⟨d4,G',l,F,u13,er,fx,lF,lG,gb',lo'⟩=>?_) ⟨(d1.trans d2).trans d3,G,_,[],none,rfl,fx1.keep (d2.trans d3).kp lN,rfl,rfl,gb,lo⟩
 ·subst er
  refine ⟨_,rfl,?_⟩
  k_is
  have pl:F.length+l.length=G'.length:=by have:=fx.pm.length_eq;rw [List.length_append,List.length_map,List.length_range] at this;exact this
  refine ⟨dP fx.af,?_⟩
  refine ⟨dP fx.al,?_⟩
  refine aa (cG fx.al) ?_
  rw [List.length_map]
  refine ⟨rfl,aD d4.pot (by omega) (by omega) fun j0 S5 j1 j2 d5=>?_⟩
  obtain ⟨j,rfl⟩:∃ j:Nat,j0=(j:Int):=⟨j0.toNat,by omega⟩
  have hj:j < l.length:=by omega
  have fx5:=fx.keep d5.kp lN
  refine aa (zr fx5.al hj) ?_
  have nnf:=fx5.nn
  have lt5:Nl < S5.length:=(List.getElem?_eq_some_iff.mp fx5.al).1
  have ltf:Nf < S5.length:=(List.getElem?_eq_some_iff.mp fx5.af).1
  have af6:(S5.set Nl (.lst ((l.eraseIdx j).map D.int)))[Nf]?=some (.lst (F.map D.int)):=by rw [List.getElem?_set_ne (by omega)];exact fx5.af
  rw [ly af6 (by rw [List.length_map];omega)]
  k_is
  have ef:F.map D.int++[D.int l[j]]=(F++[l[j]]).map D.int:=by rw [List.map_append];rfl
  rw [ef]
  have pm7:((F++[l[j]])++l.eraseIdx j).Perm ((List.range G'.length).map fun i=>Int.ofNat i):=by
   rw [List.append_assoc]
   exact ((sr hj).append_left F).trans fx.pm
  have fx7:Fxs p N Nl Nf ((S5.set Nl (.lst ((l.eraseIdx j).map D.int))).set Nf (.lst ((F++[l[j]]).map D.int))) es G' (l.eraseIdx j) (F++[l[j]]):=by
   refine ⟨(fx5.gs.other (Nat.le_refl _) lN).other (by omega) lN,?_,eO (by rw [List.length_set];exact ltf),nnf,pm7,fun j' g e=>?_⟩
   ·rw [List.getElem?_set_ne (by omega),eO lt5]
   ·rcases fx.rg j' g e with z | z
    ·exact .inl z
    ·exact .inr (List.mem_append_left _ z)
  have d7:Dr p S0 ((S5.set Nl (.lst ((l.eraseIdx j).map D.int))).set Nf (.lst ((F++[l[j]]).map D.int))):=⟨((d4.kp.trans d5.kp).setNew (by omega)).setNew (by omega),(d5.pot.setNe (by omega)).setNe (by omega)⟩
  generalize (S5.set Nl (.lst ((l.eraseIdx j).map D.int))).set Nf (.lst ((F++[l[j]]).map D.int))=S7 at *
  have xb:=(lK fx.pm).2.1 l[j] (List.mem_append_right _ (List.getElem_mem hj))
  generalize l[j]=x at *
  refine aa (show ixS (meL r s M H) (.int 0) S7=some (.int r,S7) from rfl) ?_
  k_is
  refine aU (fun h1=>?_) fun h1=>?_
  ·k_is
   have r0:=of_decide_eq_true h1
   have r8:=me.r8
   refine ⟨rfl,aD d7.pot (by decide) (by decide) fun y S8 y1 y2 d8=>?_⟩
   k_is
   have fx8:=fx7.keep d8.kp lN
   refine aU (fun h2=>?_) fun h2=>?_
   ·k_is
    refine aa (show ixS (meL r s M H) (.int 0) S8=some (.int r,S8) from rfl) ?_
    refine ⟨rfl,aD d8.pot r0 (by omega) fun w S9 w1 w2 d9=>?_⟩
    k_is
    have fx9:=fx8.keep d9.kp lN
    refine aa (n6 (ds:=F.map D.int) (e:=.int x) (by rw [fx9.af,List.map_append];rfl)) ?_
    have hx:x.toNat < G'.length:=by omega
    obtain ⟨a,ea,n1,n2,za⟩:=fx9.gs.row x.toNat G'[x.toNat] (gEG hx)
    refine aa (fH fx9.gs.at_ xb.1 ea) ?_
    k_is
    obtain ⟨kd,jo,fi,la,du,we,ri,eg,hb⟩:=gb' G'[x.toNat] (List.getElem_mem hx)
    rw [eg] at za
    refine ⟨_,t8 (i:=6) za (by decide) (by show 6 < 7;decide),?_⟩
    k_is
    have es9:(([kd,jo,fi,la,du,we,ri]:List Int).map D.int).set (6:Int).toNat (.int (1+w))=([kd,jo,fi,la,du,we,1+w]:List Int).map D.int:=rfl
    rw [es9]
    refine ⟨⟨((d7.kp.trans d8.kp).trans d9.kp).setNew (by omega),d9.pot.setNe (by omega)⟩,G'.set x.toNat [kd,jo,fi,la,du,we,1+w],_,_,_,rfl,⟨fx9.gs.setRow hx ea,?_,?_,nnf,by rw [List.length_set];exact fx9.pm,fun j' g e=>?_⟩,by rw [List.length_append,List.length_singleton];omega,by rw [List.length_set];exact lG,fun g hg=>?_,fun g hg=>?_⟩
    ·rw [List.getElem?_set_ne (by omega)];exact fx9.al
    ·rw [List.getElem?_set_ne (by omega)];exact fx9.af
    ·by_cases hjj:j'=x.toNat
     ·subst hjj
      right
      have:((x.toNat:Nat):Int)=x:=by omega
      rw [this]
      exact List.mem_append_right _ (List.mem_singleton.mpr rfl)
     ·rw [List.getElem?_set_ne (Ne.symm hjj)] at e
      exact fx9.rg j' g e
    ·rcases List.mem_or_eq_of_mem_set hg with hg | rfl
     ·exact gb' g hg
     ·exact ⟨kd,jo,fi,la,du,we,1+w,rfl,by omega⟩
    ·rcases List.mem_or_eq_of_mem_set hg with hg | rfl
     ·exact lo' g hg
     ·have:=lo' G'[x.toNat] (List.getElem_mem hx)
      rw [eg] at this
      exact this
   ·k_is
    exact ⟨d7.trans d8,G',_,_,_,rfl,fx8,by rw [List.length_append,List.length_singleton];omega,lG,gb',lo'⟩
  ·k_is
   exact ⟨d7,G',_,_,_,rfl,fx7,by rw [List.length_append,List.length_singleton];omega,lG,gb',lo'⟩
 ·subst er
  k_is
  have pr:=lK fx.pm
  have nnf:=fx.nn
  exact tail _ _ G' es F Nf Nl S4 d4 fx.gs fx.af (by omega) (by omega) gb' lo' (List.Nodup.sublist (List.sublist_append_left F l) pr.1) (fun y hy=>pr.2.1 y (List.mem_append_left _ hy)) fx.rg
end Lw
namespace Lw
open PySem Ev Sn L2
variable {p:Nat} {S S':Sto} {k:Nat} {Q:D->Sto->Prop} {K:Sky}
theorem CQ (h:Pot p S) (q:∀ K S',Dr p S S'->SkOk K->(∀ g ∈ K.G,g.getD 2 0<=999)->Q (skE K) S'):Ok (evC aj (k+4) mK [.ref p,.int 7] S) Q:=by
 refine aG (d:=jb) (ρ:=[some (.ref p),some (.int 7),none,none,none,none,none,none,none,none,none,none,none,none,none]) rfl rfl ?_
 have fix:=@CP p
 dsimp only [jb]
 dsimp only [fX,List.drop] at fix ⊢
 k_is
 refine ⟨rfl,sj h fun r s M H S1 d1 me=>?_⟩
 rw [show (D.tup [.int r,.int s,.tup (M.map aE),.tup (H.map ae)])=meL r s M H from rfl]
 k_is
 have lt1:=d1.pot.lt
 have m1:=me.m1
 have m4:=me.m4
 have s0:=me.s0
 have s60:=me.s60
 have sl:S.length<=S1.length:=Kp.len d1.kp lt1
 have d2:Dr p S (S1++[Ob.lst []]):=d1.thenSm (Sm.app _ _)
 have g2:Gs p S1.length (List.length (S1++[Ob.lst []])) (S1++[Ob.lst []]) [] []:=⟨lt1,aI,rfl,fun i g e=>by simp at e,fun i j a e=>by simp at e⟩
 generalize S1++[Ob.lst []]=S2 at *
 generalize S1.length=N at *
 refine ⟨rfl,aD d2.pot (by decide) (by decide) fun i3 S3 j3 k3 d3=>?_⟩
 k_is
 obtain ⟨wd,at3,h3⟩:∃ e:Int,atI [D.int 5,D.int 20,D.int 60] i3=some (D.int e)/\0 < e/\e<=60:=by
  have:i3=0\/i3=1\/i3=2:=by omega
  rcases this with rfl | rfl | rfl
  ·exact ⟨5,rfl,by decide,by decide⟩
  ·exact ⟨20,rfl,by decide,by decide⟩
  ·exact ⟨60,rfl,by decide,by decide⟩
 refine ⟨_,at3,?_⟩
 refine ⟨rfl,aD d3.pot (by decide) (by decide) fun i4 S4 j4 k4 d4=>?_⟩
 k_is
 obtain ⟨lg,at4,h4⟩:∃ e:Int,atI [D.int 4,D.int 30,D.int 90,D.int 400] i4=some (D.int e)/\0 < e/\e<=400:=by
  have:i4=0\/i4=1\/i4=2\/i4=3:=by omega
  rcases this with rfl | rfl | rfl | rfl
  ·exact ⟨4,rfl,by decide,by decide⟩
  ·exact ⟨30,rfl,by decide,by decide⟩
  ·exact ⟨90,rfl,by decide,by decide⟩
  ·exact ⟨400,rfl,by decide,by decide⟩
 refine ⟨_,at4,?_⟩
 k_is
 refine ⟨rfl,aD d4.pot (by decide) (by decide) fun n0 S5 n1 n2 d5=>?_⟩
 k_is
 obtain ⟨n,rfl⟩:∃ n:Nat,n0=(n:Int):=⟨n0.toNat,by omega⟩
 refine ⟨hJ (by omega) (by omega),?_⟩
 rw [Int.toNat_natCast]
 have d25:=(d3.trans d4).trans d5
 refine jD (by omega) (fun i ρ S'=>Dr p S S'/\∃ es G u6 u7 u8 u9 u10,ρ=[some (.ref p),some (.int 7),some (meL r s M H),some (.ref N),some (.int wd),some (.int lg),u6,u7,u8,u9,u10,none,none,none,none]/\Gs p N S'.length S' es G/\G.length=i/\∀ g ∈ G,GB M.length r s g/\g.getD 6 0=0/\g.getD 2 0<=999) (fun i ρ S6 hi ⟨d6,es,G,u6,u7,u8,u9,u10,er,gs,lG,gb⟩=>?_) (fun ρ S6 ⟨d6,es,G,u6,u7,u8,u9,u10,er,gs,lG,gb⟩=>?_) ⟨d2.trans d25,[],[],none,none,none,none,none,rfl,(g2.keep d25.kp).up (Kp.len d25.kp d25.pot.lt),rfl,fun g hg=>by simp at hg⟩
 ·subst er
  refine ⟨_,rfl,?_⟩
  k_is
  refine ⟨rfl,aD d6.pot h3.1 (by omega) fun jo S7 o1 o2 d7=>?_⟩
  k_is
  refine aa (show ixS (meL r s M H) (.int 1) S7=some (.int s,S7) from rfl) ?_
  k_is
  refine ⟨rfl,aD d7.pot (by decide) (by decide) fun x S8 x1 x2 d8=>?_⟩
  refine ⟨rfl,aD d8.pot (by decide) (by decide) fun z S9 z1 z2 d9=>?_⟩
  k_is
  obtain ⟨e,ate,he⟩:∃ e:Int,atI [D.int 0,D.int x] z=some (D.int e)/\0<=e/\e<=9:=by
   have:z=0\/z=1:=by omega
   rcases this with rfl | rfl
   ·exact ⟨0,rfl,by decide,by decide⟩
   ·exact ⟨x,rfl,by omega,by omega⟩
  refine ⟨_,ate,?_⟩
  k_is
  refine ⟨rfl,aD d9.pot h4.1 (by omega) fun a Sa a1 a2 da=>?_⟩
  k_is
  refine ⟨rfl,aD da.pot h4.1 (by omega) fun b Sb b1 b2 db=>?_⟩
  k_is
  have dAll:=(((d7.trans d8).trans d9).trans da).trans db
  have gsb:=gs.keep dAll.kp
  refine ⟨dP gsb.at_,?_⟩
  refine aa (show ixS (meL r s M H) (.int 2) Sb=some (.tup (M.map aE),Sb) from rfl) ?_
  refine aa (show ag bG (.tup (M.map aE)) Sb=some (.int M.length,Sb) by simp only [ag,aq,bG,List.length_map]) ?_
  refine ⟨rfl,aD db.pot (by omega) (by omega) fun kd Sc c1 c2 dc=>?_⟩
  refine ⟨rfl,aD dc.pot (by decide) (by decide) fun w Sd w1 w2 dd=>?_⟩
  k_is
  obtain ⟨we,atw,hw⟩:∃ e:Int,atI [D.int 0,D.int 1,D.int 7,D.int 99] w=some (D.int e)/\0<=e/\e<=99:=by
   have:w=0\/w=1\/w=2\/w=3:=by omega
   rcases this with rfl | rfl | rfl | rfl
   ·exact ⟨0,rfl,by decide,by decide⟩
   ·exact ⟨1,rfl,by decide,by decide⟩
   ·exact ⟨7,rfl,by decide,by decide⟩
   ·exact ⟨99,rfl,by decide,by decide⟩
  refine ⟨_,atw,?_⟩
  k_is
  have dAll2:=dAll.trans (dc.trans dd)
  have gsd:=(gs.keep dAll2.kp).up (Kp.len dAll2.kp dAll2.pot.lt)
  have atN:=Sm.app Sd [Ob.lst [D.int kd,D.int jo,D.int (jo+s+e),D.int (jo+s+e+a),D.int (jo+b),D.int we,D.int 0]] _ _ gsd.at_
  rw [ly atN (by rw [gsd.len];omega)]
  k_is
  have sn:=gsd.snoc (g:=[kd,jo,jo+s+e,jo+s+e+a,jo+b,we,0])
  have d6d:=d6.trans dAll2
  refine ⟨⟨(d6d.kp.trans (Sm.app _ _).kp).setNew (by omega),((Dr.sm d6d.pot (Sm.app _ _)).pot).setNe (by have:=gsd.pN;omega)⟩,es++[D.ref (List.length Sd)],G++[[kd,jo,jo+s+e,jo+s+e+a,jo+b,we,0]],_,_,_,_,_,rfl,?_,by rw [List.length_append,List.length_singleton];omega,fun g hg=>?_⟩
  ·rw [List.length_set,List.length_append,List.length_singleton]
   exact sn
  ·rcases List.mem_append.mp hg with hg | hg
   ·exact gb g hg
   ·rw [List.mem_singleton.mp hg]
    exact ⟨⟨kd,jo,jo+s+e,jo+s+e+a,jo+b,we,0,rfl,by have:=me.r0;omega⟩,rfl,by show jo+s+e<=999;omega⟩
 ·subst er
  exact fix (hi:=0) d6 (by omega) gs me (by omega) (fun g hg=>(gb g hg).1) (fun g hg=>(gb g hg).2.1) (fun g hg=>(gb g hg).2.2) q
end Lw
namespace Lw
open PySem Ev Sn L2
variable {p:Nat} {S S':Sto} {k:Nat} {Q:D->Sto->Prop} {K:Sky}
theorem mU:∀ (ps:List (Int × Int)),dn (ps.map ae)=some ps
 | []=>rfl
 | q::ps=>by
  rw [List.map_cons]
  simp only [dn,mU ps,ae,kx]
theorem su {α:Type} (d:α) (l:List α):(List.range l.length).map (fun i=>l.getD i d)=l:=by
 apply List.ext_getElem
 ·simp
 ·intro i h1 h2
  simp at h1
  simp [h1]
theorem vN (ps:List (Int × Int)):∃ qs:List (Int × Int),cO ps .non (ps.map ae)=qs.map ae/\qs.Perm ps:=by
 by_cases h:ps.length < 2
 ·exact ⟨ps,by unfold cO;rw [if_pos (by rw [List.length_map];exact h)],List.Perm.refl _⟩
 ·have hn:0 < ps.length:=by omega
  have pm:Pm ps.length (dY (lV ps) (PySem.W.kas_sort ps.length)):=(nD hn).run
  refine ⟨(dY (lV ps) (PySem.W.kas_sort ps.length)).toList.map fun i=>ps.getD i (0,0),?_,?_⟩
  ·unfold cO
   rw [if_neg (by rw [List.length_map];exact h),List.length_map,List.map_map]
   refine List.map_congr_left fun i hi=>?_
   have hi':=(Ev.fk (lt:=lV ps) hn).1 i hi
   simp [hi']
  ·have e:(dY (lV ps) (PySem.W.kas_sort ps.length)).toList.Perm (List.range ps.length):=by
    have:=Array.perm_iff_toList_perm.mp pm
    simpa using this
   have:=e.map fun i=>ps.getD i (0,0)
   rwa [su] at this
theorem Ij {n:Nat}:∀ i S',Sm S S'->nxR 0 n i S'=some (((List.range n)[i]?).map fun (j:Nat)=>D.int (0+(j:Int))):=fun i S' _=>by
 show some (if i < n then some (D.int (0+(i:Int))) else none)=_
 split
 ·rename_i h;rw [List.getElem?_range h];rfl
 ·rename_i h;rw [List.getElem?_eq_none (by rw [List.length_range];omega)];rfl
theorem vO {ps:List (Int × Int)} (h:ps.length < 64):∃ qs:List (Int × Int),cu false (ps.map ae)=some (qs.map ae)/\qs.Perm ps:=by
 obtain ⟨qs,e,pm⟩:=vN ps
 refine ⟨qs,?_,pm⟩
 show (if false=false then rm false (ps.map ae) else none)=_
 rw [if_pos rfl]
 simp only [rm,mU]
 rw [if_pos (by rw [List.length_map];exact h),e]
noncomputable def b8 (K:Sky):List Int:=((List.range K.G.length).filter fun (j:Nat)=>!decide ((j:Int) ∈ K.F)).map fun (j:Nat)=>(j:Int)
theorem Ik (h:SkOk K) {l:List Int} (pm:l.Perm (b8 K)):Ord K (K.F++l):=by
 have mo:∀ x,x ∈ b8 K ↔ (0<=x/\x < K.G.length/\x ∉ K.F):=fun x=>by
  unfold b8
  rw [List.mem_map]
  constructor
  ·rintro ⟨j,hj,rfl⟩
   obtain ⟨h1,h2⟩:=List.mem_filter.mp hj
   have:=List.mem_range.mp h1
   simp at h2
   exact ⟨by omega,by omega,h2⟩
  ·rintro ⟨h0,h1,h2⟩
   refine ⟨x.toNat,List.mem_filter.mpr ⟨List.mem_range.mpr (by omega),?_⟩,by omega⟩
   have:((x.toNat:Nat):Int)=x:=by omega
   rw [this]
   simp [h2]
 have no:(b8 K).Nodup:=by
  unfold b8
  refine List.pairwise_map.mpr ((List.nodup_range.sublist List.filter_sublist).imp fun h z=>h (by omega))
 have nl:l.Nodup:=pm.nodup_iff.mpr no
 have nd:(K.F++l).Nodup:=List.nodup_append.mpr ⟨h.nd,nl,fun a ha b hb e=>by
  have:=((mo b).mp (pm.mem_iff.mp hb)).2.2
  exact this (e ▸ ha)⟩
 have bd:∀ g ∈ K.F++l,0<=g/\g < K.G.length:=fun g hg=>by
  rcases List.mem_append.mp hg with hg | hg
  ·exact h.bd g hg
  ·have:=(mo g).mp (pm.mem_iff.mp hg)
   exact ⟨this.1,this.2.1⟩
 refine ⟨nd,bd,?_,l,rfl⟩
 have nr:((List.range K.G.length).map fun i=>Int.ofNat i).Nodup:=List.pairwise_map.mpr (List.nodup_range.imp fun h z=>h (Int.ofNat.inj z))
 have pr:(K.F++l).Perm ((List.range K.G.length).map fun i=>Int.ofNat i):=(List.perm_ext_iff_of_nodup nd nr).mpr fun x=>by
  constructor
  ·intro hx
   have:=bd x hx
   exact List.mem_map.mpr ⟨x.toNat,List.mem_range.mpr (by omega),by show ((x.toNat:Nat):Int)=x;omega⟩
  ·intro hx
   obtain ⟨j,hj,rfl⟩:=List.mem_map.mp hx
   have hj:=List.mem_range.mp hj
   by_cases hf:Int.ofNat j ∈ K.F
   ·exact List.mem_append_left _ hf
   ·refine List.mem_append_right _ (pm.mem_iff.mpr ((mo _).mpr ⟨?_,?_,hf⟩))
    ·show 0<=(j:Int);omega
    ·show (j:Int) < K.G.length;omega
 have:=pr.length_eq
 rw [List.length_map,List.length_range] at this
 exact this
end Lw
namespace Lw
open PySem Ev L2
variable {p:Nat} {S:Sto} {k:Nat} {Q:D->Sto->Prop}
mutual
noncomputable def cy:Dw.D->Bool
 | .non=>true
 | .int i=>decide (i.natAbs < 10 ^ 20)
 | .tup ts=>eR ts
 | _=>false
noncomputable def eR:List Dw.D->Bool
 | []=>true
 | t::ts=>cy t && eR ts
end
theorem lO:∀ {ts:List Dw.D},(∀ t ∈ ts,cy t=true)->eR ts=true
 | [],_=>by rw [eR]
 | t::ts,h=>by rw [eR,h t List.mem_cons_self,lO fun t' ht'=>h t' (List.mem_cons_of_mem _ ht')];rfl
theorem jG:∀ {ts:List Dw.D},eR ts=true->∀ t ∈ ts,cy t=true
 | t::ts,h,t',ht=>by
  rw [eR,bAE] at h
  rcases List.mem_cons.mp ht with rfl | ht
  ·exact h.1
  ·exact jG h.2 t' ht
structure PF (n:Nat) (t:Dw.D):Prop where
 pl:cy t=true
 de:Dw.dep t<=n
 wi:Dw.wid t<=8
theorem PF.tup {n:Nat} {ts:List Dw.D} (hl:ts.length<=8) (h:∀ t ∈ ts,PF n t):PF (n+1) (.tup ts):=by
 have f:=Dw.Fit.tup (n:=n) (m:=8) hl fun t ht=>⟨(h t ht).de,(h t ht).wi⟩
 exact ⟨by rw [cy];exact lO fun t ht=>(h t ht).pl,f.de,f.wi⟩
theorem Il {n:Nat} {i:Int} (h:i.natAbs < 10 ^ 20):PF n (.int i):=⟨by rw [cy];exact decide_eq_true h,by simp [Dw.dep],by simp [Dw.wid]⟩
noncomputable def cB:Nat->Nat
 | 0=>60
 | n+1=>8 * (cB n+2)+4
theorem zt {c:Nat}:∀ {ts:List Dw.D},(∀ t ∈ ts,Dw.sz t<=c)->Dw.szL ts<=ts.length * (c+2)
 | [],_=>by simp [Dw.szL]
 | t::ts,h=>by
  have h1:=h t List.mem_cons_self
  have h2:=zt (ts:=ts) fun t' ht'=>h t' (List.mem_cons_of_mem _ ht')
  rw [Dw.szL,List.length_cons,Nat.succ_mul]
  omega
theorem zu:∀ n,60<=cB n
 | 0=>Nat.le_refl _
 | n+1=>by have:=zu n;rw [cB];omega
theorem DF:∀ (n:Nat) {t:Dw.D},PF n t->Dw.Bd (10 ^ 31) (cB n) t
 | n,.non,h=>⟨by simp only [Dw.bnd],by rw [Dw.sz];have:=zu n;omega⟩
 | n,.int i,h=>⟨by
   have:=h.pl
   rw [cy] at this
   have:=of_decide_eq_true this
   simp only [Dw.bnd]
   omega,by rw [Dw.sz];exact zu n⟩
 | 0,.tup ts,h=>by have:=h.de;rw [Dw.dep] at this;omega
 | n+1,.tup ts,h=>by
  have hpl:=h.pl
  rw [cy] at hpl
  have f:Dw.Fit (n+1) 8 (.tup ts):=⟨h.de,h.wi⟩
  have each:∀ t ∈ ts,Dw.Bd (10 ^ 31) (cB n) t:=fun t ht=>DF n ⟨jG hpl t ht,(f.mem ht).de,(f.mem ht).wi⟩
  have l8:=f.len
  refine Dw.qO (fun t ht=>(each t ht).bn) ?_
  have:=zt (c:=cB n) fun t ht=>(each t ht).sz
  have h2:ts.length * (cB n+2)<=8 * (cB n+2):=Nat.mul_le_mul_right _ l8
  rw [cB]
  omega
 | n,.bl _,h=>by have:=h.pl;simp [cy] at this
 | n,.str _,h=>by have:=h.pl;simp [cy] at this
 | n,.lst _,h=>by have:=h.pl;simp [cy] at this
 | n,.dic _ _,h=>by have:=h.pl;simp [cy] at this
structure Shw (t:Dw.D):Prop where
 sh:Dw.Shn t
 de:Dw.dep t<=50
 wi:Dw.wid t<=1000
theorem zv {n m B s:Nat} {t:Dw.D} (f:Dw.Fit n m t) (b:Dw.Bd B s t) (hn:n<=50) (hm:m<=1000) (hB:B<=10 ^ 50) (hs:s<=16000000):Shw t:=
 ⟨b.shn hB (by rw [sizeLine_eq];omega) (Nat.le_trans f.de (by omega)),Nat.le_trans f.de hn,Nat.le_trans f.wi hm⟩
mutual
theorem t9 {S:Sto}:∀ (n:Nat) {t:Dw.D} {d:D},Dw.dep t < n->TD p S t d->cr n S d=some t
 | n+1,.non,_,_,h=>by rw [h.non];simp only [cr]
 | n+1,.bl _,_,_,h=>by rw [h.bl];simp only [cr]
 | n+1,.int _,_,_,h=>by rw [h.int];simp only [cr]
 | n+1,.str _,_,_,h=>by rw [h.str];simp only [cr]
 | n+1,.tup ts,_,hd,h=>by
  obtain ⟨ds,rfl,q⟩:=h.tup
  rw [Dw.dep] at hd
  simp only [cr,iM n (by omega) q,Option.map_some]
 | n+1,.lst ts,_,hd,h=>by
  rw [TD] at h
  obtain ⟨m,ds,rfl,_,e,q⟩:=h
  rw [Dw.dep] at hd
  simp only [cr,e,iM n (by omega) q,Option.map_some]
 | n+1,.dic ks ts,_,hd,h=>by
  rw [TD] at h
  obtain ⟨m,ds,rfl,_,e,q⟩:=h
  rw [Dw.dep] at hd
  simp only [cr,e,iM n (by omega) q,Option.map_some]
theorem iM {S:Sto}:∀ (n:Nat) {ts:List Dw.D} {ds:List D},Dw.hZ ts < n->TDs p S ts ds->bW (cr n S) ds=some ts
 | n,[],_,_,h=>by rw [h.nil];simp only [bW]
 | n,t::ts,_,hd,h=>by
  obtain ⟨d,r,rfl,a,q⟩:=h.cons
  rw [Dw.hZ] at hd
  simp only [bW,t9 n (by omega) a,iM n (by omega) q]
end
theorem ua {t:Dw.D} {d:D} (h:TD p S t d) (s:Shw t):kC d S=some (.str (Dw.aX t).shown,S):=by
 unfold kC
 rw [t9 100 (by have:=s.de;omega) h]
 dsimp only
 rw [if_pos s.sh]
theorem CT (x y:Str) (S:Sto):ay .ne (.str x) (.str y) S=some (.bl (!(x == y)),S):=by
 simp only [ay,neS]
 have:eqD 60 S (.str x) (.str y)=some (x == y):=rfl
 rw [this];rfl
end Lw
namespace Lw
open PySem Ev Sn L2
variable {p:Nat} {S S':Sto} {k:Nat} {Q:D->Sto->Prop} {K:Sky}
theorem sv:∀ (H:List (Int × Int)) (m:Int),m<=opn H m
 | [],m=>Int.le_refl _
 | q::H,m=>by
  rw [opn]
  refine Int.le_trans ?_ (sv H _)
  split
  ·rename_i h;omega
  ·exact Int.le_refl _
noncomputable def LB (L:List (Int × Int)):Prop:=∀ z ∈ L,0<=z.1/\z.1 < 7/\0<=z.2/\z.2<=9999
theorem DG (h:SkOk K):∀ (os:List Int) (a:Option (Int × Int)) (L R:List (Int × Int)),(∀ g ∈ os,0<=g/\g < K.G.length)->LB L->rn K os a L = .inr R->LB R
 | [],_,L,R,_,hL,e=>by cases e;exact hL
 | g::os,a,L,R,ho,hL,e=>by
  rw [rn] at e
  split at e
  ·cases e
  ·rename_i m hs
   split at e
   ·cases e
   ·refine DG h os _ _ R (fun g' hg'=>ho g' (List.mem_cons_of_mem _ hg')) (fun z hz=>?_) e
    rcases List.mem_append.mp hz with hz | hz
    ·exact hL z hz
    ·rw [List.mem_singleton.mp hz]
     have hg:=ho g List.mem_cons_self
     have g7:=h.g7
     have hi:g.toNat < K.G.length:=by omega
     obtain ⟨kd,jo,fi,la,du,we,ri,eg,hb⟩:=h.gb K.G[g.toNat] (List.getElem_mem hi)
     have e2:gi K.G g 2=fi:=by unfold gi;rw [gEG hi,eg];rfl
     have e3:gi K.G g 3=la:=by unfold gi;rw [gEG hi,eg];rfl
     unfold Sn.step at hs
     split at hs
     ·cases hs
     ·rename_i hc
      cases hs
      rw [Bool.or_eq_true,decide_eq_true_eq,e3] at hc
      have ge:=sv K.H (aQ K a g)
      have f0:gi K.G g 2<=aQ K a g:=by
       unfold aQ
       split
       ·exact Int.le_refl _
       ·split
        ·omega
        ·exact Int.le_refl _
      have s0:=h.me.s0
      show 0<=g/\g < 7/\0<=opn K.H (aQ K a g)/\opn K.H (aQ K a g)<=9999
      rw [e2] at f0
      have hc':¬ la < opn K.H (aQ K a g):=fun z=>hc (.inl z)
      omega
theorem zw {L:List (Int × Int)} (h:LB L) (hl:L.length<=7):PF 2 (.tup (L.map Dw.ci)):=PF.tup (by rw [List.length_map];omega) fun t ht=>by
 obtain ⟨z,hz,rfl⟩:=List.mem_map.mp ht
 have:=h z hz
 refine PF.tup (n:=0) (by simp) fun t ht=>?_
 simp only [List.mem_cons,List.not_mem_nil,or_false] at ht
 rcases ht with rfl | rfl <;> exact Il (by omega)
noncomputable def CU (K:Sky) (os:List Int):Dw.D:=match rn K os K.ah [] with
 | .inl j=>.tup [.str "stuck", .int j]
 | .inr R=>.tup [.str "lands", .lst (R.map Dw.ci)]
theorem ub {x:Str}:Dw.Fit 2 8 (.str x):=⟨by simp [Dw.dep],by simp [Dw.wid]⟩
theorem uc (h:SkOk K) {os:List Int} (ho:Ord K os):Shw (CU K os):=by
 have g7:=h.g7
 have ln:=ho.ln
 unfold CU
 cases hr:rn K os K.ah [] with
 | inl j=>
  have lj:=fk os _ _ j hr
  rw [List.length_nil,Nat.zero_add] at lj
  have f:Dw.Fit 3 8 (.tup [.str "stuck", .int (j:Int)]):=Dw.Fit.tup (n:=2) (by simp) fun t ht=>by
   simp only [List.mem_cons,List.not_mem_nil,or_false] at ht
   rcases ht with rfl | rfl
   ·exact ub
   ·exact ⟨by simp [Dw.dep],by simp [Dw.wid]⟩
  refine zv f (B:=10 ^ 31) (s:=1000) (Dw.qO (fun t ht=>?_) ?_) (by decide) (by decide) (by decide) (by decide)
  ·simp only [List.mem_cons,List.not_mem_nil,or_false] at ht
   rcases ht with rfl | rfl
   ·simp only [Dw.bnd]
   ·simp only [Dw.bnd];omega
  ·simp only [Dw.szL,Dw.sz]
   have:(reprText ("stuck" : Str)).length<=100:=by decide +kernel
   omega
 | inr R=>
  have lr:=ow os _ _ R hr
  rw [List.length_nil,Nat.zero_add] at lr
  have bd:=DG h os _ [] R ho.bd (fun z hz=>by simp at hz) hr
  have pf:=zw bd (by omega)
  have b2:=Dw.EA (DF 2 pf)
  have f:Dw.Fit 3 8 (.tup [.str "lands", .lst (R.map Dw.ci)]):=Dw.Fit.tup (n:=2) (by simp) fun t ht=>by
   simp only [List.mem_cons,List.not_mem_nil,or_false] at ht
   rcases ht with rfl | rfl
   ·exact ub
   ·exact Dw.Fit.lst ⟨pf.de,pf.wi⟩
  refine zv f (B:=10 ^ 31) (s:=cB 2+1000) (Dw.qO (fun t ht=>?_) ?_) (by decide) (by decide) (by decide) (by decide)
  ·simp only [List.mem_cons,List.not_mem_nil,or_false] at ht
   rcases ht with rfl | rfl
   ·simp only [Dw.bnd]
   ·exact b2.bn
  ·have e1:(reprText ("lands" : Str)).length<=100:=by decide +kernel
   have e2:=b2.sz
   rw [Dw.szL,Dw.szL,Dw.szL]
   have e3:Dw.sz (.str "lands")=(reprText ("lands" : Str)).length:=by simp only [Dw.sz]
   omega
theorem zx {os:List Int} {b:Nat} {d:D} (h:Res K os b d S) (hb:p < b):TD p S (CU K os) d:=by
 unfold Res at h
 unfold CU
 cases hr:rn K os K.ah [] with
 | inl j=>rw [hr] at h;rw [h];exact cx (aH yq (aH fF ce))
 | inr R=>
  rw [hr] at h
  obtain ⟨n,rfl,hn,hn'⟩:=h
  exact cx (aH yq (aH (Ga (by omega) hn (lx R)) ce))
end Lw
namespace Lw
open PySem Ev Sn L2
variable {p:Nat} {S S':Sto} {k:Nat} {Q:D->Sto->Prop} {K:Sky}
noncomputable def upd (K:Sky) (g:Int) (a:Nat) (v:Int):Sky:={ K with G:=K.G.set g.toNat (((K.G[g.toNat]?).getD []).set a v) }
theorem KP {α:Type} {E:α->D} {l:List α} {j:Nat} {x:α} (hj:j < l.length):cC (l.map E) none (some (j:Int))++[E x]++cC (l.map E) (some ((j:Int)+1)) none=(l.set j x).map E:=by
 rw [ib _ _ (by rw [List.length_map];omega)]
 have e2:cC (l.map E) (some ((j:Int)+1)) none=(l.map E).drop (j+1):=by
  have:=ql (ds:=l.map E) (i:=(j:Int)+1) (by omega)
  rw [show ((j:Int)+1).toNat=j+1 by omega] at this
  exact this
 rw [e2,<-List.map_take,<-List.map_drop]
 have:l.set j x=l.take j++[x]++l.drop (j+1):=by
  rw [List.set_eq_take_append_cons_drop,if_pos hj,List.append_assoc];rfl
 rw [this,List.map_append,List.map_append];rfl
theorem oB (h:SkOk K) {g:Int} {a:Nat} {v:Int} (g0:0<=g) (g1:g < K.G.length) (ha:a < 7) (q:Q (skE (upd K g a v)) S):Ok (evC aj (k+1) eC [skE K,.int g,.int a,.int v] S) Q:=by
 refine aG (d:=g5) (ρ:=[some (skE K),some (.int g),some (.int a),some (.int v),none,none]) rfl rfl ?_
 dsimp only [g5,ls]
 have g7:=h.g7
 obtain ⟨j,rfl⟩:∃ j:Nat,g=(j:Int):=⟨g.toNat,by omega⟩
 have hj:j < K.G.length:=by omega
 have hr:K.G[j]?=some K.G[j]:=gEG hj
 obtain ⟨kd,jo,fi,la,du,we,ri,eg,_⟩:=h.gb K.G[j] (List.getElem_mem hj)
 have l7:K.G[j].length=7:=by rw [eg];rfl
 have cl:∀ {ds:List D} {lo hi:Option Int},(cC ds lo hi).length<=ds.length:=fun {ds lo hi}=>by
  unfold cC
  rw [List.length_take,List.length_drop]
  omega
 k_is
 refine aa sk2 (aa (dQ (by omega) (by rw [Int.toNat_natCast];exact hr)) ?_)
 rw [show aE K.G[j] = .tup (K.G[j].map D.int) from rfl]
 k_is
 have c1:=@cl (K.G[j].map D.int) none (some (a:Int))
 have c2:=@cl (K.G[j].map D.int) (some ((a:Int)+1)) none
 rw [List.length_map] at c1 c2
 refine ⟨by rw [List.length_singleton];omega,by rw [List.length_append,List.length_singleton];omega,?_⟩
 have ec:=KP (E:=D.int) (l:=K.G[j]) (j:=a) (x:=v) (by omega)
 rw [ec]
 k_is
 refine aa sk0 (aa sk1 (aa sk2 ?_))
 k_is
 have c3:=@cl (K.G.map aE) none (some (j:Int))
 have c4:=@cl (K.G.map aE) (some ((j:Int)+1)) none
 rw [List.length_map] at c3 c4
 refine ⟨by rw [List.length_singleton];omega,?_⟩
 refine aa sk2 ?_
 k_is
 refine ⟨by rw [List.length_append,List.length_singleton];omega,?_⟩
 refine aa sk3 ?_
 k_is
 have ed:=KP (E:=aE) (l:=K.G) (j:=j) (x:=K.G[j].set a v) hj
 rw [show D.tup ((K.G[j].set a v).map D.int)=aE (K.G[j].set a v) from rfl,ed]
 have eu:upd K (j:Int) a v={ K with G:=K.G.set j (K.G[j].set a v) }:=by
  unfold upd
  rw [Int.toNat_natCast,hr];rfl
 rw [eu] at q
 exact q
end Lw
namespace Lw
open PySem Ev Sn L2
variable {p:Nat} {S S':Sto} {k:Nat} {Q:D->Sto->Prop} {K:Sky}
theorem SkOk.set (h:SkOk K) {j:Nat} {r:List Int} (hj:j < K.G.length) (gb:GB K.M.length K.r K.s r) (hr:r.getD 6 0=0\/(j:Int) ∈ K.F):SkOk { K with G:=K.G.set j r }:=by
 refine ⟨h.me,by show (K.G.set j r).length<=7;rw [List.length_set];exact h.g7,fun g hg=>?_,h.nd,fun x hx=>by show 0<=x/\x < ((K.G.set j r).length:Int);rw [List.length_set];exact h.bd x hx,fun i g e=>?_,h.ah⟩
 ·rcases List.mem_or_eq_of_mem_set hg with hg | rfl
  ·exact h.gb g hg
  ·exact gb
 ·by_cases hi:i=j
  ·subst hi
   have e':(K.G.set i r)[i]?=some g:=e
   rw [List.getElem?_set_self hj] at e'
   cases e'
   exact hr
  ·have e':(K.G.set j r)[i]?=some g:=e
   rw [List.getElem?_set_ne (Ne.symm hi)] at e'
   exact h.rg i g e'
theorem SkOk.rings (h:SkOk K) {r:Int} (r0:0<=r) (r8:r<=8) (hr:∀ g ∈ K.G,g.getD 6 0<=r):SkOk { K with r:=r }:=by
 refine ⟨⟨r0,r8,h.me.s0,h.me.s60,h.me.mat,h.me.m1,h.me.m4,h.me.tri,h.me.ris,h.me.h4,h.me.hb⟩,h.g7,fun g hg=>?_,h.nd,h.bd,h.rg,h.ah⟩
 obtain ⟨kd,jo,fi,la,du,we,ri,rfl,hb⟩:=h.gb g hg
 have:=hr _ hg
 have:ri<=r:=this
 exact ⟨kd,jo,fi,la,du,we,ri,rfl,hb.1,hb.2.1,hb.2.2.1,hb.2.2.2.1,hb.2.2.2.2.1,hb.2.2.2.2.2.1,hb.2.2.2.2.2.2.1,hb.2.2.2.2.2.2.2.1,hb.2.2.2.2.2.2.2.2.1,hb.2.2.2.2.2.2.2.2.2.1,hb.2.2.2.2.2.2.2.2.2.2.1,this⟩
structure Like (K K':Sky):Prop where
 fx:K'.F=K.F
 ln:K'.G.length=K.G.length
 fi:∀ g:Int,0<=g->g < K.G.length->gi K'.G g 2=gi K.G g 2
theorem Like.refl (K:Sky):Like K K:=⟨rfl,rfl,fun _ _ _=>rfl⟩
theorem Like.trans {K1 K2 K3:Sky} (a:Like K1 K2) (b:Like K2 K3):Like K1 K3:=⟨b.fx.trans a.fx,b.ln.trans a.ln,fun g h0 h1=>(b.fi g h0 (by rw [a.ln];exact h1)).trans (a.fi g h0 h1)⟩
theorem qp {j:Nat} {r:List Int} (hj:j < K.G.length) (hr:r.getD 2 0=(K.G[j]).getD 2 0):Like K { K with G:=K.G.set j r }:=by
 refine ⟨rfl,List.length_set,fun g h0 h1=>?_⟩
 show gi (K.G.set j r) g 2=gi K.G g 2
 unfold gi
 by_cases hg:g.toNat=j
 ·rw [hg,List.getElem?_set_self hj,gEG hj];exact hr
 ·rw [List.getElem?_set_ne (Ne.symm hg)]
structure Lnd (K:Sky) (L:List (Int × Int)):Prop where
 pos:0 < L.length
 l7:L.length<=7
 ing:InG K L
 mn:∀ z ∈ L,gi K.G z.1 2<=z.2/\z.2<=9999
 fx:∀ (i:Nat) z,L[i]?=some z->i < K.F.length->z.1 ∈ K.F
theorem Lnd.like {K':Sky} {L:List (Int × Int)} (h:Lnd K L) (l:Like K K'):Lnd K' L:=by
 refine ⟨h.pos,h.l7,fun z hz=>by rw [l.ln];exact h.ing z hz,fun z hz=>?_,fun i z e hi=>by rw [l.fx] at hi ⊢;exact h.fx i z e hi⟩
 have:=h.ing z hz
 rw [l.fi z.1 this.1 this.2]
 exact h.mn z hz
theorem CV (V:Vd K) {L:List (Int × Int)} {n:Nat} (hn:S[n]?=some (.lst (L.map ae))) (hL:InG K L) (hl:L.length<=7) (g1:0 < K.G.length) (q:∀ (m:Int) S',Sm S S'->0<=m->m<=7->Q (.int m) S'):Ok (evC aj (k+2) kY [skE K,.ref n] S) Q:=by
 refine aG (d:=g6) (ρ:=[some (skE K),some (.ref n)]) rfl rfl ?_
 dsimp only [g6,lu]
 k_is
 refine aa sk2 ?_
 k_is
 have g7:=V.g7
 refine bU K.G aE (fun g=>[.int (wts K L (g.getD 1 0))]) (by omega) (fun _ _=>Nat.le_refl _) jd (fun i g S' hg sm=>⟨_,rfl,?_⟩) fun S1 s1=>?_
 ·obtain ⟨l7,_⟩:=V.gl g (List.mem_of_getElem? hg)
  match g,l7 with
  | [a,b,c,d,e,f,h],_=>
   k_is
   refine aa (show ixS (aE [a,b,c,d,e,f,h]) (.int 1) S'=some (.int b,S') from rfl) ?_
   refine ⟨rfl,mS V (sm _ _ hn) hL (by omega) fun N ds S6 s6 hN hd=>?_⟩
   refine aa (cG hN) ?_
   k_is
   rw [hd]
   exact ⟨rfl,s6⟩
 ·rw [bV]
  have ne:(K.G.map fun g=>(wts K L (g.getD 1 0):Int)) ≠ []:=fun z=>by
   have:=congrArg List.length z
   rw [List.length_map] at this
   simp at this
   rw [this] at g1
   simp at g1
  have em:=lH (S:=S1) ne
  rw [List.map_map] at em
  refine aa em ?_
  k_is
  have mm:=jW ne
  obtain ⟨g,_,eg⟩:=List.mem_map.mp mm
  have:wts K L (g.getD 1 0)<=L.length:=List.length_filter_le _ _
  exact q _ S1 s1 (by rw [<-eg];omega) (by rw [<-eg];omega)
theorem LC {xs:List Int} {n:Nat} (h:S[n]?=some (.lst (xs.map D.int))) (ne:xs ≠ []):ag ky (.ref n) S=some (.int (eY xs),S):=by
 have:=lH (S:=S) ne
 simp only [ag,aq,aO h,Option.map_some]
 exact this
end Lw
namespace Lw
open PySem Ev Sn L2
variable {p:Nat} {S S':Sto} {k:Nat} {Q:D->Sto->Prop} {K:Sky}
noncomputable def jM (K K':Sky):Prop:=SkOk K'/\Like K K'
theorem zy {g:Int} {a:Nat} {v:Int} {r:List Int} (hr:K.G[g.toNat]?=some r):upd K g a v={ K with G:=K.G.set g.toNat (r.set a v) }:=by
 unfold upd
 rw [hr];rfl
theorem qq (h:SkOk K) {g v:Int} (g0:0<=g) (g1:g < K.G.length) (v0:gi K.G g 2<=v) (v1:v<=9999):jM K (upd K g 3 v):=by
 have hi:g.toNat < K.G.length:=by omega
 have hr:=gEG hi
 obtain ⟨kd,jo,fi,la,du,we,ri,eg,hb⟩:=h.gb K.G[g.toNat] (List.getElem_mem hi)
 have e2:gi K.G g 2=fi:=by unfold gi;rw [hr,eg];rfl
 rw [e2] at v0
 rw [zy hr,eg]
 have rg:=h.rg g.toNat _ hr
 rw [eg] at rg
 exact ⟨h.set hi ⟨kd,jo,fi,v,du,we,ri,rfl,by omega⟩ rg,qp hi (by rw [eg];rfl)⟩
theorem qr (h:SkOk K) {g v:Int} (g0:0<=g) (g1:g < K.G.length) (v0:0<=v) (v1:v<=K.r) (hf:g ∈ K.F):jM K (upd K g 6 v):=by
 have hi:g.toNat < K.G.length:=by omega
 have hr:=gEG hi
 obtain ⟨kd,jo,fi,la,du,we,ri,eg,hb⟩:=h.gb K.G[g.toNat] (List.getElem_mem hi)
 rw [zy hr,eg]
 refine ⟨h.set hi ⟨kd,jo,fi,la,du,we,v,rfl,by omega⟩ (.inr ?_),qp hi (by rw [eg];rfl)⟩
 rw [show ((g.toNat:Nat):Int)=g by omega]
 exact hf
theorem CW {L:List (Int × Int)} {g m:Int}:0<=lC K L g m:=by
 unfold lC
 cases hk:(eX K L g m).map fun t=>1+(wts K L t:Int) with
 | nil=>exact Int.le_refl _
 | cons a l=>
  have:=jW (ns:=a::l) (by simp)
  rw [<-hk] at this
  obtain ⟨t,_,e⟩:=List.mem_map.mp this
  show 0<=eY (a::l)
  rw [<-hk,<-e]
  omega
theorem mV (h:Pot p S) (sk:SkOk K) {L:List (Int × Int)} {n:Nat} {way:Int} (hn:S[n]?=some (.lst (L.map ae))) (np:n ≠ p) (ld:Lnd K L) (g1:0 < K.G.length)
  (q:∀ N (Ks:List Sky) S',Dr p S S'->S'[N]?=some (.lst (Ks.map skE))->N ≠ p->(∀ K' ∈ Ks,jM K K')->Ks.length<=2->Q (.ref N) S'):Ok (evC aj (k+4) eD [.ref p,skE K,.ref n,.int way] S) Q:=by
 refine aG (d:=eM) (ρ:=[some (.ref p),some (skE K),some (.ref n),some (.int way),none,none,none,none,none,none]) rfl rfl ?_
 dsimp only [eM,iI]
 have V:=sk.vd
 have pos:=ld.pos
 have l7:=ld.l7
 have g7:=sk.g7
 have r8:=sk.me.r8
 have r0:=sk.me.r0
 k_is
 refine aa (cG hn) ?_
 rw [List.length_map]
 refine ⟨rfl,aD h (by omega) (by omega) fun j0 S1 j1 j2 d1=>?_⟩
 k_is
 obtain ⟨j,rfl⟩:∃ j:Nat,j0=(j:Int):=⟨j0.toNat,by omega⟩
 have hj:j < L.length:=by omega
 have hn1:=d1.kp _ _ np hn
 have hz:L[j]?=some L[j]:=gEG hj
 have hm:=List.getElem_mem hj
 have fx:=fun hi=>ld.fx j _ hz hi
 generalize L[j]=z at *
 obtain ⟨z0,z1⟩:=ld.ing z hm
 obtain ⟨m0,m1⟩:=ld.mn z hm
 obtain ⟨a,b,c,d,e,f,hh,eg,e0,e1,e2,e3,e6,k0,k1,c0⟩:=gl7 V z0 z1
 refine aa (fH hn1 (by omega) (show (L.map ae)[((j:Nat):Int).toNat]?=some (ae z) by rw [Int.toNat_natCast,List.getElem?_map,hz];rfl)) ?_
 rw [show ae z = .tup [.int z.1,.int z.2] from rfl]
 k_is
 refine aU (fun _=>?_) fun _=>?_
 ·k_is
  refine aa sk2 (aa (dQ z0 eg) (aa (show ixS (aE [a,b,c,d,e,f,hh]) (.int 2) S1=some (.int c,S1) from rfl) ?_))
  k_is
  have lt:=d1.pot.lt
  refine ⟨rfl,oB (a:=3) sk z0 z1 (by decide) ?_⟩
  refine ⟨rfl,oB (a:=3) sk z0 z1 (by decide) ?_⟩
  k_is
  refine q _ [upd K z.1 3 z.2,upd K z.1 3 (if z.2 - 1 > c then z.2 - 1 else c)] _ (d1.thenSm (Sm.app _ _)) aI (by omega) (fun K' hK=>?_) (by simp)
  simp only [List.mem_cons,List.not_mem_nil,or_false] at hK
  rcases hK with rfl | rfl
  ·exact qq sk z0 z1 m0 m1
  ·refine qq sk z0 z1 ?_ ?_
   ·rw [e2];split <;> omega
   ·rw [e2] at m0;split <;> omega
 ·k_is
  refine aU (fun _=>?_) fun _=>?_
  ·k_is
   refine ⟨rfl,CV (k:=k+1) V hn1 ld.ing l7 g1 fun mo S2 s2 o0 o7=>?_⟩
   k_is
   refine aa sk2 ?_
   k_is
   refine bU K.G aE (fun g=>[.int (g.getD 6 0)]) (by omega) (fun _ _=>Nat.le_refl _) jd (fun i g S' hg sm=>⟨_,rfl,?_⟩) fun S3 s3=>?_
   ·obtain ⟨l7,_⟩:=V.gl g (List.mem_of_getElem? hg)
    match g,l7 with
    | [a,b,c,d,e,f,h],_=>
     k_is
     exact aa (show ixS (aE [a,b,c,d,e,f,h]) (.int 6) S'=some (.int h,S') from rfl) ⟨rfl,Sm.refl _⟩
   ·rw [bV]
    k_is
    have s4:Sm S3 (S3++[Ob.lst (K.G.map fun g=>D.int (g.getD 6 0))]):=Sm.app _ _
    have a4:(S3++[Ob.lst (K.G.map fun g=>D.int (g.getD 6 0))])[List.length S3]?=some (Ob.lst ((K.G.map fun g=>g.getD 6 0).map D.int)):=by rw [aI,List.map_map];rfl
    generalize List.length S3=N4 at *
    generalize S3++[Ob.lst (K.G.map fun g=>D.int (g.getD 6 0))]=S4 at *
    have d4:Dr p S S4:=d1.thenSm ((s2.trans s3).trans s4)
    obtain ⟨c',hc',c2⟩:∃ c':Nat,xv (.bl (decide (0 < mo))) S4=some (.int c',S4)/\(c'=0\/(c'=1/\0 < mo)):=by
     cases hd:decide (0 < mo) with
     | true=>exact ⟨1,rfl,.inr ⟨rfl,of_decide_eq_true hd⟩⟩
     | false=>exact ⟨0,rfl,.inl rfl⟩
    refine aa hc' ?_
    k_is
    refine ⟨hJ (by omega) (by omega),?_⟩
    rw [show ((1:Int)+(c':Int)).toNat=1+c' by omega]
    refine n5 (by omega) (fun i acc S'=>Sm S4 S'/\∃ Ks:List Sky,acc=Ks.map skE/\Ks.length=i/\∀ K' ∈ Ks,jM K K') (fun i acc S5 hi ⟨s5,Ks,ea,lk,tk⟩=>⟨_,rfl,?_⟩) (fun es S5 ⟨s5,Ks,ea,lk,tk⟩=>⟨by rw [ea,List.length_map];omega,?_⟩) ⟨Sm.refl _,[],rfl,rfl,fun _ hk=>by simp at hk⟩
    ·k_is
     have s6:Sm S5 (S5++[Ob.lst [D.int (mo - (0+(i:Int)))]]):=Sm.app _ _
     refine aa (ot (xs:=[D.int (mo - (0+(i:Int)))]) aI (s6 _ _ (s5 _ _ a4)) (by rw [List.length_map,List.length_map,List.length_singleton];omega)) ?_
     have s7:Sm (S5++[Ob.lst [D.int (mo - (0+(i:Int)))]]) (S5++[Ob.lst [D.int (mo - (0+(i:Int)))]]++[Ob.lst ([D.int (mo - (0+(i:Int)))]++(K.G.map fun g=>g.getD 6 0).map D.int)]):=Sm.app _ _
     have a7:(S5++[Ob.lst [D.int (mo - (0+(i:Int)))]]++[Ob.lst ([D.int (mo - (0+(i:Int)))]++(K.G.map fun g=>g.getD 6 0).map D.int)])[List.length (S5++[Ob.lst [D.int (mo - (0+(i:Int)))]])]?=some (Ob.lst (((mo - (0+(i:Int)))::K.G.map fun g=>g.getD 6 0).map D.int)):=aI
     refine aa (LC a7 (by simp)) ?_
     k_is
     refine aa sk0 ?_
     rw [show meE K = .tup [.int K.r,.int K.s,.tup (K.M.map aE),.tup (K.H.map ae)] from rfl]
     k_is
     rw [show cC [D.int K.r,.int K.s,.tup (K.M.map aE),.tup (K.H.map ae)] (some 1) none=[.int K.s,.tup (K.M.map aE),.tup (K.H.map ae)] from rfl]
     refine ⟨by show 4<=1000;decide,?_⟩
     rw [show skE K = .tup [meE K,ahE K.ah,.tup (K.G.map aE),.tup (K.F.map D.int)] from rfl]
     k_is
     rw [show cC [meE K,ahE K.ah,.tup (K.G.map aE),.tup (K.F.map D.int)] (some 1) none=[ahE K.ah,.tup (K.G.map aE),.tup (K.F.map D.int)] from rfl]
     refine ⟨by show 4<=1000;decide,?_⟩
     have tm:=jW (ns:=(mo - (0+(i:Int)))::K.G.map fun g=>g.getD 6 0) (by simp)
     have rb:∀ g ∈ K.G,0<=g.getD 6 0/\g.getD 6 0<=8:=fun g hg=>by
      obtain ⟨kd,jo,fi,la,du,we,ri,rfl,hb⟩:=sk.gb g hg
      show 0<=ri/\ri<=8
      omega
     have t0:0<=eY ((mo - (0+(i:Int)))::K.G.map fun g=>g.getD 6 0)/\eY ((mo - (0+(i:Int)))::K.G.map fun g=>g.getD 6 0)<=8:=by
      have hge:=rZ (ns:=(mo - (0+(i:Int)))::K.G.map fun g=>g.getD 6 0) List.mem_cons_self
      refine ⟨by omega,?_⟩
      rcases List.mem_cons.mp tm with e | e
      ·rw [e];omega
      ·obtain ⟨g,hg,eg'⟩:=List.mem_map.mp e
       rw [<-eg'];exact (rb g hg).2
     refine ⟨(s5.trans s6).trans s7,Ks++[{ K with r:=eY ((mo - (0+(i:Int)))::K.G.map fun g=>g.getD 6 0) }],by rw [ea,List.map_append];rfl,by rw [List.length_append,List.length_singleton];omega,fun K' hk=>?_⟩
     rcases List.mem_append.mp hk with hk | hk
     ·exact tk K' hk
     ·rw [List.mem_singleton.mp hk]
      exact ⟨sk.rings t0.1 t0.2 fun g hg=>rZ (List.mem_cons_of_mem _ (List.mem_map.mpr ⟨g,hg,rfl⟩)),⟨rfl,rfl,fun _ _ _=>rfl⟩⟩
    ·subst ea
     k_is
     have d5:=d4.thenSm s5
     have lt5:=d5.pot.lt
     exact q _ Ks _ (d5.thenSm (Sm.app _ _)) aI (by omega) tk (by omega)
  ·k_is
   refine aa (oq hn1) ?_
   have s2:Sm S1 (S1++[Ob.lst ((L.map ae).take j)]):=Sm.app _ _
   have a2:(S1++[Ob.lst ((L.map ae).take j)])[List.length S1]?=some (Ob.lst ((L.take j).map ae)):=by rw [aI,List.map_take]
   refine ⟨rfl,qk (k:=k+1) V a2 (fun w hw=>ld.ing w (List.mem_of_mem_take hw)) (by rw [List.length_take];omega) z0 z1 fun S3 s3=>?_⟩
   k_is
   have d3:=d1.thenSm (s2.trans s3)
   have lt3:=d3.pot.lt
   have nn:=@CW K (L.take j) z.1 z.2
   generalize lC K (L.take j) z.1 z.2=mo at *
   refine aa sk3 ?_
   refine aa (show ag bG (.tup (K.F.map D.int)) S3=some (.int K.F.length,S3) by simp only [ag,aq,bG,List.length_map]) ?_
   k_is
   have one:∀ S4,Dr p S S4->Q (.ref (List.length S4)) (S4++[.lst [skE K]]):=fun S4 d4=>q _ [K] _ (d4.thenSm (Sm.app _ _)) aI (by have:=d4.pot.lt;omega) (fun K' hk=>by rw [List.mem_singleton.mp hk];exact ⟨sk,Like.refl K⟩) (by simp)
   refine aU (fun _=>?_) fun h1=>?_
   ·k_is
    exact one S3 d3
   ·k_is
    refine aU (fun _=>?_) fun h2=>?_
    ·k_is
     exact one S3 d3
    ·k_is
     refine aa sk0 (aa me0 ?_)
     k_is
     refine aU (fun _=>?_) fun h3=>?_
     ·k_is
      exact one S3 d3
     ·k_is
      have hf:=fx (by have:=of_decide_eq_false h1;omega)
      have h3':=of_decide_eq_false h3
      have h2':=of_decide_eq_false h2
      refine bU [mo,if mo - 1 > 1 then mo - 1 else 1] D.int (fun v=>[skE (upd K z.1 6 v)]) (by simp) (fun _ _=>Nat.le_refl _) (jd (l:=[mo,if mo - 1 > 1 then mo - 1 else 1]) (E:=D.int)) (fun i v S' hv sm=>⟨_,rfl,?_⟩) fun S4 s4=>?_
      ·k_is
       exact ⟨rfl,oB (a:=6) sk z0 z1 (by decide) ⟨rfl,Sm.refl _⟩⟩
      ·rw [bV]
       k_is
       have d4:=d3.thenSm s4
       refine q _ [upd K z.1 6 mo,upd K z.1 6 (if mo - 1 > 1 then mo - 1 else 1)] _ (d4.thenSm (Sm.app _ _)) aI (by have:=d4.pot.lt;omega) (fun K' hk=>?_) (by simp)
       simp only [List.mem_cons,List.not_mem_nil,or_false] at hk
       rcases hk with rfl | rfl
       ·exact qr sk z0 z1 (by omega) (by omega) hf
       ·exact qr sk z0 z1 (by split <;> omega) (by split <;> omega) hf
end Lw
namespace Lw
open PySem Ev Sn L2
variable {p:Nat} {S S':Sto} {k:Nat} {Q:D->Sto->Prop} {K:Sky}
noncomputable def gW (g:List Int):List Int:=[g.getD 0 0,g.getD 1 0,g.getD 2 0,g.getD 2 0+5000,g.getD 4 0,g.getD 5 0,0]
noncomputable def ud (K:Sky) (G:List (List Int)):Sky:={ K with r:=8,G:=G.map gW }
structure Wd (K:Sky):Prop where
 ok:SkOk K
 r8:K.r=8
 pos:0 < K.G.length
 fi:∀ g ∈ K.G,g.getD 2 0<=999/\g.getD 3 0=g.getD 2 0+5000/\g.getD 6 0=0
theorem ue (h:SkOk K) {G:List (List Int)} (g7:G.length<=7) (pos:0 < G.length) (gb:∀ g ∈ G,GB K.M.length K.r K.s g/\g.getD 2 0<=999) (bd:∀ x ∈ K.F,0<=x/\x < G.length):Wd (ud K G):=by
 refine ⟨⟨⟨by show (0:Int)<=8;decide,by show (8:Int)<=8;decide,h.me.s0,h.me.s60,h.me.mat,h.me.m1,h.me.m4,h.me.tri,h.me.ris,h.me.h4,h.me.hb⟩,by show (G.map gW).length<=7;rw [List.length_map];exact g7,fun g hg=>?_,h.nd,fun x hx=>?_,fun j g e=>.inl ?_,h.ah⟩,rfl,by show 0 < (G.map gW).length;rw [List.length_map];exact pos,fun g hg=>?_⟩
 ·obtain ⟨g0,h0,rfl⟩:=List.mem_map.mp (show g ∈ G.map gW from hg)
  obtain ⟨⟨kd,jo,fi,la,du,we,ri,rfl,hb⟩,hf⟩:=gb g0 h0
  have hf':fi<=999:=hf
  show GB K.M.length 8 K.s [kd,jo,fi,fi+5000,du,we,0]
  exact ⟨kd,jo,fi,fi+5000,du,we,0,rfl,by omega⟩
 ·show 0<=x/\x < ((G.map gW).length:Int)
  rw [List.length_map];exact bd x hx
 ·obtain ⟨g0,h0,rfl⟩:=List.mem_map.mp (List.mem_of_getElem? (show (G.map gW)[j]?=some g from e))
  rfl
 ·obtain ⟨g0,h0,rfl⟩:=List.mem_map.mp (show g ∈ G.map gW from hg)
  exact ⟨(gb g0 h0).2,rfl,rfl⟩
theorem vP (K:Sky) {G:List (List Int)} (gl:∀ g ∈ G,g.length=7) (g7:G.length<=7) (q:∀ S',Sm S S'->Q (skE (ud K G)) S') :
  rW (wSs (evC aj (k+5)) (iZ aj) 58 (gJ.drop 2)) [some (.ref p),some (meE K),some (ahE K.ah),some (.tup (G.map aE)),some (.tup (K.F.map D.int)),none] S (out Q):=by
 dsimp only [gJ,List.drop]
 k_is
 refine bU G aE (fun g=>[aE (gW g)]) (by omega) (fun _ _=>Nat.le_refl _) jd (fun i g S' hg sm=>⟨_,rfl,?_⟩) fun S1 s1=>?_
 ·have l7:=gl g (List.mem_of_getElem? hg)
  match g,l7 with
  | [a,b,c,d,e,f,h],_=>
   k_is
   rw [show aE [a,b,c,d,e,f,h] = .tup [.int a,.int b,.int c,.int d,.int e,.int f,.int h] from rfl]
   k_is
   refine aa (show ixS (D.tup [.int a,.int b,.int c,.int d,.int e,.int f,.int h]) (.int 2) S'=some (.int c,S') from rfl) ?_
   k_is
   exact ⟨by show 4<=1000;decide,by show 6<=1000;decide,by show 7<=1000;decide,rfl,Sm.refl _⟩
 ·rw [bV]
  rw [show meE K = .tup [.int K.r,.int K.s,.tup (K.M.map aE),.tup (K.H.map ae)] from rfl]
  k_is
  have a2:(S1++[Ob.lst (G.map fun g=>aE (gW g))])[List.length S1]?=some (.lst (G.map fun g=>aE (gW g))):=aI
  have s2:Sm S (S1++[Ob.lst (G.map fun g=>aE (gW g))]):=s1.trans (Sm.app _ _)
  refine ⟨by show 4<=1000;decide,?_⟩
  refine aa (show ag dH (.ref (List.length S1)) (S1++[Ob.lst (G.map fun g=>aE (gW g))])=some (.tup (G.map fun g=>aE (gW g)),S1++[Ob.lst (G.map fun g=>aE (gW g))]) by simp only [ag,aq,aO a2,Option.map_some,dH]) ?_
  have e:skE (ud K G) = .tup [.tup [.int 8,.int K.s,.tup (K.M.map aE),.tup (K.H.map ae)],ahE K.ah,.tup (G.map fun g=>aE (gW g)),.tup (K.F.map D.int)]:=by
   unfold skE meE ud
   dsimp only
   rw [List.map_map];rfl
  have:=q _ s2
  rw [e] at this
  exact this
theorem CY (h:Pot p S) (q:∀ K S',Dr p S S'->Wd K->Q (skE K) S'):Ok (evC aj (k+6) kW [.ref p] S) Q:=by
 refine aG (d:=gZ) (ρ:=[some (.ref p),none,none,none,none,none]) rfl rfl ?_
 have tail:=@vP p
 dsimp only [gZ]
 dsimp only [gJ,List.drop] at tail ⊢
 k_is
 refine ⟨rfl,CQ h fun K S1 d1 sk hf=>?_⟩
 rw [show skE K = .tup [meE K,ahE K.ah,.tup (K.G.map aE),.tup (K.F.map D.int)] from rfl]
 k_is
 have V:=sk.vd
 have m1:=sk.me.m1
 have s0:=sk.me.s0
 have s6:=sk.me.s60
 have r0:=sk.me.r0
 refine aU (fun he=>?_) fun he=>?_
 ·k_is
  refine aa me1 ?_
  k_is
  refine aa me1 ?_
  k_is
  have hG:K.G=[]:=by
   cases hg:K.G with
   | nil=>rfl
   | cons a l=>rw [hg] at he;cases he
  have bd:∀ x ∈ K.F,0<=x/\x < (([[0,4,4+K.s,9+K.s,0,1,0]]:List (List Int)).length:Int):=fun x hx=>by
   have:=sk.bd x hx
   rw [hG] at this
   simp at this
   omega
  refine tail (k:=k) K (G:=[[0,4,4+K.s,9+K.s,0,1,0]]) (fun g hg=>by rw [List.mem_singleton.mp hg];rfl) (by simp) fun S2 s2=>q _ S2 (d1.thenSm s2) (ue sk (by simp) (by simp) (fun g hg=>?_) bd)
  rw [List.mem_singleton.mp hg]
  exact ⟨⟨0,4,4+K.s,9+K.s,0,1,0,rfl,by omega⟩,by show 4+K.s<=999;omega⟩
 ·k_is
  refine tail (k:=k) K (fun g hg=>(V.gl g hg).1) sk.g7 fun S2 s2=>q _ S2 (d1.thenSm s2) (ue sk sk.g7 ?_ (fun g hg=>⟨sk.gb g hg,hf g hg⟩) sk.bd)
  cases hg:K.G with
  | nil=>rw [hg] at he;cases he
  | cons a l=>simp
end Lw
namespace Lw
open PySem Ev Sn L2
variable {p:Nat} {S S':Sto} {k:Nat} {Q:D->Sto->Prop} {K:Sky}
theorem zz:∀ (H:List (Int × Int)) (m B:Int),(∀ q ∈ H,q.2<=B)->m<=B->opn H m<=B
 | [],_,_,_,hm=>hm
 | q::H,m,B,h,hm=>by
  rw [opn]
  refine zz H _ B (fun q' hq=>h q' (List.mem_cons_of_mem _ hq)) ?_
  split
  ·exact h q List.mem_cons_self
  ·exact hm
theorem uf (w:Wd K):∀ (os:List Int) (a:Option (Int × Int)) (L:List (Int × Int)),(∀ g ∈ os,0<=g/\g < K.G.length)->(∀ q,a=some q->0<=q.1/\q.1 < K.M.length/\q.2<=999+99 * (L.length:Int))->L.length+os.length<=7 ->
  (∀ z ∈ L,0<=z.1/\z.1 < K.G.length/\gi K.G z.1 2<=z.2/\z.2<=9999)->∃ R,rn K os a L = .inr R/\(∀ z ∈ R,0<=z.1/\z.1 < K.G.length/\gi K.G z.1 2<=z.2/\z.2<=9999)/\R.map (·.1)=L.map (·.1)++os
 | [],a,L,_,_,_,hL=>⟨L,rfl,hL,by simp⟩
 | g::os,a,L,ho,ha,hl,hL=>by
  rw [List.length_cons] at hl
  obtain ⟨g0,g1⟩:=ho g List.mem_cons_self
  have g7:=w.ok.g7
  have s0:=w.ok.me.s0
  have hi:g.toNat < K.G.length:=by omega
  have hm:=List.getElem_mem hi
  obtain ⟨kd,jo,fi,la,du,we,ri,eg,hb⟩:=w.ok.gb K.G[g.toNat] hm
  obtain ⟨f1,f2,f3⟩:=w.fi K.G[g.toNat] hm
  rw [eg] at f1 f2 f3
  have f1:fi<=999:=f1
  have f2:la=fi+5000:=f2
  have f3:ri=0:=f3
  have e0:gi K.G g 0=kd:=by unfold gi;rw [gEG hi,eg];rfl
  have e2:gi K.G g 2=fi:=by unfold gi;rw [gEG hi,eg];rfl
  have e3:gi K.G g 3=la:=by unfold gi;rw [gEG hi,eg];rfl
  have e6:gi K.G g 6=ri:=by unfold gi;rw [gEG hi,eg];rfl
  have fr:fi<=aQ K a g/\aQ K a g<=999+99 * ((L.length:Int)+1):=by
   unfold aQ
   cases a with
   | none=>dsimp only;rw [e2];omega
   | some q=>
    obtain ⟨q0,q1,q2⟩:=ha q rfl
    obtain ⟨_,_,_,_,x1,x2⟩:=w.ok.me.mat.at (i:=q.1.toNat) (j:=kd.toNat) (by omega) (by omega)
    have x2:gp K q.1 kd<=99:=x2
    dsimp only
    rw [e0,e2]
    split <;> omega
  have op:opn K.H (aQ K a g)<=999+99 * ((L.length:Int)+1):=zz K.H _ _ (fun q hq=>by have:=w.ok.me.hb q hq;omega) fr.2
  have og:=sv K.H (aQ K a g)
  have lt:om K L.length (opn K.H (aQ K a g))=false:=by
   unfold om
   rw [List.getElem?_eq_none (by rw [zh,w.r8];omega)]
  have st:Sn.step K a g L.length=some (opn K.H (aQ K a g)):=by
   unfold Sn.step
   rw [lt,e3,decide_eq_false (by omega)];rfl
  have hh:jE K L g (opn K.H (aQ K a g))=false:=by
   unfold jE
   rw [e6,f3];rfl
  obtain ⟨R,h1,h2,h3⟩:=uf w os (some (gi K.G g 0,opn K.H (aQ K a g))) (L++[(g,opn K.H (aQ K a g))]) (fun x hx=>ho x (List.mem_cons_of_mem _ hx)) (fun q e=>by
   cases e
   rw [e0,List.length_append,List.length_singleton]
   exact ⟨hb.1,hb.2.1,by push_cast;omega⟩) (by rw [List.length_append,List.length_singleton];omega) (fun z hz=>by
   rcases List.mem_append.mp hz with hz | hz
   ·exact hL z hz
   ·rw [List.mem_singleton.mp hz]
    exact ⟨g0,g1,by show gi K.G g 2<=opn K.H (aQ K a g);omega,by show opn K.H (aQ K a g)<=9999;omega⟩)
  refine ⟨R,?_,h2,?_⟩
  ·rw [rn,st]
   dsimp only
   rw [hh]
   exact h1
  ·rw [h3];simp
theorem sx (w:Wd K) {os:List Int} (ho:Ord K os):∃ R,rn K os K.ah [] = .inr R/\Lnd K R:=by
 have ln:=ho.ln
 have g7:=w.ok.g7
 have pos:=w.pos
 obtain ⟨R,h1,h2,h3⟩:=uf w os K.ah [] ho.bd (fun q e=>by have:=w.ok.ah q e;exact ⟨this.1,this.2.1,by simp;exact this.2.2.2⟩) (by simp;omega) (fun z hz=>by simp at hz)
 have lr:R.length=os.length:=by
  have:=congrArg List.length h3
  simpa using this
 refine ⟨R,h1,⟨by omega,by omega,fun z hz=>⟨(h2 z hz).1,(h2 z hz).2.1⟩,fun z hz=>(h2 z hz).2.2,fun i z e hi=>?_⟩⟩
 obtain ⟨r,rfl⟩:=ho.fx
 have e1:(R.map (·.1))[i]?=some z.1:=by rw [List.getElem?_map,e];rfl
 rw [h3,List.map_nil,List.nil_append,List.getElem?_append_left hi] at e1
 exact List.mem_of_getElem? e1
theorem Ord.like {K':Sky} {os:List Int} (h:Ord K os) (l:Like K K'):Ord K' os:=⟨h.nd,fun g hg=>by rw [l.ln];exact h.bd g hg,by rw [l.ln];exact h.ln,by rw [l.fx];exact h.fx⟩
end Lw
namespace Lw
open PySem Ev Sn L2
variable {p:Nat} {S S':Sto} {k:Nat} {Q:D->Sto->Prop} {K:Sky}
theorem DH {α:Type} {n:Nat} {l:List α} {E:α->D} {tg:Tg} {b:XS} {ρ:Rho} {Q:Fl->Rho->Sto->Prop} (hl:l.length<=100000) (I:Nat->Rho->Sto->Prop)
  (keep:∀ i ρ S',I i ρ S'->S'[n]?=some (.lst (l.map E)))
  (step:∀ (i:Nat) a ρ S',l[i]?=some a->I i ρ S'->∃ ρ1,ax tg (E a) ρ=some ρ1/\OkS (b ρ1 S') fun fl ρ2 S2=>match fl with | .nx=>I (i+1) ρ2 S2 | .ct=>I (i+1) ρ2 S2 | .bk=>Q .nx ρ2 S2 | .rt d=>Q (.rt d) ρ2 S2)
  (q:∀ ρ S',I l.length ρ S'->Q .nx ρ S') (h0:I 0 ρ S):OkS (dZ (nxS n) tg b LF 0 ρ S) Q:=by
 have nx:∀ i ρ S',I i ρ S'->nxS n i S'=some ((l[i]?).map E):=fun i ρ S' iv=>by
  show (au S' n).map (fun ds=>ds[i]?)=_
  rw [aO (keep i ρ S' iv),Option.map_some,List.getElem?_map]
 refine jV l.length I (by unfold LF;omega) (fun i ρ S' hi iv=>?_) (fun ρ S' iv=>⟨?_,q ρ S' iv⟩) h0
 ·obtain ⟨ρ1,e2,z⟩:=step i l[i] ρ S' (gEG hi) iv
  exact ⟨E l[i],ρ1,by rw [nx i ρ S' iv,gEG hi];rfl,e2,z⟩
 ·rw [nx _ ρ S' iv,List.getElem?_eq_none (Nat.le_refl _)];rfl
theorem main (ns:List Int) (hn:ns.length<=63):∃ S',evC aj 40 tO [.ref 0] [.frz (ns.map D.int)]=some (.bl true,S'):=by
 have key:Ok (evC aj (39+1) tO [.ref 0] [.frz (ns.map D.int)]) fun d _=>d = .bl true:=by
  refine aG (d:=tP) (ρ:=[some (.ref 0),none,none,none,none,none,none,none,none,none,none]) rfl rfl ?_
  dsimp only [tP,Dq]
  k_is
  have lq:ag bG (.ref 0) [Ob.frz (ns.map D.int)]=some (.int ns.length,[Ob.frz (ns.map D.int)]):=by simp only [ag,aq,au,List.getElem?_cons_zero,Option.map_some,bG,List.length_map]
  refine aa lq ?_
  k_is
  obtain ⟨c,hc,c8⟩:∃ c:Nat,(if (if (8:Int) < ns.length then (8:Int) else ns.length) > 1 then (if (8:Int) < ns.length then (8:Int) else ns.length) else 1)=(c:Int)/\c<=8:=by
   refine ⟨(if (if (8:Int) < ns.length then (8:Int) else ns.length) > 1 then (if (8:Int) < ns.length then (8:Int) else ns.length) else 1).toNat,?_,?_⟩
   ·split <;> split <;> omega
   ·split <;> split <;> omega
  rw [hc]
  refine ⟨hJ (by omega) (by omega),?_⟩
  rw [Int.toNat_natCast]
  refine jD (by omega) (fun i ρ S'=>S'[0]?=some (Ob.frz (ns.map D.int))/\∃ a b c d e f g h j l,ρ=[some (.ref 0),a,b,c,d,e,f,g,h,j,l]) (fun i ρ S1 hi ⟨h0,a,b,c',d,e,f,g,h,j,l,er⟩=>?_) (fun ρ S1 ⟨h0,a,b,c',d,e,f,g,h,j,l,er⟩=>?_) ⟨rfl,none,none,none,none,none,none,none,none,none,none,rfl⟩
  ·subst er
   refine ⟨_,rfl,?_⟩
   k_is
   rw [Int.zero_add]
   refine ⟨rfl,Cz (k:=38) h0 fun x=>?_⟩
   refine ⟨rfl,Ic (k:=38) fun n=>?_⟩
   k_is
   have pt:Pot (List.length S1) (S1++[Ob.lst [D.int n]]):=⟨n,aI⟩
   have n0:0 ≠ List.length S1:=fun z=>by rw [List.length_eq_zero_iff.mp z.symm] at h0;simp at h0
   have h1:(S1++[Ob.lst [D.int n]])[0]?=some (Ob.frz (ns.map D.int)):=Sm.app _ _ _ _ h0
   generalize S1++[Ob.lst [D.int n]]=S2 at *
   generalize List.length S1=p at *
   refine ⟨rfl,CY (k:=33) pt fun K S3 d3 wd=>?_⟩
   k_is
   have sk:=wd.ok
   have V:=sk.vd
   have g7:=sk.g7
   refine aa sk2 ?_
   refine aa (show ag bG (.tup (K.G.map aE)) S3=some (.int K.G.length,S3) by simp only [ag,aq,bG,List.length_map]) ?_
   k_is
   refine ⟨hJ (by omega) (by omega),?_⟩
   rw [Int.toNat_natCast]
   refine bU (List.range K.G.length) (fun (j:Nat)=>D.int (0+(j:Int))) (fun (j:Nat)=>if (!decide ((j:Int) ∈ K.F))=true then [ae (gi K.G j 2,j)] else []) (by rw [List.length_range];omega) (fun _ _=>by split <;> simp) Ij (fun i j S' hj sm=>⟨_,rfl,?_⟩) fun S4 s4=>?_
   ·k_is
    have hj':j < K.G.length:=List.mem_range.mp (List.mem_of_getElem? hj)
    obtain ⟨a,b,c,d,e,f,g,eg,e0,e1,e2,_⟩:=gl7 V (g:=(j:Int)) (by omega) (by omega)
    refine aa sk3 ?_
    rw [Int.zero_add]
    refine aa (show ay .notin (.int (j:Int)) (.tup (K.F.map D.int)) S'=some (.bl (true != decide ((j:Int) ∈ K.F)),S') from tQ true K.F j S') ?_
    k_is
    cases hcj:decide ((j:Int) ∈ K.F) with
    | true=>k_is;exact ⟨rfl,Sm.refl _⟩
    | false=>
     k_is
     refine aa sk2 (aa (dQ (by omega) eg) (aa (show ixS (aE [a,b,c,d,e,f,g]) (.int 2) S'=some (.int c,S') from rfl) ?_))
     k_is
     exact ⟨by rw [e2];rfl,Sm.refl _⟩
   ·rw [cp]
    have ep:(((List.range K.G.length).filter fun (j:Nat)=>!decide ((j:Int) ∈ K.F)).map fun (j:Nat)=>ae (gi K.G j 2,j))=((b8 K).map fun x=>(gi K.G x 2,x)).map ae:=by unfold b8;rw [List.map_map,List.map_map];rfl
    rw [ep]
    have lo:(b8 K).length<=7:=by unfold b8;rw [List.length_map];exact Nat.le_trans (List.length_filter_le _ _) (by rw [List.length_range];exact g7)
    obtain ⟨qs,es,pq⟩:=vO (ps:=(b8 K).map fun x=>(gi K.G x 2,x)) (by rw [List.length_map];omega)
    refine ⟨_,es,?_⟩
    k_is
    have lq:qs.length<=7:=by rw [pq.length_eq,List.length_map];exact lo
    have s5:Sm S4 (S4++[Ob.lst (qs.map ae)]):=Sm.app _ _
    have a5:(S4++[Ob.lst (qs.map ae)])[List.length S4]?=some (Ob.lst (qs.map ae)):=aI
    have d5:Dr p S2 (S4++[Ob.lst (qs.map ae)]):=d3.thenSm (s4.trans s5)
    generalize S4++[Ob.lst (qs.map ae)]=S5 at *
    generalize List.length S4=N at *
    refine aa sk3 ?_
    refine ⟨by rw [aO a5];rfl,?_⟩
    refine bU qs ae (fun z=>[D.int z.2]) (by omega) (fun _ _=>Nat.le_refl _) (g9 a5) (fun i z S' hz sm=>⟨_,show ax (.tup [.name 11,.name 12]) (.tup [.int z.1,.int z.2]) _=_ from fG (by simp) (by simp),?_⟩) fun S6 s6=>?_
    ·k_is
     exact ⟨rfl,Sm.refl _⟩
    ·rw [bV]
     have e7:(qs.map fun z=>D.int z.2)=(qs.map (·.2)).map D.int:=by rw [List.map_map];rfl
     have pm7:(qs.map (·.2)).Perm (b8 K):=by
      have:=pq.map (·.2)
      rw [List.map_map] at this
      have e8:((b8 K).map ((·.2) ∘ fun x=>(gi K.G x 2,x)))=b8 K:=(List.map_congr_left fun x _=>rfl).trans (List.map_id _)
      rw [e8] at this
      exact this
     rw [e7]
     k_is
     have ho:=Ik sk pm7
     have ln:=ho.ln
     have d6:=d5.thenSm s6
     rw [List.length_append] at ln
     refine aa (show dH false ((qs.map (·.2)).map D.int) S6=some (.tup ((qs.map (·.2)).map D.int),S6) from rfl) ?_
     k_is
     refine ⟨by rw [List.length_map,List.length_map];omega,?_⟩
     rw [<-List.map_append]
     rw [<-List.length_append] at ln
     generalize K.F++qs.map (·.2)=os at *
     refine ⟨rfl,jF (k:=36) V ho.bd (by omega) fun dl S7 s7 rl=>?_⟩
     obtain ⟨R,er,ld⟩:=sx wd ho
     unfold Res at rl
     rw [er] at rl
     obtain ⟨nR,rfl,a7,b7⟩:=rl
     refine aa (show ixS (D.tup [.str "lands", .ref nR]) (.int 1) S7=some (.ref nR,S7) from rfl) ?_
     k_is
     have d7:=d6.thenSm s7
     have lt6:=d6.pot.lt
     have nRp:nR ≠ p:=by omega
     k_is
     refine ⟨by decide,?_⟩
     refine jD (by decide) (fun t ρ S'=>Dr p S7 S'/\∃ g h j l,ρ=[some (.ref 0),some (.int (i:Int)),some (.ref p),some (skE K),some (.ref N),some (.tup (os.map D.int)),some (.ref nR),g,h,j,l]) (fun t ρ S8 ht ⟨d8,g,h,j,l,er⟩=>?_) (fun ρ S8 ⟨d8,g,h,j,l,er⟩=>?_) ⟨⟨Kp.refl _ _,d7.pot⟩,_,_,_,_,rfl⟩
     ·subst er
      refine ⟨_,rfl,?_⟩
      k_is
      refine ⟨rfl,mV (k:=35) d8.pot sk (d8.kp _ _ nRp a7) nRp ld wd.pos fun N9 Ks S9 d9 a9 n9 tk lk=>?_⟩
      k_is
      have d79:=d8.trans d9
      refine ⟨by rw [aO a9];rfl,?_⟩
      refine DH (l:=Ks) (E:=skE) (by omega) (fun u ρ S'=>Dr p S9 S'/\∃ h j l,ρ=[some (.ref 0),some (.int (i:Int)),some (.ref p),some (skE K),some (.ref N),some (.tup (os.map D.int)),some (.ref nR),some (.int (0+(t:Int))),h,j,l]) (fun _ _ S' ⟨d',_⟩=>d'.kp _ _ n9 a9) (fun u K1 ρ Sa hu ⟨da,h,j,l,er⟩=>?_) (fun ρ Sa ⟨da,h,j,l,er⟩=>?_) ⟨Dr.refl d9.pot,_,_,_,rfl⟩
      ·subst er
       obtain ⟨k1,l1⟩:=tk K1 (List.mem_of_getElem? hu)
       have d7a:=d79.trans da
       refine ⟨_,rfl,?_⟩
       k_is
       refine ⟨rfl,aD da.pot (by decide) (by decide) fun w Sb w1 w2 db=>?_⟩
       have d7b:=d7a.trans db
       refine ⟨rfl,mV (k:=35) db.pot k1 (d7b.kp _ _ nRp a7) nRp (ld.like l1) (by rw [l1.ln];exact wd.pos) fun Nc Kc Sc dc ac nc tc lc=>?_⟩
       k_is
       have d7c:=d7b.trans dc
       refine ⟨by rw [aO ac];rfl,?_⟩
       refine DH (l:=Kc) (E:=skE) (by omega) (fun v ρ S'=>Dr p Sc S'/\∃ j l,ρ=[some (.ref 0),some (.int (i:Int)),some (.ref p),some (skE K),some (.ref N),some (.tup (os.map D.int)),some (.ref nR),some (.int (0+(t:Int))),some (skE K1),j,l]) (fun _ _ S' ⟨d',_⟩=>d'.kp _ _ nc ac) (fun v K2 ρ Sd hv ⟨dd,j,l,er⟩=>?_) (fun ρ Sd ⟨dd,j,l,er⟩=>?_) ⟨Dr.refl dc.pot,_,_,rfl⟩
       ·subst er
        obtain ⟨k2,l2⟩:=tc K2 (List.mem_of_getElem? hv)
        refine ⟨_,rfl,?_⟩
        k_is
        refine y9 (by show 3<=100000;decide) (fun y ρ S'=>Dr p Sc S'/\∃ l,ρ=[some (.ref 0),some (.int (i:Int)),some (.ref p),some (skE K),some (.ref N),some (.tup (os.map D.int)),some (.ref nR),some (.int (0+(t:Int))),some (skE K1),some (skE K2),l]) (fun y dy ρ Se hy ⟨de,l,er⟩=>?_) (fun ρ Se ⟨de,l,er⟩=>?_) ⟨dd,_,rfl⟩
        ·subst er
         refine ⟨_,rfl,?_⟩
         obtain ⟨K3,rfl,k3,l3⟩:∃ K3,dy=skE K3/\SkOk K3/\Like K K3:=by
          have hm:=List.mem_of_getElem? hy
          simp only [List.mem_cons,List.not_mem_nil,or_false] at hm
          rcases hm with rfl | rfl | rfl
          ·exact ⟨K,rfl,sk,Like.refl K⟩
          ·exact ⟨K1,rfl,k1,l1⟩
          ·exact ⟨K2,rfl,k2,l1.trans l2⟩
         have o3:=ho.like l3
         have V3:=k3.vd
         have lo3:=o3.ln
         have g73:=k3.g7
         have lte:=de.pot.lt
         k_is
         refine ⟨rfl,sd (k:=30) V3 k3.sky o3 fun dp Sf sf rp=>?_⟩
         refine aa (ua (p:=p) (zx rp lte) (uc k3 o3)) ?_
         have df:=de.thenSm sf
         refine ⟨rfl,jF (k:=36) V3 o3.bd (by omega) fun dl Sg sg rl=>?_⟩
         refine aa (ua (p:=p) (zx rl df.pot.lt) (uc k3 o3)) ?_
         k_is
         refine aa (CT _ _ _) ?_
         rw [beq_self_eq_true]
         k_is
         exact ⟨df.thenSm sg,_,rfl⟩
        ·subst er
         k_is
         exact ⟨de,_,_,rfl⟩
       ·subst er
        k_is
        exact ⟨((da.trans db).trans dc).trans dd,_,_,_,rfl⟩
      ·subst er
       k_is
       exact ⟨d79.trans da,_,_,_,_,rfl⟩
     ·subst er
      exact ⟨(d7.trans d8).kp _ _ n0 h1,_,_,_,_,_,_,_,_,_,_,rfl⟩
  ·subst er
   k_is
 obtain ⟨d,S',e,rfl⟩:=key
 exact ⟨S',e⟩
end Lw
theorem PySem.Challenge.cw_downrings_k34_stuck_in_each_way_holds : PySem.Challenge.rw_downrings_k34_stuck_in_each_way.Holds :=
 Lw.head Lw.main
