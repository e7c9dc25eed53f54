import PyProof.Rows.All
import Wide.All
import OpenK.AllK
import Wide.FinOn
import Lean
import PyProof.EqAt
import PyProof.EqKinds
import PyProof.TupleCall
import PyProof.NeKinds
import KE.KSortTup
import PyProof.AutoListH
import PySem.Challenge.RW_downrings_k11_landings_kept
set_option Elab.async false
set_option linter.all false
set_option maxRecDepth 100000
set_option maxHeartbeats 4000000
open List renaming length_map → Za, length → Zb, getElem?_eq_some_iff → Zc, mem_cons_of_mem → Ze, mem_cons_self → Zg, size_toArray → Zi, range → Zj, mem_cons → Zk, getElem?_map → Zl, mem_of_getElem? → Zm, replicate → Zo, getElem?_append_right → Zq, length_append → Zr, map_cons → Zt, getElem?_append_left → Zw, all_eq_true → Zx, getElem?_eq_none → Zy, take_succ_eq_append_getElem → Zz, length_cons → ZA, map_append → ZB, mem_map → ZD, mem_append_right → ZE, length_take → ZF, getElem_mem → ZG, length_singleton → ZI, getElem?_set_ne → ZJ, mem_append → ZK, length_range → ZL, mem_singleton → ZM, all_map → ZP, mem_filter → ZR, all_cons → ZS, take_of_length_le → ZU, map_map → ZV, mem_range → ZW, map_nil → ZZ, length_drop → Z1, replicate_succ → Z2, not_mem_nil → Z4, getElem?_of_mem → Z5, append_assoc → Z6, length_set → Z7, prefix_refl → Z9, drop → Yb, getD_eq_getElem?_getD → Yc, getElem?_eq_none_iff → Yd, append_nil → Ye, flatten_cons → Yg, mem_of_mem_take → Yi, map_take → Yj, getElem?_replicate → Yk, lookup_cons → Yl, mem_flatMap → Ym, length_eq_zero_iff → Yn, take_length → Yo, getElem?_cons_succ → Yp, prefix_append → Yr, pairwise_cons → Ys, nodup_cons → Yt, any_cons → Yu, getElem?_set → Yv, getElem?_range → Yy, eraseIdx_cons_succ → YB, getElem?_set_self → YC, flatMap_cons → YD, any_eq_true → YE, countP_cons → YF, filter_cons → YG, mem_append_left → YH, range_succ → YI, filterMap_cons → YK, map_congr_left → YL, forIn_nil → YM, length_eraseIdx_of_lt → YN, length_zipIdx → YO, map_inj_left → YS, set_comm → YT, getElem?_take_of_lt → YU, getElem_inj → YV, toArray → Y0, of_mem_zip → Y1, nil_append → Y2, length_nil → Y3, length_replicate → Y5, length_filter_le → Y7, mem_iff_getElem → Y9, getLast?_append → Xb, flatMap_append → Xc, replicate_zero → Xd, length_pos_iff → Xf, map_drop → Xg, mem_filterMap → Xh, take_sublist → Xk, all_nil → Xm, nodup_append → Xn, any_map → Xo, flatten_nil → Xv, foldl_cons → Xy, forIn_cons → Xz, foldl → XD, count → XF, map_set → XJ
open Nat renaming le_refl → Zd, lt_of_lt_of_le → Zu, le_trans → Zv, ne_of_lt → ZC, lt_irrefl → ZQ, not_lt_zero → Z8, sub_self → Yh, le_succ → Yq, le_of_succ_le → YQ, lt_succ_of_lt → YR, lt_succ_self → YX, le_of_lt → YY, min_eq_left → Y4, ne_of_gt → Xj, succ_mul → Xl, succ_le_succ → Xr, succ_ne_self → Xs, le_max_right → Xu, min_eq_right → Xw, zero_le → Xx, le_max_left → XB, zero_add → XH
open Bool renaming false_ne_true → Zf, true_and → ZT, false_and → ZX, eq_iff_iff → Z0, false_eq_true → Z3, and_true → Yz, or_eq_true → YJ, and_eq_true_iff → Xa, or_false → XG
open PySem.Heap renaming get?_push_of_some → Zh, lt_size → Zs, get?_push_size → ZH, size_push → Yw, size_update → YW, get?_update_other → YZ, get?_update_self → Y6, get?_update_ne → Xe, get?_push_ne → Xp
open Int renaming toNat_natCast → Zn, zero_add → Yx, le_refl → YA, emod_lt_of_pos → Xi, emod_nonneg → XC
open Option renaming map_some → Zp, getD_some → ZO, isSome_iff_exists → ZY, getD_none → Xq
open Array renaming length_toList → ZN, mem_toList_iff → Y8
theorem gEG {α:Type _} {l:List α} {i:Nat} (h:i < l.length):l[i]?=some l[i]:=List.getElem?_eq_getElem h
theorem bAE (a b:Bool):((a && b)=true)=(a=true/\b=true):=Bool.and_eq_true a b
namespace L2
open PySem PySem.Spec PyProof.Rows
noncomputable abbrev Key:=Sum Int Str
noncomputable def km:Key->Value->Bool
 | .inl k,v=>Value.isInt k v
 | .inr x,v=>Value.isStrOf x v
noncomputable def Oa (w:World):Key->Int
 | .inl k=>hashInt k
 | .inr x=>hashStr w x
theorem aU:∀ {k:Key} {v:Value},km k v=true->(∃ i t,k=Sum.inl i/\v=Value.int i t)\/(∃ x t,k=Sum.inr x/\v=Value.str x t)
 | .inl i,v,h=>by
  obtain ⟨t,e⟩:=Value.isInt_shape (k:=i) (v:=v) h;exact .inl ⟨i,t,rfl,e⟩
 | .inr x,v,h=>by
  obtain ⟨t,e⟩:=Value.isStrOf_shape (x:=x) (v:=v) h;exact .inr ⟨x,t,rfl,e⟩
theorem wR (i:Int) (t:Tok):km (.inl i) (.int i t)=true:=by simp [km,Value.isInt]
theorem wU (x:Str) (t:Tok):km (.inr x) (.str x t)=true:=by simp [km,Value.isStrOf]
theorem GG (a b:Int):decide ((Sum.inl a:Key)=Sum.inl b)=(a == b):=by
 by_cases e:a=b
 ·subst e;simp
 ·have h:¬ (Sum.inl a:Key)=Sum.inl b:=fun q=>e (Sum.inl.inj q);rw [decide_eq_false h];exact (beq_eq_false_iff_ne.mpr e).symm
theorem GH (a b:Str):decide ((Sum.inr a:Key)=Sum.inr b)=decide (a=b):=by
 by_cases e:a=b
 ·subst e;simp
 ·have h:¬ (Sum.inr a:Key)=Sum.inr b:=fun q=>e (Sum.inr.inj q);rw [decide_eq_false h,decide_eq_false e]
theorem GI (a:Int) (b:Str):decide ((Sum.inl a:Key)=Sum.inr b)=false:=decide_eq_false (fun q=>nomatch q)
theorem GJ (a:Str) (b:Int):decide ((Sum.inr a:Key)=Sum.inl b)=false:=decide_eq_false (fun q=>nomatch q)
noncomputable def bC (prog:Program) (w:World):PySem.KeyKind prog w Key where
 is:=km
 hash:=Oa w
 inj:=fun v a b ha hb=>by
  rcases aU ha with ⟨i,t,rfl,rfl⟩ | ⟨x,t,rfl,rfl⟩
  ·rcases aU hb with ⟨j,u,rfl,e⟩ | ⟨y,u,rfl,e⟩
   ·injection e with e1 _;rw [e1]
   ·exact nomatch e
  ·rcases aU hb with ⟨j,u,rfl,e⟩ | ⟨y,u,rfl,e⟩
   ·exact nomatch e
   ·injection e with e1 _;rw [e1]
 byValue:=fun k v h=>by
  rcases aU h with ⟨i,t,rfl,rfl⟩ | ⟨x,t,rfl,rfl⟩ <;> rfl
 pyHash:=fun hv h=>by
  rcases aU hv with ⟨i,t,rfl,rfl⟩ | ⟨x,t,rfl,rfl⟩
  ·exact wpAny_pyHash_int h
  ·exact wpAny_pyHash_str h
 eqBool:=fun hu hv h=>by
  rcases aU hu with ⟨i,t,rfl,rfl⟩ | ⟨x,t,rfl,rfl⟩
  ·rcases aU hv with ⟨j,u,rfl,rfl⟩ | ⟨y,u,rfl,rfl⟩
   ·rw [GG] at h;exact wpAny_eqBool_int h
   ·rw [GI] at h;exact SeqAt.EqAt.int_str i t y u _ _ _ _ h
  ·rcases aU hv with ⟨j,u,rfl,rfl⟩ | ⟨y,u,rfl,rfl⟩
   ·rw [GJ] at h;exact SeqAt.EqAt.str_int x t j u _ _ _ _ h
   ·rw [GH] at h;exact wpAny_eqBool_str h
 «strs»:=fun k x t v h=>by
  rcases aU h with ⟨i,u,rfl,e⟩ | ⟨y,u,rfl,e⟩
  ·exact nomatch e
  ·injection e with e1 _;subst e1;cases v <;> rfl
theorem qQ (prog:Program) (w:World) (i:Int) (t:Tok):(bC prog w).is (.inl i) (.int i t)=true:=wR i t
theorem qR (prog:Program) (w:World) (x:Str) (t:Tok):(bC prog w).is (.inr x) (.str x t)=true:=wU x t
end L2
namespace L2
open PySem PySem.Spec PyProof.Rows
inductive V where
 | non | bl (b:Bool) | int (i:Int) | str (x:Str) | byt (b:Array UInt8) | flt (b:UInt64) | ref (a:Addr) | ty (n:String)
 deriving DecidableEq
noncomputable def aM:V->Value->Prop
 | .non,u=>u=Value.none
 | .bl b,u=>u=Value.bool b
 | .int i,u=>∃ t,u=Value.int i t
 | .str x,u=>∃ t,u=Value.str x t
 | .byt b,u=>∃ t,u=Value.bytes b t
 | .flt b,u=>∃ t,u=Value.float b t
 | .ref a,u=>u=Value.ref a
 | .ty n,u=>u=Value.type n
noncomputable abbrev aP:List V->List Value->Prop:=Paired aM
theorem aP.length {xs:List V} {us:List Value} (r:aP xs us):xs.length=us.length:=Paired.length r
theorem aP.get:∀ {xs:List V} {us:List Value} {i:Nat} {x:V},aP xs us->xs[i]?=some x->∃ u,us[i]?=some u/\aM x u
 | _,_,_,_,.nil,e=>by simp at e
 | _,_,0,_,.cons r _,e=>by simp at e;subst e;exact ⟨_,rfl,r⟩
 | _,_,i+1,x,.cons _ t,e=>by
  obtain ⟨u,h1,h2⟩:=aP.get (i:=i) (x:=x) t (by simpa using e);exact ⟨u,by simpa using h1,h2⟩
theorem aP.set {x:V} {u:Value} (r:aM x u):∀ {xs:List V} {us:List Value} (i:Nat),aP xs us->aP (xs.set i x) (us.set i u)
 | _,_,_,.nil=>.nil
 | _,_,0,.cons _ t=>.cons r t
 | _,_,i+1,.cons q t=>.cons q (aP.set r i t)
theorem aP.append:∀ {xs ys:List V} {us ws:List Value},aP xs us->aP ys ws->aP (xs++ys) (us++ws)
 | _,_,_,_,.nil,s=>s
 | _,_,_,_,.cons r t,s=>.cons r (aP.append t s)
theorem aP.take:∀ {xs:List V} {us:List Value} (n:Nat),aP xs us->aP (xs.take n) (us.take n)
 | _,_,0,_=>.nil
 | _,_,_+1,.nil=>.nil
 | _,_,n+1,.cons r t=>.cons r (aP.take n t)
theorem aP.drop:∀ {xs:List V} {us:List Value} (n:Nat),aP xs us->aP (xs.drop n) (us.drop n)
 | _,_,0,r=>r
 | _,_,_+1,.nil=>.nil
 | _,_,n+1,.cons _ t=>aP.drop n t
noncomputable def GK:Option V->Option Value->Prop
 | some v,some u=>aM v u
 | none,none=>True
 | _,_=>False
noncomputable def KV {κ:Type}:List (κ × V)->List (κ × Value)->Prop:=Paired fun (p:κ × V) (q:κ × Value)=>p.1=q.1/\aM p.2 q.2
noncomputable def kV:Key->V
 | .inl i=>.int i
 | .inr x=>.str x
noncomputable def pA (h:Heap) (a:Addr) (items:Array Value):Prop:=∃ o,h.get? a=some o/\o.cls = .type "tuple"/\∃ n,o.data = .seq items n/\o.dict=none
theorem pA.isTup {h:Heap} {a:Addr} {items:Array Value} (x:pA h a items):IsTup h a items:=let ⟨o,e,c,n,d,_⟩:=x;⟨o,e,c,n,d⟩
theorem pA.lt {h:Heap} {a:Addr} {items:Array Value} (x:pA h a items):a < h.objs.size:=x.isTup.lt
theorem pA.new (h:Heap) (items:Array Value):pA (h.push { cls:=.type "tuple", data:=.seq items }) h.objs.size items:=⟨_,ZH _ rfl,rfl,_,rfl,rfl⟩
inductive HO where
  | lst (xs:List V)
  | tup (xs:List V)
  | dK (kvs:List (Key × V)) | dT (kvs:List (List Key × V))
  | set (S:Int->Bool) (n:Nat)
  | ins (C dx:Addr) (fs:List (Str × V))
  | own (x:Addr)
  | xd (fs:List (Str × V))
  | met (f x:Addr)
  | rng (lo hi:Int)
  | frz (o:Obj) (u:HO)
  | tbl (ps:Array Value)
  | ext (φ:Heap->Prop)
noncomputable abbrev Hp:=Addr->Option HO
noncomputable def upd (H:Hp) (a:Addr) (o:HO):Hp:=fun b=>if b=a then some o else H b
theorem bf {H:Hp} {a:Addr} {o:HO}:upd H a o a=some o:=by unfold upd;rw [if_pos rfl]
theorem aG {H:Hp} {a b:Addr} {o:HO} (h:b ≠ a):upd H a o b=H b:=by unfold upd;rw [if_neg h]
theorem vj {H:Hp} {a:Addr} {o u:HO}:upd (upd H a o) a u=upd H a u:=by
 funext b;unfold upd;split <;> rfl
theorem aS {H:Hp} {a b:Addr} {o:HO} (h:H a=some o) (h':H b=none):a ≠ b:=by
 intro e;subst e;rw [h] at h';cases h'
section
variable (P:Program) (w:World)
noncomputable def bw (H:Hp) (h:Heap) (a:Addr):HO->Prop
 | .lst xs=>xs.length<=sizeLine/\∃ (its:List Value) (n:Nat),aP xs its/\h.get? a=some { cls:=.type "list", data:=.seq its.toArray n }
 | .tup xs=>xs.length<=sizeLine/\∃ its:List Value,aP xs its/\pA h a its.toArray
 | .dK kvs=>kvs.length<=sizeLine/\(a == sysModules)=false/\∃ vs,KV kvs vs/\h.DictOf (bC P w) a vs
 | .dT kvs=>kvs.length<=sizeLine/\(a == sysModules)=false/\∃ xs:List (List Key × Addr × Value),
   Paired (fun (p:List Key × V) (q:List Key × Addr × Value)=>p.1=q.1/\H q.2.1=some (.tup (p.1.map kV))/\aM p.2 q.2.2) kvs xs ∧
   ∃ o es ep,h.get? a=some o/\o.ExactDict/\o.data = .dict es ep/\es.toList=xs.map (entryOfKey (tupleKind (bC P w)))/\(xs.map (·.1)).Nodup
 | .set S n=>h.SetOf (intKind P w) a S n
 | .ins C dx fs=>H dx=some (.own a)/\fs.length<=1000/\dx ≠ a/\h.get? a=some (PySem.W.instObj C dx) ∧
   ∃ mA,h.Ns1 dx mA/\(∀ f,GK (fs.lookup f) (mA f))/\PySem.Within mA (fs.map (·.1))
 | .own _=>∃ o,h.get? a=some o
 | .xd fs=>∃ mA,h.Ns1 a mA/\∀ f,GK (fs.lookup f) (mA f)
 | .rng lo hi=>∃ t u v,h.get? a=some { cls:=.type "range", data:=.fields #[.int lo t,.int hi u,.int 1 v] }
 | .frz o u=>h.get? a=some o/\bw H h a u
 | .tbl ps=>h.get? a=some { cls:=.none,data:=.fields ps }
 | .met f x=>h.get? a=some (PySem.W.methodObj (.ref f) (.ref x))
 | .ext φ=>φ h/\(∃ o,h.get? a=some o)/\∀ h1 h2:Heap,φ h1->(∀ o,h1.get? a=some o->h2.get? a=some o)->φ h2
noncomputable def HOk (H:Hp) (h:Heap):Prop:=∀ a o,H a=some o->bw P w H h a o
end
section
variable {P:Program} {w:World} {H H':Hp} {h h':Heap} {a:Addr} {o:HO}
theorem bw.lt (x:bw P w H h a o):a < h.objs.size:=by
 cases o with
 | lst xs=>obtain ⟨_,_,_,_,e⟩:=x;exact Zs e
 | tup xs=>obtain ⟨_,_,_,p⟩:=x;exact p.lt
 | dK kvs=>obtain ⟨_,_,_,_,o,_,_,e,_⟩:=x;exact Zs e
 | dT kvs=>obtain ⟨_,_,_,_,o,_,_,e,_⟩:=x;exact Zs e
 | set S n=>obtain ⟨o,_,_,_,e,_⟩:=x;exact Zs e
 | ins C dx fs=>obtain ⟨_,_,_,e,_⟩:=x;exact Zs e
 | own y=>obtain ⟨_,e⟩:=x;exact Zs e
 | xd fs=>obtain ⟨_,⟨_,_,_,e,_⟩,_⟩:=x;exact Zs e
 | rng lo hi=>obtain ⟨_,_,_,e⟩:=x;exact Zs e
 | frz ob u=>obtain ⟨e,_⟩:=x;exact Zs e
 | tbl ps=>exact Zs (show h.get? a=some _ from x)
 | met f y=>exact Zs (show h.get? a=some _ from x)
 | ext φ=>obtain ⟨_,⟨_,e⟩,_⟩:=x;exact Zs e
theorem Paired.mapP {α β:Type} {F G:α->β->Prop}:∀ {l₁:List α} {l₂:List β},Paired F l₁ l₂->(∀ a b,F a b->G a b)->Paired G l₁ l₂
 | _,_,.nil,_=>.nil
 | _,_,.cons r t,f=>.cons (f _ _ r) (Paired.mapP t f)
theorem bw.stay (x:bw P w H h a o) (k:∀ b u,(b=a\/H b=some (.own a))->h.get? b=some u->h'.get? b=some u)
  (ho:∀ b,H b=some (.own a)->H' b=some (.own a)) (ht:∀ b xs,H b=some (.tup xs)->H' b=some (.tup xs)):bw P w H' h' a o:=by
 induction o with
 | lst xs=>obtain ⟨z,its,n,r,e⟩:=x;exact ⟨z,its,n,r,k _ _ (.inl rfl) e⟩
 | tup xs=>obtain ⟨z,its,r,ob,e,c⟩:=x;exact ⟨z,its,r,ob,k _ _ (.inl rfl) e,c⟩
 | dK kvs=>obtain ⟨z,y,vs,r,ob,es,ep,e,c⟩:=x;exact ⟨z,y,vs,r,ob,es,ep,k _ _ (.inl rfl) e,c⟩
 | dT kvs=>
  obtain ⟨z,y,xs,r,ob,es,ep,e,c⟩:=x;exact ⟨z,y,xs,Paired.mapP r fun p q z=>⟨z.1,ht _ _ z.2.1,z.2.2⟩,ob,es,ep,k _ _ (.inl rfl) e,c⟩
 | set S n=>obtain ⟨ob,es,ep,t,e,c⟩:=x;exact ⟨ob,es,ep,t,k _ _ (.inl rfl) e,c⟩
 | ins C dx fs=>
  obtain ⟨d,z,ne,e,mA,⟨od,es,ep,e2,c⟩,r⟩:=x;exact ⟨ho _ d,z,ne,k _ _ (.inl rfl) e,mA,⟨od,es,ep,k _ _ (.inr d) e2,c⟩,r⟩
 | own y=>obtain ⟨ob,e⟩:=x;exact ⟨ob,k _ _ (.inl rfl) e⟩
 | xd fs=>obtain ⟨mA,⟨od,es,ep,e,c⟩,r⟩:=x;exact ⟨mA,⟨od,es,ep,k _ _ (.inl rfl) e,c⟩,r⟩
 | rng lo hi=>obtain ⟨t,u,v,e⟩:=x;exact ⟨t,u,v,k _ _ (.inl rfl) e⟩
 | frz ob u ih=>obtain ⟨e,q⟩:=x;exact ⟨k _ _ (.inl rfl) e,ih q⟩
 | tbl ps=>
  have e:h.get? a=some { cls:=.none,data:=.fields ps }:=x;show h'.get? a=some { cls:=.none,data:=.fields ps };exact k a _ (.inl rfl) e
 | met f y=>
  have e:h.get? a=some (PySem.W.methodObj (.ref f) (.ref y)):=x;show h'.get? a=some (PySem.W.methodObj (.ref f) (.ref y));exact k a _ (.inl rfl) e
 | ext φ=>obtain ⟨p,⟨o,e⟩,st⟩:=x;exact ⟨st _ _ p fun o q=>k _ _ (.inl rfl) q,⟨o,k _ _ (.inl rfl) e⟩,st⟩
theorem HOk.lt (x:HOk P w H h) (e:H a=some o):a < h.objs.size:=(x a o e).lt
theorem HOk.fresh (x:HOk P w H h) (e:h.objs.size<=a):H a=none:=by
 cases q:H a with
 | none=>rfl
 | some u=>exact absurd (Zu (x.lt q) e) (ZQ _)
theorem HOk.kept (x:HOk P w H h) (k:∀ b u,h.get? b=some u->h'.get? b=some u):HOk P w H h':=fun a o e=>
 (x a o e).stay (fun b u _ q=>k b u q) (fun _ q=>q) fun _ _ q=>q
theorem HOk.laid (x:HOk P w H h) (k:∀ b u,h.get? b=some u->h'.get? b=some u) (hp:h.objs.size<=a) (new:bw P w (upd H a o) h' a o):HOk P w (upd H a o) h':=fun b u e=>by
 have hn:=x.fresh hp;by_cases hb:b=a
 ·subst hb;rw [bf] at e;cases e;exact new
 ·rw [aG hb] at e;exact (x b u e).stay (fun c v _ q=>k c v q) (fun c q=>by rw [aG (aS q hn)];exact q) fun c xs q=>by rw [aG (aS q hn)];exact q
end
noncomputable def Rd (H:Hp) (a:Addr) (u:HO):Prop:=H a=some u\/∃ o,H a=some (.frz o u)
theorem Rd.ok {P:Program} {w:World} {H:Hp} {h:Heap} {a:Addr} {u:HO} (r:Rd H a u) (x:HOk P w H h):bw P w H h a u:=by
 rcases r with r | ⟨o,r⟩
 ·exact x a u r
 ·obtain ⟨_,q⟩:=x a _ r;exact q
noncomputable def Mut:Option HO->Prop
 | some (.lst _)=>True
 | some (.dK _)=>True
 | some (.dT _)=>True
 | some (.set _ _)=>True
 | some (.ins _ _ _)=>True
 | some (.ext _)=>True
 | _=>False
section
variable {P:Program} {w:World} {H:Hp} {h h':Heap} {x e:Addr} {o':HO}
theorem HOk.write (ok:HOk P w H h) (mu:Mut (H x)) (he:e=x\/H e=some (.own x)) (k:∀ b u,b ≠ e->h.get? b=some u->h'.get? b=some u) (heo:∃ u,h'.get? e=some u)
  (new:bw P w (upd H x o') h' x o'):HOk P w (upd H x o') h':=fun b u q=>by
 have nown:∀ c y,H c=some (.own y)->c ≠ x:=fun c y r z=>by subst z;rw [r] at mu;exact mu
 have ntup:∀ c xs,H c=some (.tup xs)->c ≠ x:=fun c xs r z=>by subst z;rw [r] at mu;exact mu
 by_cases hb:b=x
 ·subst hb;rw [bf] at q;cases q;exact new
 ·rw [aG hb] at q;by_cases hbe:b=e
  ·have q':H b=some (.own x):=by
    rcases he with z | z
    ·exact absurd (hbe.trans z) hb
    ·rw [hbe];exact z
   rw [q] at q';cases q';obtain ⟨v,hv⟩:=heo;exact ⟨v,by rw [hbe];exact hv⟩
  ·refine (ok b u q).stay (fun c v hc r=>k c v ?_ r) (fun c r=>by rw [aG (nown c b r)];exact r) fun c xs r=>by rw [aG (ntup c xs r)];exact r
   rcases hc with rfl | hc
   ·exact hbe
   ·rintro rfl;rcases he with z | z
    ·exact nown c b hc z
    ·rw [hc] at z;cases z;exact hb rfl
end
structure Un (fs ex:List Addr) (H H':Hp) (h h':Heap):Prop where
 keep:∀ b o,h.get? b=some o->H b=none->b ∉ fs->b ∉ ex->h'.get? b=some o
 slot:∀ b o,h.get? b=some o->H b=none->b ∈ fs->b ∉ ex->∃ sl,h'.get? b=some { o with slots:=sl }
 free:∀ b o,h.get? b=some o->H b=none->b ∉ ex->H' b=none
 there:∀ b o,h.get? b=some o->b ∉ ex->∃ o',h'.get? b=some o'
 tups:∀ b xs,H b=some (.tup xs)->H' b=some (.tup xs)
 frzs:∀ b o u,H b=some (.frz o u)->H' b=some (.frz o u)
 tbls:∀ b ps,H b=some (.tbl ps)->∃ more,H' b=some (.tbl (ps++more))
section
variable {fs fs' ex ex':List Addr} {H H1 H2:Hp} {h h1 h2 h':Heap} {a x e:Addr} {o:HO}
theorem Un.any (u:Un fs ex H H1 h h1) {b:Addr} {ob:Obj} (q:h.get? b=some ob) (n:H b=none) (hx:b ∉ ex):∃ sl,h1.get? b=some { ob with slots:=sl }:=by
 by_cases hb:b ∈ fs
 ·exact u.slot b ob q n hb hx
 ·exact ⟨ob.slots,u.keep b ob q n hb hx⟩
theorem Un.kept (k:∀ b u,h.get? b=some u->h'.get? b=some u):Un fs ex H H h h':=
 ⟨fun b ob q _ _ _=>k b ob q,fun b ob q _ _ _=>⟨ob.slots,k b ob q⟩,fun _ _ _ n _=>n,fun b ob q _=>⟨ob,k b ob q⟩,fun _ _ q=>q,fun _ _ _ q=>q,fun _ ps q=>⟨#[],by rw [q];simp⟩⟩
theorem Un.refl:Un fs ex H H h h:=Un.kept fun _ _ q=>q
theorem Un.laid (k:∀ b u,h.get? b=some u->h'.get? b=some u) (hp:h.objs.size<=a) (hn:H a=none):Un fs ex H (upd H a o) h h' where
 keep:=fun b u q _ _ _=>k b u q
 slot:=fun b u q _ _ _=>⟨u.slots,k b u q⟩
 free:=fun b u q n _=>by rw [aG (ZC (Zu (Zs q) hp))];exact n
 there:=fun b u q _=>⟨u,k b u q⟩
 tups:=fun b xs q=>by rw [aG (aS q hn)];exact q
 frzs:=fun b u xs q=>by rw [aG (aS q hn)];exact q
 tbls:=fun b ps q=>⟨#[],by rw [aG (aS q hn),q];simp⟩
theorem Un.write (mu:Mut (H x)) (he:e=x\/H e=some (.own x)) (k:∀ b u,b ≠ e->h.get? b=some u->h'.get? b=some u) (heo:∃ u,h'.get? e=some u):Un fs ex H (upd H x o) h h':=by
 have hx:∀ b,H b=none->b ≠ x:=fun b n z=>by subst z;rw [n] at mu;exact mu
 have hb:∀ b,H b=none->b ≠ e:=fun b n z=>by
  subst z;rcases he with r | r
  ·exact hx b n r
  ·rw [n] at r;cases r
 have hm:∀ b u,H b=some u->¬ Mut (some u)->b ≠ x:=fun b u q nm z=>by subst z;rw [q] at mu;exact nm mu
 refine ⟨fun b u q n _ _=>k b u (hb b n) q,fun b u q n _ _=>⟨u.slots,k b u (hb b n) q⟩,fun b u q n _=>by rw [aG (hx b n)];exact n,fun b u q _=>?_,
  fun b xs q=>by rw [aG (hm b _ q fun z=>z)];exact q,fun b u xs q=>by rw [aG (hm b _ q fun z=>z)];exact q,fun b ps q=>⟨#[],by rw [aG (hm b _ q fun z=>z),q];simp⟩⟩
 by_cases hbe:b=e
 ·subst hbe;exact heo
 ·exact ⟨u,k b u hbe q⟩
end
noncomputable def trk (h:Heap) (H:Hp):List Addr:=(Zj h.objs.size).filter fun a=>(H a).isSome
noncomputable def pB (h:Heap) (H:Hp):Heap:=PySem.W.hideAll h (trk h H)
theorem wV (h:Heap) (H:Hp):(pB h H).objs.size=h.objs.size:=PySem.W.hideAll_size _ _
theorem yC {h:Heap} {H:Hp} {b:Addr} {o:Obj} (e:h.get? b=some o) (n:H b=none):(pB h H).get? b=some o:=
 PySem.W.hideAll_get _ e fun hm=>by
  have q:(H b).isSome=true:=(ZR.mp hm).2;rw [n] at q;simp at q
theorem Ca {h:Heap} {H:Hp} {b:Addr} {o:Obj} (e:(pB h H).get? b=some o):h.get? b=some o/\H b=none:=by
 have e':h.get? b=some o:=PySem.W.of_hideAll (trk h H) e;refine ⟨e',?_⟩;cases q:H b with
 | none=>rfl
 | some x=>
  have hm:b ∈ trk h H:=ZR.mpr ⟨ZW.mpr (Zs e'),by simp [q]⟩;have z:(pB h H).get? b=none:=PySem.W.hideAll_none (trk h H) hm;rw [z] at e;cases e
end L2
namespace L2
open PySem PySem.Spec PyProof.Rows
structure Mod (K:PySem.W.Frag) (mg:Str->Option Value) (base:Heap):Prop where
 kin:K.In base
 glob:base.Ns mainGlobals mg
 blt:∃ mb,base.Ns builtinsNs mb/\∀ x:Str,x ≠ "__name__"->mb x=bootBuiltins x
 nolimit:base.NoLimit
structure Cx where
 prog:Program
 w:World
 K:PySem.W.Frag
 mg:Str->Option Value
 base:Heap
 A:Around
 N:List Str
 s₀:Shared
 H₀:Hp
 env:Env
 outer:List Env
 stack:List Env
 ex:List Addr
 fn:Str->Bool
 calm:Bool
 pn:List (Addr × Obj)
 xe:Value->Shared->Prop
noncomputable def frs (l:List Env):List Addr:=l.filterMap (·.frame)
noncomputable abbrev Cx.fs (X:Cx):List Addr:=frs X.outer
noncomputable def Vis (sc:Scope) (x:Str):Prop:=sc.names.lookup x=some .local\/sc.names.lookup x=some .cell\/sc.names.lookup x=some .free
noncomputable def Loc (sc:Scope) (x:Str):Prop:=sc.names.lookup x=some .local\/sc.names.lookup x=some .cell
noncomputable def Oc (env:Env) (h:Heap) (m:Str->Option Value) (x:Str) (u:Value):Prop:=
 (env.kindOf x=some .local/\m x=some u)\/((env.kindOf x=some .cell\/env.kindOf x=some .free)/\∃ c,env.cells.lookup x=some c/\h.IsCell c (some u))
structure Cx.Ok (X:Cx):Prop where
 mod:Mod X.K X.mg X.base
 kind:X.env.scope.kind = .function
 glob:X.env.globals=mainGlobals
 blt:X.env.builtins=builtinsNs
 above:X.s₀.heap.objs.size<=X.env.locals
 inj:∀ x y c,X.env.cells.lookup x=some c->X.env.cells.lookup y=some c->x=y
 has:∀ x,(X.env.kindOf x=some .cell\/X.env.kindOf x=some .free)->∃ c,X.env.cells.lookup x=some c
 cab:∀ x c,X.fn x=true->X.env.cells.lookup x=some c->X.s₀.heap.objs.size<=c
 hd:X.calm=true->X.A.handled=none
 frames:X.A.frames=some X.stack
 stk:X.stack=X.outer\/(X.stack=X.env::X.outer/\X.env.frame=some X.env.locals)
 exf:∀ b ∈ X.ex,b ≠ X.env.locals/\∀ x c,X.env.cells.lookup x=some c->c ≠ b
 bs:∀ b o,X.base.get? b=some o->X.s₀.heap.get? b=some o/\X.H₀ b=none
 bsz:X.base.objs.size<=X.s₀.heap.objs.size
 noex:∀ b o,X.base.get? b=some o->b ∉ X.ex
 exfs:∀ b ∈ X.ex,b ∉ X.fs
 funs:X.s₀.heap.FunFrames X.base X.outer
 frf:∀ b ∈ X.fs,X.H₀ b=none
structure Inv (X:Cx) (pins:List (Addr × Obj)) (σ:List (Option V)) (H:Hp) (s:Shared):Prop where
 ok:X.Ok
 os:s.os=X.s₀.os
 bare:AllBare s.gens
 base:Un X.fs X.ex X.H₀ H X.s₀.heap s.heap
 loc:∃ m,s.heap.Ns X.env.locals m/\∀ (i:Nat) (x:Str) (v:V),X.N[i]?=some x->σ[i]?=some (some v)->Vis X.env.scope x->∃ u,aM v u/\Oc X.env s.heap m x u
 cell:∀ x c,X.env.cells.lookup x=some c->∃ v,s.heap.IsCell c v
 free:H X.env.locals=none
 freeC:∀ x c,X.env.cells.lookup x=some c->H c=none
 pin:∀ p ∈ X.pn++pins,s.heap.get? p.1=some p.2/\H p.1=none/\p.1 ≠ X.env.locals/\p.1 ∉ X.fs/\∀ v,p.2.data ≠ .cell v
 hok:HOk X.prog X.w H s.heap
 len:σ.length=X.N.length
section
variable {X:Cx} {pins:List (Addr × Obj)} {σ:List (Option V)} {H H':Hp} {s:Shared} {h':Heap}
theorem Cx.Ok.nofr (ok:X.Ok) {b:Addr} {o:Obj} (e:X.base.get? b=some o):b ∉ X.fs:=fun hb=>by
 have:=(ok.funs.mem hb).1;rw [e] at this;cases this
theorem Inv.bs (I:Inv X pins σ H s):∀ b o,X.base.get? b=some o->s.heap.get? b=some o/\H b=none:=fun b o e=>
 ⟨I.base.keep b o (I.ok.bs b o e).1 (I.ok.bs b o e).2 (I.ok.nofr e) (I.ok.noex b o e),I.base.free b o (I.ok.bs b o e).1 (I.ok.bs b o e).2 (I.ok.noex b o e)⟩
theorem Inv.bk (I:Inv X pins σ H s):∀ b o,X.base.get? b=some o->s.heap.get? b=some o:=fun b o e=>(I.bs b o e).1
theorem Inv.mod (I:Inv X pins σ H s):Mod X.K X.mg X.base:=I.ok.mod
theorem Inv.kIn (I:Inv X pins σ H s):X.K.In s.heap:=I.ok.mod.kin.keeps I.bk
theorem Inv.lt (I:Inv X pins σ H s):X.env.locals < s.heap.objs.size:=let ⟨_,hn,_⟩:=I.loc;hn.lt
theorem Inv.sz (I:Inv X pins σ H s):X.s₀.heap.objs.size<=s.heap.objs.size:=Zv I.ok.above (YY I.lt)
theorem Inv.nofs (I:Inv X pins σ H s) {a:Addr} (h:s.heap.objs.size<=a):a ∉ X.fs:=fun hb=>by
 obtain ⟨_,o,ho,_⟩:=I.ok.funs.mem hb;exact absurd (Zu (Zs ho) (Zv I.sz h)) (ZQ _)
theorem Inv.cne (I:Inv X pins σ H s):∀ x c,X.env.cells.lookup x=some c->c ≠ X.env.locals:=fun x c e z=>by
 obtain ⟨v,o,ho,hd⟩:=I.cell x c e;obtain ⟨m,⟨o',es,ep,ho',hd',_⟩,_⟩:=I.loc;rw [z,ho'] at ho;cases ho;rw [hd'] at hd;cases hd
theorem Inv.funs (I:Inv X pins σ H s):s.heap.FunFrames X.base X.outer:=by
 have all:∀ (l:List Env),(∀ b ∈ frs l,b ∈ X.fs)->X.s₀.heap.FunFrames X.base l->s.heap.FunFrames X.base l:=by
  intro l
  induction l with
  | nil=>intro _ _;trivial
  | cons env r ih=>
   intro hs hl;obtain ⟨hk,⟨L,o,hf,hn,ho,hd⟩,hr⟩:=hl;have hL:L ∈ X.fs:=hs L (by unfold frs;rw [YK,hf];exact Zg);obtain ⟨sl,e⟩:=I.base.slot L o ho (I.ok.frf L hL) hL fun z=>I.ok.exfs L z hL;exact ⟨hk,⟨L,_,hf,hn,e,hd⟩,ih (fun b hb=>hs b (by unfold frs;rw [YK,hf];exact Ze _ hb)) hr⟩
 exact all X.outer (fun _ hb=>hb) I.ok.funs
theorem Inv.stack (I:Inv X pins σ H s):s.heap.FunFrames X.base X.stack:=by
 rcases I.ok.stk with e | ⟨e,hf⟩
 ·rw [e];exact I.funs
 ·rw [e];obtain ⟨m,hn,_⟩:=I.loc;refine .cons (by rw [I.ok.kind];decide) hf hn ?_ I.funs;exact Heap.get?_none_of_le (Zv I.ok.bsz I.ok.above)
theorem Inv.stkSub (I:Inv X pins σ H s):∀ b ∈ frs X.stack,b ∈ X.env.locals::X.fs:=fun b hb=>by
 rcases I.ok.stk with e | ⟨e,hf⟩
 ·rw [e] at hb;exact Ze _ hb
 ·rw [e] at hb;unfold frs at hb;rw [YK,hf] at hb;exact hb
theorem Inv.stkFree (I:Inv X pins σ H s):∀ b ∈ frs X.stack,H b=none:=fun b hb=>by
 rcases Zk.mp (I.stkSub b hb) with e | hb
 ·rw [e];exact I.free
 ·obtain ⟨_,o,ho,_⟩:=I.ok.funs.mem hb;exact I.base.free b o ho (I.ok.frf b hb) fun z=>I.ok.exfs b z hb
theorem Inv.step {g':Array GenState} {t':Nat} {d':Drawn} {ch:List Addr} (I:Inv X pins σ H s)
  (hch:∀ b ∈ ch,(b ∈ X.ex\/X.s₀.heap.objs.size<=b)/\b ≠ X.env.locals/\(∀ x c,X.env.cells.lookup x=some c->c ≠ b)/\∀ p ∈ X.pn++pins,p.1 ≠ b)
  (keep:∀ b o,b ≠ X.env.locals->b ∉ X.fs->b ∉ ch->s.heap.get? b=some o->H b=none->h'.get? b=some o)
  (slot:∀ b o,b ≠ X.env.locals->b ∈ X.fs->b ∉ ch->s.heap.get? b=some o->H b=none->∃ sl,h'.get? b=some { o with slots:=sl }) (free:∀ b o,b ∉ ch->s.heap.get? b=some o->H b=none->H' b=none)
  (there:∀ b o,b ∉ ch->s.heap.get? b=some o->∃ o',h'.get? b=some o')
  (tups:∀ b xs,H b=some (.tup xs)->H' b=some (.tup xs)) (frzs:∀ b o u,H b=some (.frz o u)->H' b=some (.frz o u)) (tbls:∀ b ps,H b=some (.tbl ps)->∃ more,H' b=some (.tbl (ps++more)))
  (ns:∀ m,s.heap.Ns X.env.locals m->h'.Ns X.env.locals m) (hok:HOk X.prog X.w H' h') (hg:AllBare g') :
  Inv X pins σ H' { s with heap:=h',gens:=g',drawn:=d',toks:=t' }:=by
 have neL:∀ b o,X.s₀.heap.get? b=some o->b ≠ X.env.locals:=fun b o e=>ZC (Zu (Zs e) I.ok.above)
 have neC:∀ b o,X.s₀.heap.get? b=some o->b ∉ X.ex->b ∉ ch:=fun b o e hx hb=>by
  rcases (hch b hb).1 with z | z
  ·exact hx z
  ·exact absurd (Zu (Zs e) z) (ZQ _)
 have cellK:∀ x c,X.env.cells.lookup x=some c->∀ v,s.heap.IsCell c v->h'.IsCell c v:=fun x c e v ⟨o,ho,hd⟩=>by
  have nch:c ∉ ch:=fun z=>(hch c z).2.2.1 x c e rfl;by_cases hc:c ∈ X.fs
  ·obtain ⟨sl,q⟩:=slot c o (I.cne x c e) hc nch ho (I.freeC x c e);exact ⟨_,q,hd⟩
  ·exact ⟨o,keep c o (I.cne x c e) hc nch ho (I.freeC x c e),hd⟩
 refine ⟨I.ok,I.os,hg,⟨fun b o e n hb hx=>?_,fun b o e n hb hx=>?_,fun b o e n hx=>?_,fun b o e hx=>?_,fun b xs e=>tups b xs (I.base.tups b xs e),fun b o xs e=>frzs b o xs (I.base.frzs b o xs e),fun b ps e=>?_⟩,?_,fun x c e=>?_,?_,fun x c e=>?_,fun p hp=>?_,hok,I.len⟩
 ·exact keep b o (neL b o e) hb (neC b o e hx) (I.base.keep b o e n hb hx) (I.base.free b o e n hx)
 ·obtain ⟨sl,e1⟩:=I.base.slot b o e n hb hx;obtain ⟨sl',e2⟩:=slot b _ (neL b o e) hb (neC b o e hx) e1 (I.base.free b o e n hx);exact ⟨sl',e2⟩
 ·obtain ⟨o',e1⟩:=I.base.there b o e hx;exact free b o' (neC b o e hx) e1 (I.base.free b o e n hx)
 ·obtain ⟨o',e1⟩:=I.base.there b o e hx;exact there b o' (neC b o e hx) e1
 ·obtain ⟨m1,e1⟩:=I.base.tbls b ps e;obtain ⟨m2,e2⟩:=tbls b _ e1;exact ⟨m1++m2,by rw [e2,Array.append_assoc]⟩
 ·obtain ⟨m,hn,hl⟩:=I.loc;refine ⟨m,ns m hn,fun i x v e1 e2 e3=>?_⟩;obtain ⟨u,r,l⟩:=hl i x v e1 e2 e3;refine ⟨u,r,?_⟩;rcases l with l | ⟨k,c,e,z⟩
  ·exact .inl l
  ·exact .inr ⟨k,c,e,cellK x c e _ z⟩
 ·obtain ⟨v,z⟩:=I.cell x c e;exact ⟨v,cellK x c e v z⟩
 ·obtain ⟨m,⟨o,_,_,ho,_⟩,_⟩:=I.loc;exact free _ o (fun z=>(hch _ z).2.1 rfl) ho I.free
 ·obtain ⟨v,o,ho,hd⟩:=I.cell x c e;exact free c o (fun z=>(hch c z).2.2.1 x c e rfl) ho (I.freeC x c e)
 ·obtain ⟨e,n,ne,nf,d⟩:=I.pin p hp;have nch:p.1 ∉ ch:=fun z=>(hch p.1 z).2.2.2 p hp rfl;exact ⟨keep p.1 p.2 ne nf nch e n,free p.1 p.2 nch e n,ne,nf,d⟩
theorem Inv.un {t':Nat} (I:Inv X pins σ H s) (u:Un X.fs [] H H' s.heap h') (hok:HOk X.prog X.w H' h'):Inv X pins σ H' { s with heap:=h',toks:=t' }:=by
 obtain ⟨m,⟨o,es,ep,ho,r⟩,_⟩:=id I.loc;obtain ⟨sl,hL⟩:=u.any ho I.free (by simp)
 exact I.step (g':=s.gens) (d':=s.drawn) (ch:=[]) (fun _ z=>nomatch z) (fun b o _ hb _ e n=>u.keep b o e n hb (by simp)) (fun b o _ hb _ e n=>u.slot b o e n hb (by simp)) (fun b o _ e n=>u.free b o e n (by simp)) (fun b o _ e=>u.there b o e (by simp)) u.tups u.frzs u.tbls (fun m' hm=>by
  obtain ⟨o',es',ep',ho',r'⟩:=hm;rw [ho] at ho';cases ho';exact ⟨_,es',ep',hL,r'⟩) hok I.bare
theorem Inv.call {g':Array GenState} {t':Nat} {d':Drawn} {ch:List Addr} (I:Inv X pins σ H s) (u:Un (frs X.stack) ch H H' s.heap h') (hok:HOk X.prog X.w H' h') (hg:AllBare g')
  (hch:∀ b ∈ ch,(b ∈ X.ex\/X.s₀.heap.objs.size<=b)/\b ≠ X.env.locals/\(∀ x c,X.env.cells.lookup x=some c->c ≠ b)/\∀ p ∈ X.pn++pins,p.1 ≠ b) :
  Inv X pins σ H' { s with heap:=h',gens:=g',drawn:=d',toks:=t' }:=by
 obtain ⟨m,⟨o,es,ep,ho,r⟩,_⟩:=id I.loc;obtain ⟨sl,hL⟩:=u.any ho I.free fun z=>(hch _ z).2.1 rfl
 exact I.step (ch:=ch) hch (fun b o hL hb hc e n=>u.keep b o e n (fun z=>(Zk.mp (I.stkSub b z)).elim hL hb) hc) (fun b o _ _ hc e n=>u.any e n hc) (fun b o hc e n=>u.free b o e n hc) (fun b o hc e=>u.there b o e hc) u.tups u.frzs u.tbls (fun m' hm=>by
  obtain ⟨o',es',ep',ho',r'⟩:=hm;rw [ho] at ho';cases ho';exact ⟨_,es',ep',hL,r'⟩) hok hg
theorem Inv.turned {t':Nat} {it:Addr} (I:Inv X pins σ H s) (k:∀ b o,b ≠ it->s.heap.get? b=some o->h'.get? b=some o) (hn:H it=none) (hL:it ≠ X.env.locals)
  (h1:it ∈ X.ex\/X.s₀.heap.objs.size<=it) (h2:∀ x c,X.env.cells.lookup x=some c->c ≠ it) (h3:∀ p ∈ X.pn++pins,p.1 ≠ it):Inv X pins σ H { s with heap:=h',toks:=t' }:=by
 have nit:∀ b u,H b=some u->b ≠ it:=fun b u e z=>by rw [z,hn] at e;cases e
 refine I.step (g':=s.gens) (d':=s.drawn) (ch:=[it]) (fun b hb=>?_) (fun b o _ _ hc e _=>k b o (fun z=>hc (by simp [z])) e) (fun b o _ _ hc e _=>⟨o.slots,k b o (fun z=>hc (by simp [z])) e⟩) (fun _ _ _ _ n=>n)
  (fun b o hc e=>⟨o,k b o (fun z=>hc (by simp [z])) e⟩) (fun _ _ e=>e) (fun _ _ _ e=>e) (fun b ps e=>⟨#[],by rw [e];simp⟩) (fun m hm=>?_) (fun b u e=>?_) I.bare
 ·have e:b=it:=by simpa using hb
  subst e;exact ⟨h1,hL,h2,h3⟩
 ·obtain ⟨o,es,ep,ho,r⟩:=hm;exact ⟨o,es,ep,k _ o (Ne.symm hL) ho,r⟩
 ·refine (I.hok b u e).stay (fun c v hc q=>k c v ?_ q) (fun _ q=>q) fun _ _ q=>q;rcases hc with z | z
  ·rw [z];exact nit b u e
  ·exact nit c _ z
theorem Inv.tok (I:Inv X pins σ H s) (t:Nat):Inv X pins σ H { s with toks:=t }:=I.un (h':=s.heap) (t':=t) Un.refl I.hok
theorem Inv.kept {t':Nat} (I:Inv X pins σ H s) (k:∀ b u,s.heap.get? b=some u->h'.get? b=some u):Inv X pins σ H { s with heap:=h',toks:=t' }:=I.un (Un.kept k) (I.hok.kept k)
theorem Inv.laid {a:Addr} {o:HO} {t':Nat} (I:Inv X pins σ H s) (k:∀ b u,s.heap.get? b=some u->h'.get? b=some u) (hp:s.heap.objs.size<=a) (new:bw X.prog X.w (upd H a o) h' a o) :
  Inv X pins σ (upd H a o) { s with heap:=h',toks:=t' }:=I.un (Un.laid k hp (I.hok.fresh hp)) (I.hok.laid k hp new)
theorem Inv.write {x e:Addr} {o:HO} {t':Nat} (I:Inv X pins σ H s) (mu:Mut (H x)) (he:e=x\/H e=some (.own x)) (k:∀ b u,b ≠ e->s.heap.get? b=some u->h'.get? b=some u) (heo:∃ u,h'.get? e=some u)
  (new:bw X.prog X.w (upd H x o) h' x o):Inv X pins σ (upd H x o) { s with heap:=h',toks:=t' }:=I.un (Un.write mu he k heo) (I.hok.write mu he k heo new)
theorem Inv.pins_of {pins':List (Addr × Obj)} (I:Inv X pins σ H s) (h:∀ p ∈ pins',s.heap.get? p.1=some p.2/\H p.1=none/\p.1 ≠ X.env.locals/\p.1 ∉ X.fs/\∀ v,p.2.data ≠ .cell v):Inv X pins' σ H s:=
 ⟨I.ok,I.os,I.bare,I.base,I.loc,I.cell,I.free,I.freeC,fun p hp=>(ZK.mp hp).elim (fun z=>I.pin p (YH _ z)) (h p),I.hok,I.len⟩
theorem qS {N:List Str} (hN:N.Nodup) {i j:Nat} {x:Str} (a:N[i]?=some x) (b:N[j]?=some x):i=j:=by
 obtain ⟨h1,e1⟩:=Zc.mp a;obtain ⟨h2,e2⟩:=Zc.mp b;exact (YV hN).mp (e1.trans e2.symm)
theorem n8 {M:Model} {A:Around} {E:Value->Shared->Prop} {i:Nat} {x:Str} {v:V} {u:Value} {Q:Unit->Shared->Prop} (I:Inv X pins σ H s) (hN:X.N.Nodup) (hi:X.N[i]?=some x) (hx:Loc X.env.scope x) (r:aM v u)
  (h:∀ s',Inv X pins (σ.set i (some v)) H s'->(∃ a,Heap.SameBut a s.heap s'.heap/\(a=X.env.locals\/X.env.cells.lookup x=some a))->Q () s') (hf:X.fn x=true\/X.env.scope.names.lookup x=some .local:=by first | exact .inl rfl | exact .inr rfl | assumption):wpAny M A (storeName X.env x u) Q E s:=by
 obtain ⟨m,hn,hl⟩:=id I.loc;have hcls:(X.env.scope.kind == .class || (X.env.scope.kind == .module && X.env.locals != X.env.globals))=false:=by rw [I.ok.kind];rfl
 have hiσ:i < σ.length:=by rw [I.len];exact (Zc.mp hi).1
 have cne:=I.cne
 have tracked:∀ {a:Addr} {h':Heap},(∃ o,s.heap.get? a=some o/\H a=none)->Heap.SameBut a s.heap h'->HOk X.prog X.w H h':=fun {a h'} ha hs b ob e=>by
  obtain ⟨_,_,hfree⟩:=ha;refine (I.hok b ob e).stay (fun c w' hc q=>(hs.2 c ?_).trans q) (fun _ q=>q) fun _ _ q=>q;rintro rfl;rcases hc with rfl | hc
  ·rw [hfree] at e;cases e
  ·rw [hfree] at hc;cases hc
 rcases hx with hk | hk
 ·refine wpAny_storeName_local hk hn (fun h' hn' hs=>?_) hcls;obtain ⟨oL,_,_,hoL,_⟩:=id hn;refine h _ ⟨I.ok,I.os,I.bare,⟨fun b o e n hb hx=>?_,fun b o e n hb hx=>?_,I.base.free,fun b o e hx=>?_,I.base.tups,I.base.frzs,I.base.tbls⟩,⟨_,hn',fun j y v' e1 e2 e3=>?_⟩,fun y c e=>?_,I.free,I.freeC,fun p hp=>?_,tracked ⟨oL,hoL,I.free⟩ hs,by simpa using I.len⟩ ⟨_,hs,.inl rfl⟩
  ·exact (hs.2 b (ZC (Zu (Zs e) I.ok.above))).trans (I.base.keep b o e n hb hx)
  ·obtain ⟨sl,e1⟩:=I.base.slot b o e n hb hx;exact ⟨sl,(hs.2 b (ZC (Zu (Zs e) I.ok.above))).trans e1⟩
  ·obtain ⟨o',e1⟩:=I.base.there b o e hx;exact ⟨o',(hs.2 b (ZC (Zu (Zs e) I.ok.above))).trans e1⟩
  ·by_cases hj:j=i
   ·subst hj;rw [hi] at e1;cases e1;rw [YC hiσ] at e2;cases e2;exact ⟨u,r,.inl ⟨hk,by simp⟩⟩
   ·rw [ZJ (Ne.symm hj)] at e2;obtain ⟨u',r',q⟩:=hl j y v' e1 e2 e3;refine ⟨u',r',?_⟩;rcases q with ⟨k,e⟩ | ⟨k,c,e,z⟩
    ·refine .inl ⟨k,?_⟩;have:y ≠ x:=fun e=>hj (qS hN e1 (e ▸ hi));simp [this,e]
    ·exact .inr ⟨k,c,e,z.sameBut hs (cne y c e)⟩
  ·obtain ⟨w',z⟩:=I.cell y c e;exact ⟨w',z.sameBut hs (cne y c e)⟩
  ·obtain ⟨e,n,ne,nf,d⟩:=I.pin p hp;exact ⟨(hs.2 p.1 ne).trans e,n,ne,nf,d⟩
 ·have hfn:X.fn x=true:=by
   rcases hf with z | z
   ·exact z
   ·rw [z] at hk;cases hk
  obtain ⟨c,hc⟩:=I.ok.has x (.inl hk);obtain ⟨w',z⟩:=I.cell x c hc;refine wpAny_storeName_cell I.ok.kind hk hc z (fun h' hc' hs=>?_);obtain ⟨oc,hoc,hocd⟩:=id z;refine h { s with heap:=h' } ⟨I.ok,I.os,I.bare,⟨fun b o e n hb hx=>?_,fun b o e n hb hx=>?_,I.base.free,fun b o e hx=>?_,I.base.tups,I.base.frzs,I.base.tbls⟩,⟨m,hn.sameBut hs (Ne.symm (cne x c hc)),fun j y v' e1 e2 e3=>?_⟩,fun y c' e=>?_,I.free,I.freeC,fun p hp=>?_,tracked ⟨oc,hoc,I.freeC x c hc⟩ hs,by simpa using I.len⟩ ⟨c,hs,.inr hc⟩
  ·exact (hs.2 b (ZC (Zu (Zs e) (I.ok.cab x c hfn hc)))).trans (I.base.keep b o e n hb hx)
  ·obtain ⟨sl,e1⟩:=I.base.slot b o e n hb hx;exact ⟨sl,(hs.2 b (ZC (Zu (Zs e) (I.ok.cab x c hfn hc)))).trans e1⟩
  ·obtain ⟨o',e1⟩:=I.base.there b o e hx;exact ⟨o',(hs.2 b (ZC (Zu (Zs e) (I.ok.cab x c hfn hc)))).trans e1⟩
  ·by_cases hj:j=i
   ·subst hj;rw [hi] at e1;cases e1;rw [YC hiσ] at e2;cases e2;exact ⟨u,r,.inr ⟨.inl hk,c,hc,hc'⟩⟩
   ·rw [ZJ (Ne.symm hj)] at e2;obtain ⟨u',r',q⟩:=hl j y v' e1 e2 e3;refine ⟨u',r',?_⟩;rcases q with q | ⟨k,c',e,z'⟩
    ·exact .inl q
    ·refine .inr ⟨k,c',e,z'.sameBut hs ?_⟩;rintro rfl;exact hj (qS hN e1 (I.ok.inj _ _ _ e hc ▸ hi))
  ·by_cases hcc:c'=c
   ·subst hcc;exact ⟨_,hc'⟩
   ·obtain ⟨w2,z2⟩:=I.cell y c' e;exact ⟨w2,z2.sameBut hs hcc⟩
  ·obtain ⟨e,n,ne,nf,d⟩:=I.pin p hp;refine ⟨(hs.2 p.1 ?_).trans e,n,ne,nf,d⟩;intro q;rw [q,hoc] at e;have q':oc=p.2:=Option.some.inj e;exact d w' (by rw [<-q'];exact hocd)
theorem cS {M:Model} {A:Around} {E:Value->Shared->Prop} {i:Nat} {x:Str} {v:V} {u:Value} {Q:Unit->Shared->Prop} (I:Inv X pins σ H s) (hN:X.N.Nodup) (hi:X.N[i]?=some x) (hx:Loc X.env.scope x) (r:aM v u)
  (h:∀ s',Inv X pins (σ.set i (some v)) H s'->Q () s') (hf:X.fn x=true\/X.env.scope.names.lookup x=some .local:=by first | exact .inl rfl | exact .inr rfl | assumption):wpAny M A (storeName X.env x u) Q E s:=
 n8 I hN hi hx r (fun s' I' _=>h s' I') hf
theorem Inv.call' {s':Shared} {ch:List Addr} (I:Inv X pins σ H s) (ho:s'.os=s.os) (u:Un (frs X.stack) ch H H' s.heap s'.heap) (hok:HOk X.prog X.w H' s'.heap) (hg:AllBare s'.gens)
  (hch:∀ b ∈ ch,(b ∈ X.ex\/X.s₀.heap.objs.size<=b)/\b ≠ X.env.locals/\(∀ x c,X.env.cells.lookup x=some c->c ≠ b)/\∀ p ∈ X.pn++pins,p.1 ≠ b):Inv X pins σ H' s':=by
 obtain ⟨h',g',d',t',o'⟩:=s';have e:o'=s.os:=ho;subst e;exact I.call (g':=g') (t':=t') (d':=d') u hok hg hch
end
noncomputable abbrev XK:=Value->Option Addr->Hp->Prop
noncomputable abbrev St:=List (Option V)
noncomputable abbrev VK:=V->Hp->Prop
noncomputable abbrev TE:=St->Hp->VK->Prop
noncomputable abbrev TT:=St->Hp->(Bool->Hp->Prop)->Prop
noncomputable abbrev TA:=St->Hp->(List V->Hp->Prop)->Prop
structure Ends where
 nx:St->Hp->Prop
 rt:VK
 bk:St->Hp->Prop:=fun _ _=>False
 ct:St->Hp->Prop:=fun _ _=>False
noncomputable abbrev TS:=Ends->St->Hp->Prop
noncomputable def EP (X:Cx) (pins:List (Addr × Obj)) (σ:St) (Q:VK) (u:Value) (s':Shared):Prop:=∃ v H',Inv X pins σ H' s'/\aM v u/\Q v H'
noncomputable def TP (X:Cx) (pins:List (Addr × Obj)) (σ:St) (Q:Bool->Hp->Prop) (b:Bool) (s':Shared):Prop:=∃ H',Inv X pins σ H' s'/\Q b H'
noncomputable def AP (X:Cx) (pins:List (Addr × Obj)) (σ:St) (Q:List V->Hp->Prop) (us:List Value) (s':Shared):Prop:=∃ vs H',Inv X pins σ H' s'/\aP vs us/\Q vs H'
noncomputable def SP (X:Cx) (pins:List (Addr × Obj)) (D:Ends) (f:Flow) (s':Shared):Prop:=
 match f with
 | .next=>∃ σ' H',Inv X pins σ' H' s'/\D.nx σ' H'
 | .brk=>∃ σ' H',Inv X pins σ' H' s'/\D.bk σ' H'
 | .cont=>∃ σ' H',Inv X pins σ' H' s'/\D.ct σ' H'
 | .ret u=>∃ v σ' H',Inv X pins σ' H' s'/\aM v u/\D.rt v H'
noncomputable def PE (X:Cx) (e:Expr) (t:TE):Prop:=
 ∀ (pins:List (Addr × Obj)) (s:Shared) (σ:St) (H:Hp) (Q:VK),Inv X pins σ H s->t σ H Q->wpAny (model X.prog X.w) X.A (eval e X.env) (EP X pins σ Q) X.xe s
noncomputable def PT (X:Cx) (e:Expr) (t:TT):Prop:=
 ∀ (pins:List (Addr × Obj)) (s:Shared) (σ:St) (H:Hp) (Q:Bool->Hp->Prop),Inv X pins σ H s->t σ H Q->wpAny (model X.prog X.w) X.A (isTrue e X.env (eval e X.env)) (TP X pins σ Q) X.xe s
noncomputable def PW (X:Cx) (e:Expr) (t:TT):Prop:=
 ∀ (whole:Sem Value) (pins:List (Addr × Obj)) (s:Shared) (σ:St) (H:Hp) (Q:Bool->Hp->Prop),Inv X pins σ H s->t σ H Q->wpAny (model X.prog X.w) X.A (isTrue e X.env whole) (TP X pins σ Q) X.xe s
theorem PW.pt {X:Cx} {e:Expr} {t:TT} (h:PW X e t):PT X e t:=h _
noncomputable def PA (X:Cx) (es:List Expr) (t:TA):Prop:=
 ∀ (pos:Pos) (pins:List (Addr × Obj)) (s:Shared) (σ:St) (H:Hp) (Q:List V->Hp->Prop),Inv X pins σ H s->t σ H Q->wpAny (model X.prog X.w) X.A (spliced (backTo pos (starEach es X.env))) (AP X pins σ Q) X.xe s
noncomputable def PS (X:Cx) (st:Stmt) (t:TS):Prop:=
 ∀ (pins:List (Addr × Obj)) (s:Shared) (σ:St) (H:Hp) (D:Ends),Inv X pins σ H s->t D σ H->wpAny (model X.prog X.w) X.A (exec st X.env) (SP X pins D) X.xe s
noncomputable def PSs (X:Cx) (st:List Stmt) (t:TS):Prop:=
 ∀ (pins:List (Addr × Obj)) (s:Shared) (σ:St) (H:Hp) (D:Ends),Inv X pins σ H s->t D σ H->wpAny (model X.prog X.w) X.A (execs st X.env) (SP X pins D) X.xe s
theorem thn {α:Type} {t:Sem α} {Q Q':α->Shared->Prop} {M:Model} {A:Around} {E:Value->Shared->Prop} {s:Shared} (h:wpAny M A t Q E s) (hQ:∀ a s,Q a s->Q' a s):wpAny M A t Q' E s:=wpAny_mono h hQ fun _ _ x=>x
end L2
namespace L2
open PySem PySem.Spec PyProof.Rows
section
variable {X:Cx}
theorem bin {a b:Expr} {ta tb:TE} (ha:PE X a ta) (hb:PE X b tb) {pins:List (Addr × Obj)} {s:Shared} {σ:St} {H:Hp} {R:V->V->Hp->Prop} (I:Inv X pins σ H s) (h:ta σ H fun x H1=>tb σ H1 fun y H2=>R x y H2)
  {α:Type} {Q:α->Shared->Prop} {f:Value->Value->Sem α}
  (hf:∀ v u s2 x y H2,Inv X pins σ H2 s2->aM x v->aM y u->R x y H2->wpAny (model X.prog X.w) X.A (f v u) Q X.xe s2) :
  wpAny (model X.prog X.w) X.A (eval a X.env) (fun v s₁=>wpAny (model X.prog X.w) X.A (eval b X.env) (fun u s₂=>wpAny (model X.prog X.w) X.A (f v u) Q X.xe s₂) X.xe s₁) X.xe s:=by
 refine thn (ha pins s σ H _ I h) fun v s1 ⟨x,H1,I1,r1,q1⟩=>?_;refine thn (hb pins s1 σ H1 _ I1 q1) fun u s2 ⟨y,H2,I2,r2,q2⟩=>?_;exact hf v u s2 x y H2 I2 r1 r2 q2
noncomputable def Lo (i:Nat):TE:=fun σ H Q=>∃ v,σ[i]?=some (some v)/\Q v H
noncomputable def tC (v:V):TE:=fun _ H Q=>Q v H
theorem GL {i:Nat} {x:Str} {pos:Pos} (hN:X.N[i]?=some x) (hv:Vis X.env.scope x) (hd:(x == ("__debug__" : Str))=false:=by decide) (hcd:(x == ("__classdict__" : Str))=false:=by decide):PE X (.Name x pos) (Lo i):=by
 intro pins s σ H Q I h;obtain ⟨v,e,h⟩:=h;obtain ⟨m,hn,hl⟩:=I.loc;obtain ⟨u,r,l⟩:=hl i x v hN e hv;have fin:EP X pins σ Q u s:=⟨v,H,I,r,h⟩;rcases l with ⟨hk,hm⟩ | ⟨hk,c,hc,hcell⟩
 ·exact wpAny_Name (wpAny_loadName_local I.ok.kind hk hn hm fin) hd
 ·rcases hk with hk | hk
  ·exact wpAny_Name (wpAny_loadName_cell I.ok.kind hk hc hcell fin) hd
  ·exact wpAny_Name (wpAny_loadName_free I.ok.kind hk hc hcell fin hcd) hd
theorem tz {i j pos}:PE X (.Constant (.int i) j pos) (tC (.int i)):=fun _ _ _ H _ I h=>wpAny_Constant_int ⟨.int i,H,I.tok _,⟨_,rfl⟩,h⟩
theorem Lp {b j pos}:PE X (.Constant (.bool b) j pos) (tC (.bl b)):=fun _ _ _ H _ I h=>Constant_bool ⟨.bl b,H,I,rfl,h⟩
theorem GM {j pos}:PE X (.Constant .none j pos) (tC .non):=fun _ _ _ H _ I h=>Constant_none ⟨.non,H,I,rfl,h⟩
theorem GN {x j pos}:PE X (.Constant (.str x) j pos) (tC (.str x)):=fun _ _ _ H _ I h=>Calls.Constant_str ⟨.str x,H,I.tok _,⟨_,rfl⟩,h⟩
noncomputable def Gl (X:Cx) (x:Str):Prop:=X.env.kindOf x=some .globalImplicit
theorem vk {E:Value->Shared->Prop} {pins:List (Addr × Obj)} {s:Shared} {σ:St} {H:Hp} {x:Str} {u:Value} {pos:Pos} {Q:Value->Shared->Prop} (I:Inv X pins σ H s) (hg:Gl X x) (hm:X.mg x=some u) (h:Q u s)
  (hd:(x == ("__debug__" : Str))=false:=by decide):wpAny (model X.prog X.w) X.A (eval (.Name x pos) X.env) Q E s:=
 Calls.Name_function_global I.ok.kind hg (Calls.loadGlobal_global (by rw [I.ok.glob];exact I.mod.glob.keeps I.bk) hm h) hd
theorem iz {E:Value->Shared->Prop} {pins:List (Addr × Obj)} {s:Shared} {σ:St} {H:Hp} {x:Str} {u:Value} {pos:Pos} {Q:Value->Shared->Prop} (I:Inv X pins σ H s) (hg:Gl X x) (hm:X.mg x=none) (hv:bootBuiltins x=some u) (h:Q u s)
  (hn:x ≠ "__name__" := by decide) (hd:(x == ("__debug__" : Str))=false:=by decide):wpAny (model X.prog X.w) X.A (eval (.Name x pos) X.env) Q E s:=by
 obtain ⟨mb,h1,h2⟩:=I.mod.blt;exact Calls.Name_function_global I.ok.kind hg (Calls.loadGlobal_builtin (by rw [I.ok.glob];exact I.mod.glob.keeps I.bk) hm (by rw [I.ok.blt];exact h1.keeps I.bk) ((h2 x hn).trans hv) h) hd
theorem Cb {x:Str} {v:V} {u:Value} {pos:Pos} (hg:Gl X x) (hm:X.mg x=some u) (r:aM v u) (hd:(x == ("__debug__" : Str))=false:=by decide):PE X (.Name x pos) (tC v):=
 fun _ _ _ H _ I h=>vk I hg hm ⟨v,H,I,r,h⟩ hd
theorem iX {x:Str} {v:V} {u:Value} {pos:Pos} (hg:Gl X x) (hm:X.mg x=none) (hv:bootBuiltins x=some u) (r:aM v u) (hn:x ≠ "__name__" := by decide) (hd:(x == ("__debug__" : Str))=false:=by decide):PE X (.Name x pos) (tC v):=
 fun _ _ _ H _ I h=>iz I hg hm hv ⟨v,H,I,r,h⟩ hn hd
variable {a b:Expr} {ta tb:TE} {pos:Pos}
variable {tA tB':TT} {rest:List Expr}
noncomputable def Lq (t u:TT):TT:=fun σ H Q=>t σ H fun c H1=>if c=true then u σ H1 Q else Q false H1
noncomputable def tOr (t u:TT):TT:=fun σ H Q=>t σ H fun c H1=>if c=true then Q true H1 else u σ H1 Q
noncomputable def Lr (t:TT):TT:=fun σ H Q=>t σ H fun c H1=>Q (!c) H1
theorem Cc (ha:PT X a tA):PW X (.BoolOp .And [a] pos) tA:=by
 intro wh pins s σ H Q I h;refine isTrue_and (thn (ha pins s σ H Q I h) fun c s1 e=>?_);cases c with
 | true=>exact isTrue_and_nil e
 | false=>exact e
theorem GO (ha:PT X a tA):PW X (.BoolOp .Or [a] pos) tA:=by
 intro wh pins s σ H Q I h;refine isTrue_or (thn (ha pins s σ H Q I h) fun c s1 e=>?_);cases c with
 | false=>exact isTrue_or_nil e
 | true=>exact e
theorem yD (ha:PT X a tA) (hb:PW X (.BoolOp .And (b::rest) pos) tB'):PW X (.BoolOp .And (a::b::rest) pos) (Lq tA tB'):=by
 intro wh pins s σ H Q I h;refine isTrue_and (thn (ha pins s σ H _ I h) fun c s1 ⟨H1,I1,q1⟩=>?_);cases c with
 | true=>exact hb wh pins s1 σ H1 Q I1 q1
 | false=>exact ⟨H1,I1,q1⟩
theorem FG (ha:PT X a tA) (hb:PW X (.BoolOp .Or (b::rest) pos) tB'):PW X (.BoolOp .Or (a::b::rest) pos) (tOr tA tB'):=by
 intro wh pins s σ H Q I h;refine isTrue_or (thn (ha pins s σ H _ I h) fun c s1 ⟨H1,I1,q1⟩=>?_);cases c with
 | true=>exact ⟨H1,I1,q1⟩
 | false=>exact hb wh pins s1 σ H1 Q I1 q1
theorem GP (ha:PT X a tA):PT X (.UnaryOp .Not a pos) (Lr tA):=by
 intro pins s σ H Q I h;exact isTrue_not (ha pins s σ H (fun c H1=>Q (!c) H1) I h)
noncomputable def FH (ta tb:TE):TE:=fun σ H Q=>ta σ H fun x H1=>∃ c,x = .bl c/\if c=true then tb σ H1 Q else Q (.bl false) H1
noncomputable def Ls (ta tb:TE):TE:=fun σ H Q=>ta σ H fun x H1=>∃ c,x = .bl c/\if c=true then Q (.bl true) H1 else tb σ H1 Q
noncomputable def FI (ta:TE):TE:=fun σ H Q=>ta σ H fun x H1=>∃ c,x = .bl c/\Q (.bl (!c)) H1
theorem yE {op} {t:TE} (h:PE X a t):PE X (.BoolOp op [a] pos) t:=fun pins s σ H Q I hw=>BoolOp_one (h pins s σ H Q I hw)
theorem yF (ha:PE X a ta) (hb:PE X (.BoolOp .And (b::rest) pos) tb):PE X (.BoolOp .And (a::b::rest) pos) (FH ta tb):=by
 intro pins s σ H Q I h;refine BoolOp_and (thn (ha pins s σ H _ I h) fun v s1 ⟨x,H1,I1,r1,q1⟩=>?_);obtain ⟨c,rfl,q1⟩:=q1;cases r1;refine wpAny_truthy_bool ?_;cases c with
 | true=>exact hb pins s1 σ H1 Q I1 q1
 | false=>exact ⟨.bl false,H1,I1,rfl,q1⟩
theorem FJ (ha:PE X a ta) (hb:PE X (.BoolOp .Or (b::rest) pos) tb):PE X (.BoolOp .Or (a::b::rest) pos) (Ls ta tb):=by
 intro pins s σ H Q I h;refine BoolOp_or (thn (ha pins s σ H _ I h) fun v s1 ⟨x,H1,I1,r1,q1⟩=>?_);obtain ⟨c,rfl,q1⟩:=q1;cases r1;refine wpAny_truthy_bool ?_;cases c with
 | false=>exact hb pins s1 σ H1 Q I1 q1
 | true=>exact ⟨.bl true,H1,I1,rfl,q1⟩
theorem GQ (ha:PE X a ta):PE X (.UnaryOp .Not a pos) (FI ta):=by
 intro pins s σ H Q I h;refine UnaryOp_ (thn (ha pins s σ H _ I h) fun v s1 ⟨x,H1,I1,r1,q1⟩=>?_);obtain ⟨c,rfl,q1⟩:=q1;cases r1;exact not_of (wpAny_truthy_bool ⟨.bl (!c),H1,I1,rfl,q1⟩)
end
end L2
namespace L2
open PySem PySem.Spec PyProof.Rows
noncomputable def SqL (K:PySem.W.Frag) (H:Hp) (a:Addr) (xs:List V):Prop:=
 Rd H a (.lst xs) ∨
  ∃ (o:Obj) (its:Array Value) (n:Nat),K.lookup a=some o/\o.cls = .type "list"/\o.dict=none/\o.data = .seq its n/\its.size<=sizeLine/\aP xs its.toList
noncomputable def SqT (K:PySem.W.Frag) (H:Hp) (a:Addr) (xs:List V):Prop:=
 Rd H a (.tup xs) ∨
  ∃ (o:Obj) (its:Array Value) (n:Nat),K.lookup a=some o/\o.cls = .type "tuple"/\o.data = .seq its n/\its.size<=sizeLine/\aP xs its.toList
noncomputable def Od:Value->Option V
 | .none=>some .non
 | .bool b=>some (.bl b)
 | .int i _=>some (.int i)
 | .str x _=>some (.str x)
 | .bytes b _=>some (.byt b)
 | .float b _=>some (.flt b)
 | .ref a=>some (.ref a)
 | .type n=>some (.ty n)
 | _=>none
theorem aM.abs {x:V} {u:Value} (r:aM x u):Od u=some x:=by
 cases x with
 | non=>cases r;rfl
 | bl _=>cases r;rfl
 | int _=>obtain ⟨t,rfl⟩:=r;rfl
 | str _=>obtain ⟨t,rfl⟩:=r;rfl
 | byt _=>obtain ⟨t,rfl⟩:=r;rfl
 | flt _=>obtain ⟨t,rfl⟩:=r;rfl
 | ref _=>cases r;rfl
 | ty _=>cases r;rfl
theorem aM.inj {x y:V} {u:Value} (r:aM x u) (q:aM y u):x=y:=Option.some.inj (r.abs.symm.trans q.abs)
theorem aP.inj:∀ {xs ys:List V} {us:List Value},aP xs us->aP ys us->xs=ys
 | _,_,_,.nil,.nil=>rfl
 | _,_,_,.cons r t,.cons r' t'=>by rw [r.inj r',aP.inj t t']
section
variable {X:Cx} {pins:List (Addr × Obj)} {σ:St} {H:Hp} {s:Shared} {a:Addr} {xs ys:List V}
theorem SqL.of {K:PySem.W.Frag} (h:H a=some (.lst xs)):SqL K H a xs:=.inl (.inl h)
theorem SqT.of {K:PySem.W.Frag} (h:H a=some (.tup xs)):SqT K H a xs:=.inl (.inl h)
theorem Inv.list (I:Inv X pins σ H s) (h:SqL X.K H a xs):∃ its:List Value,aP xs its/\PlainL s.heap a its.toArray/\xs.length<=sizeLine:=by
 rcases h with h | ⟨o,its,n,hk,hc,hd,hs,hz,r⟩
 ·obtain ⟨z,its,n,r,e⟩:=h.ok I.hok;exact ⟨its,r,⟨_,n,e,rfl,rfl,rfl⟩,z⟩
 ·refine ⟨its.toList,r,⟨o,n,I.kIn a o hk,hc,hd,by simpa using hs⟩,?_⟩;have e:=r.length;simp only [ZN] at e;omega
theorem Inv.tuple (I:Inv X pins σ H s) (h:SqT X.K H a xs):∃ its:List Value,aP xs its/\IsTup s.heap a its.toArray/\xs.length<=sizeLine:=by
 rcases h with h | ⟨o,its,n,hk,hc,hs,hz,r⟩
 ·obtain ⟨z,its,r,p⟩:=h.ok I.hok;exact ⟨its,r,p.isTup,z⟩
 ·refine ⟨its.toList,r,⟨o,I.kIn a o hk,hc,n,by simpa using hs⟩,?_⟩;have e:=r.length;simp only [ZN] at e;omega
theorem Inv.list_inj (I:Inv X pins σ H s) (h:SqL X.K H a xs) (h':SqL X.K H a ys):xs=ys:=by
 obtain ⟨its,r,⟨o,n,e,_,_,d⟩,_⟩:=I.list h;obtain ⟨its',r',⟨o',n',e',_,_,d'⟩,_⟩:=I.list h';rw [e] at e';cases e';rw [d] at d';injection d' with d1 _;have:its=its':=by simpa using congrArg Array.toList d1
 subst this;exact r.inj r'
theorem Inv.tuple_inj (I:Inv X pins σ H s) (h:SqT X.K H a xs) (h':SqT X.K H a ys):xs=ys:=by
 obtain ⟨its,r,⟨o,e,_,n,d⟩,_⟩:=I.tuple h;obtain ⟨its',r',⟨o',e',_,n',d'⟩,_⟩:=I.tuple h';rw [e] at e';cases e';rw [d] at d';injection d' with d1 _;have:its=its':=by simpa using congrArg Array.toList d1
 subst this;exact r.inj r'
end
noncomputable abbrev Cx.wish (X:Cx) (E:Value->Shared->Prop):Cx:={ X with xe:=E }
noncomputable abbrev Cx.nox (X:Cx):Cx:=X.wish fun _ _=>False
theorem Cx.Ok.wish {X:Cx} (ok:X.Ok) (E:Value->Shared->Prop):(X.wish E).Ok:=
 ⟨ok.mod,ok.kind,ok.glob,ok.blt,ok.above,ok.inj,ok.has,ok.cab,ok.hd,ok.frames,ok.stk,ok.exf,ok.bs,ok.bsz,ok.noex,ok.exfs,ok.funs,ok.frf⟩
theorem Cx.Ok.unwish {X:Cx} {E:Value->Shared->Prop} (ok:(X.wish E).Ok):X.Ok:=
 ⟨ok.mod,ok.kind,ok.glob,ok.blt,ok.above,ok.inj,ok.has,ok.cab,ok.hd,ok.frames,ok.stk,ok.exf,ok.bs,ok.bsz,ok.noex,ok.exfs,ok.funs,ok.frf⟩
section
variable {X:Cx} {pins:List (Addr × Obj)} {σ:St} {H:Hp} {s:Shared} {E:Value->Shared->Prop}
theorem Inv.wish (I:Inv X pins σ H s) (E:Value->Shared->Prop):Inv (X.wish E) pins σ H s:=⟨I.ok.wish E,I.os,I.bare,I.base,I.loc,I.cell,I.free,I.freeC,I.pin,I.hok,I.len⟩
theorem Inv.unwish (I:Inv (X.wish E) pins σ H s):Inv X pins σ H s:=⟨I.ok.unwish,I.os,I.bare,I.base,I.loc,I.cell,I.free,I.freeC,I.pin,I.hok,I.len⟩
theorem SP.unwish {D:Ends} {f:Flow} {s':Shared} (h:SP (X.wish E) pins D f s'):SP X pins D f s':=by
 cases f with
 | next=>obtain ⟨σ',H',I,q⟩:=h;exact ⟨σ',H',I.unwish,q⟩
 | brk=>obtain ⟨σ',H',I,q⟩:=h;exact ⟨σ',H',I.unwish,q⟩
 | cont=>obtain ⟨σ',H',I,q⟩:=h;exact ⟨σ',H',I.unwish,q⟩
 | ret u=>obtain ⟨v,σ',H',I,r,q⟩:=h;exact ⟨v,σ',H',I.unwish,r,q⟩
theorem PSs.nox {st:List Stmt} {t:TS} (h:PSs X.nox st t):PSs X st t:=fun pins s σ H D I hw=>
 wpAny_mono (h pins s σ H D (I.wish _) hw) (fun _ _ q=>q.unwish) fun _ _ z=>False.elim z
end
section
variable {X:Cx} {st:Stmt} {rest:List Stmt} {t u:TS} {e:Expr} {te:TE} {pos:Pos}
noncomputable def FK:TS:=fun D σ H=>D.nx σ H
noncomputable def Lu (t u:TS):TS:=fun D σ H=>t { D with nx:=u D } σ H
theorem Cd:PSs X [] FK:=fun _ _ σ H _ I h=>wpAny_execs_nil ⟨σ,H,I,h⟩
theorem yG (h1:PS X st t) (h2:PSs X rest u):PSs X (st::rest) (Lu t u):=by
 intro pins s σ H D I h;refine wpAny_execs_cons (thn (h1 pins s σ H { D with nx:=u D } I h) fun f s1 q=>?_);cases f with
 | next=>
  obtain ⟨σ',H',I',q⟩:=q;exact h2 pins s1 σ' H' D I' q
 | ret v=>exact q
 | brk=>exact q
 | cont=>exact q
noncomputable def FL:TS:=fun D σ H=>D.ct σ H
theorem qT:PS X (.Continue pos) FL:=fun _ _ σ H _ I h=>wpAny_Continue ⟨σ,H,I,h⟩
theorem Inv.quiet {pins:List (Addr × Obj)} {σ:St} {H:Hp} {s:Shared} (I:Inv X pins σ H s):interactive X.env=false:=by simp [interactive,I.ok.kind]
noncomputable def FM (te:TE):TS:=fun D σ H=>te σ H fun _ H1=>D.nx σ H1
theorem Ce (he:PE X e te) (hs:swapsWith e none pos.line X.env=pure false:=by rfl):PS X (.Expr e pos) (FM te):=by
 intro pins s σ H D I h;exact wpAny_Expr_any (thn (he pins s σ H _ I h) fun v s1 ⟨x,H1,I1,r1,q1⟩=>⟨σ,H1,I1,q1⟩) I.quiet hs
noncomputable def Lv (te:TE):TS:=fun D σ H=>te σ H D.rt
theorem GR (he:PE X e te):PS X (.Return (some e) pos) (Lv te):=by
 intro pins s σ H D I h;exact wpAny_Return_some (thn (he pins s σ H _ I h) fun v s1 ⟨x,H1,I1,r1,q1⟩=>⟨x,σ,H1,I1,r1,q1⟩)
noncomputable def Lx (c:TT) (t u:TS):TS:=fun D σ H=>c σ H fun b H1=>if b=true then t D σ H1 else u D σ H1
theorem Ly {c:Expr} {a b:List Stmt} {tc:TT} (hc:PT X c tc) (ha:PSs X a t) (hb:PSs X b u):PS X (.If c a b pos) (Lx tc t u):=by
 intro pins s σ H D I h;refine wpAny_If (thn (hc pins s σ H _ I h) fun d s1 ⟨H1,I1,q1⟩=>?_);cases d with
 | true=>exact ha pins s1 σ H1 D I1 q1
 | false=>exact hb pins s1 σ H1 D I1 q1
noncomputable def GS:TS:=fun _ _ _=>False
theorem yH:PS X st GS:=fun _ _ _ _ _ _ h=>h.elim
end
noncomputable abbrev TG:=V->St->Hp->(St->Hp->Prop)->Prop
noncomputable abbrev TGs:=List V->St->Hp->(St->Hp->Prop)->Prop
noncomputable def PG (X:Cx) (target:Expr) (t:TG):Prop:=
 ∀ (pins:List (Addr × Obj)) (s:Shared) (σ:St) (H:Hp) (v:V) (u:Value) (Q:St->Hp->Prop),Inv X pins σ H s->aM v u->t v σ H Q ->
  wpAny (model X.prog X.w) X.A (assign target X.env u) (fun _ s'=>∃ σ' H',Inv X pins σ' H' s'/\Q σ' H') X.xe s
noncomputable def PGs (X:Cx) (ts:List Expr) (t:TGs):Prop:=
 ∀ (pins:List (Addr × Obj)) (s:Shared) (σ:St) (H:Hp) (vs:List V) (us:List Value) (Q:St->Hp->Prop),Inv X pins σ H s->aP vs us->t vs σ H Q ->
  wpAny (model X.prog X.w) X.A (assignInOrder ((assignEach ts X.env).map (·.2)) us) (fun _ s'=>∃ σ' H',Inv X pins σ' H' s'/\Q σ' H') X.xe s
noncomputable abbrev Cf:=V->V->V->Hp->(Hp->Prop)->Prop
noncomputable def GU (X:Cx) (t:Cf):Prop:=
 ∀ (pins:List (Addr × Obj)) (s:Shared) (σ:St) (H:Hp) (o i v:V) (ov iv u:Value) (Q:Hp->Prop),Inv X pins σ H s->aM o ov->aM i iv->aM v u->t o i v H Q ->
  wpAny (model X.prog X.w) X.A (setItem ov iv u) (fun _ s'=>∃ H',Inv X pins σ H' s'/\Q H') X.xe s
section
variable {X:Cx} {pos:Pos}
noncomputable def qU (i:Nat):TG:=fun v σ H Q=>Q (σ.set i (some v)) H
theorem Cg {i:Nat} {x:Str} (hN:X.N.Nodup) (hi:X.N[i]?=some x) (hx:Loc X.env.scope x) (hf:X.fn x=true\/X.env.scope.names.lookup x=some .local:=by first | exact .inl rfl | exact .inr rfl | assumption):PG X (.Name x pos) (qU i):=by
 intro pins s σ H v u Q I r h;exact wpAny_assign_Name (cS I hN hi hx r (fun s' I'=>⟨_,H,I',h⟩) hf)
noncomputable def GV:TGs:=fun vs σ H Q=>vs=[]/\Q σ H
noncomputable def vm (t:TG) (u:TGs):TGs:=fun vs σ H Q=>∃ v r,vs=v::r/\t v σ H fun σ' H'=>u r σ' H' Q
theorem vn:PGs X [] GV:=by
 intro pins s σ H vs us Q I r h;obtain ⟨e,h⟩:=h;subst e;cases r;exact assignInOrder_nil ⟨σ,H,I,h⟩
theorem lU {e:Expr} {es:List Expr} {t:TG} {u:TGs} (h1:PG X e t) (h2:PGs X es u)
  (hs:(assignEach (e::es) X.env).map (·.2)=assign e X.env::(assignEach es X.env).map (·.2):=by rfl):PGs X (e::es) (vm t u):=by
 intro pins s σ H vs us Q I r h;obtain ⟨v,vr,e1,h⟩:=h;subst e1;cases r with
 | cons r rr=>
  rw [hs];refine assignInOrder_cons (thn (h1 pins s σ H _ _ _ I r h) fun _ s1 ⟨σ1,H1,I1,q1⟩=>?_);exact h2 pins s1 σ1 H1 _ _ Q I1 rr q1
noncomputable def GW (K:PySem.W.Frag) (n:Nat) (t:TGs):TG:=fun v σ H Q=>∃ a xs,v = .ref a/\SqT K H a xs/\xs.length=n/\t xs σ H Q
theorem yI {es:List Expr} {k:Nat} {t:TGs} {n:Nat} (hc:X.calm=true) (h:PGs X es t)
  (hn:(assignEach es X.env).length=n:=by rfl) (hst:(assignEach es X.env).findIdx? (·.1)=none:=by rfl):PG X (.Tuple es k pos) (GW X.K n t):=by
 intro pins s σ H v u Q I r hw;obtain ⟨a,xs,e1,hq,hl,hw⟩:=hw;subst e1;cases r;obtain ⟨its,rv,ht,hz⟩:=I.tuple hq;refine assign_Tuple_tuple (I.ok.hd hc) ht (by simp [hn,<-hl,rv.length]) hst fun h' hx=>?_;have I1:Inv X pins σ H { s with heap:=h' }:=I.kept (t':=s.toks) fun b o e=>hx b o (ZC (Zs e)) e;exact h pins _ σ H xs _ Q I1 (by simpa using rv) hw
noncomputable def yJ (to ti:TE) (t:Cf):TG:=fun v σ H Q=>to σ H fun o H1=>ti σ H1 fun i H2=>t o i v H2 fun H3=>Q σ H3
theorem tD {o i:Expr} {to ti:TE} {t:Cf} (ho:PE X o to) (hi:PE X i ti) (hs:GU X t)
  (ha:∀ v,assign (.Subscript o i pos) X.env v=(do
   let ov <-holding [v] (eval o X.env)
   let iv <-holding [v,ov] (eval i X.env)
   standAt pos
   holding [v,ov,iv] (setItem ov iv v)
   release [v,ov,iv] []):=by intro _;rfl):PG X (.Subscript o i pos) (yJ to ti t):=by
 intro pins s σ H v u Q I r h;rw [ha];refine wpAny_bind (wpAny_holding (thn (ho pins s σ H _ I h) fun ov s1 ⟨x,H1,I1,r1,q1⟩=>?_));refine wpAny_bind (wpAny_holding (thn (hi pins s1 σ H1 _ I1 q1) fun iv s2 ⟨y,H2,I2,r2,q2⟩=>?_));refine wpAny_bind (wpAny_standAt (wpAny_bind (wpAny_holding (thn (hs pins s2 σ H2 x y v ov iv u _ I2 r1 r2 r q2) fun _ s3 ⟨H3,I3,q3⟩=>?_))));exact wpAny_release ⟨σ,H3,I3,q3⟩
noncomputable def wW (te:TE) (g:TG):TS:=fun D σ H=>te σ H fun x H1=>g x σ H1 D.nx
theorem tF {tg e:Expr} {te:TE} {g:TG} (he:PE X e te) (hg:PG X tg g) (hs:swapsWithSole [tg] e pos.line X.env=pure false:=by rfl) (hw:swappedStores [tg] e X.env=pure none:=by rfl)
  (h1:(assignEach [tg] X.env).map (·.2)=[assign tg X.env]:=by rfl):PS X (.Assign [tg] e pos) (wW te g):=by
 intro pins s σ H D I h;refine wpAny_Assign_stores (thn (he pins s σ H _ I h) fun v s1 ⟨x,H1,I1,r1,q1⟩=>?_) hs hw;rw [h1];exact thn (hg pins s1 σ H1 x v _ I1 r1 q1) fun _ s2 q=>q
theorem GX {i:Nat} {x:Str} {e:Expr} {te:TE} {pos':Pos} (hN:X.N.Nodup) (hi:X.N[i]?=some x) (hx:Loc X.env.scope x) (he:PE X e te) (hs:swapsWith e (some (.Name x pos')) pos.line X.env=pure false:=by rfl) (hf:X.fn x=true\/X.env.scope.names.lookup x=some .local:=by first | exact .inl rfl | exact .inr rfl | assumption) :
  PS X (.Assign [.Name x pos'] e pos) (wW te (qU i)):=by
 intro pins s σ H D I h;refine wpAny_Assign_Name (thn (he pins s σ H _ I h) fun v s1 ⟨y,H1,I1,r1,q1⟩=>?_) hs;exact cS I1 hN hi hx r1 (fun s2 I2=>⟨_,H1,I2,q1⟩) hf
noncomputable def Lz (i j:Nat) (ta:TA):TS:=fun D σ H=>ta σ H fun vs H1=>∃ v w,vs=[v,w]/\D.nx ((σ.set i (some v)).set j (some w)) H1
theorem GY {i j:Nat} {x y:Str} {a b:Expr} {ta:TA} {px py pt:Pos} {kt k2 pt2} (hc:X.calm=true) (hN:X.N.Nodup) (hi:X.N[i]?=some x) (hj:X.N[j]?=some y) (hij:i ≠ j)
  (hx:X.env.scope.names.lookup x=some .local) (hy:X.env.scope.names.lookup y=some .local) (ha:PA X [a,b] ta)
  (hw:swappedStores [.Tuple [.Name x px,.Name y py] kt pt] (.Tuple [a,b] k2 pt2) X.env=pure (some [x,y]))
  (hs:swapsWithSole [.Tuple [.Name x px,.Name y py] kt pt] (.Tuple [a,b] k2 pt2) pos.line X.env=pure false:=by rfl) :
  PS X (.Assign [.Tuple [.Name x px,.Name y py] kt pt] (.Tuple [a,b] k2 pt2) pos) (Lz i j ta):=by
 intro pins s σ H D I h;rw [exec_Assign_arm];refine wpAny_bind (wpAny_standAt ?_);rw [hs];refine wpAny_bind (wpAny_pure ?_);rw [if_neg (by decide)];refine wpAny_bind (Tuple_ (thn (ha _ pins s σ H _ I h) fun us s1 ⟨vs,H1,I1,r1,q1⟩=>?_));obtain ⟨v,w,e1,q1⟩:=q1;subst e1
 obtain ⟨u1,u2,rfl,rv,rw'⟩:∃ u1 u2,us=[u1,u2]/\aM v u1/\aM w u2:=by
  cases r1 with
  | cons p q=>
   cases q with
   | cons p' q'=>
    cases q';exact ⟨_,_,rfl,p,p'⟩
 refine wpAny_newObj_type ?_ (by show 2<=sizeLine;decide);have I2:Inv X pins σ H1 { s1 with heap:=s1.heap.push { cls:=.type "tuple", data:=.seq [u1,u2].toArray } }:=I1.kept (t':=s1.toks) fun b o e=>Zh _ e;rw [hw];refine wpAny_bind (wpAny_pure ?_);show wpAny (model X.prog X.w) X.A (do rule "assign.swapped-stores"; let items <-unpackItems (.ref s1.heap.objs.size) 2 none;assignInOrder [fun v=>bindName X.env y v,fun v=>bindName X.env x v] items.reverse;pure Flow.next) _ _ _;refine wpAny_bind (wpAny_rule (wpAny_bind (unpackItems_tuple (items:=#[u1,u2]) (I.ok.hd hc) (IsTup.new s1.heap _) fun h' hx'=>?_)));have I3:=I2.kept (h':=h') (t':=s1.toks) fun b o e=>hx' b o (ZC (Zs e)) e;show wpAny _ _ (assignInOrder [fun v=>bindName X.env y v,fun v=>bindName X.env x v] [u2,u1] >>= fun _=>pure Flow.next) _ _ _;refine wpAny_bind (assignInOrder_cons (wpAny_bindName (cS I3 hN hj (.inl hy) rw' (fun s2 I4=>?_) (.inr hy))));refine assignInOrder_cons (wpAny_bindName (cS I4 hN hi (.inl hx) rv (fun s3 I5=>assignInOrder_nil (wpAny_pure ?_)) (.inr hx)));rw [YT _ _ (Ne.symm hij)] at I5;exact ⟨_,H1,I5,q1⟩
end
structure It where
 go:Nat->Hp->Prop
 yld:Nat->Hp->V->Hp->Prop
 stop:Nat->Hp->Prop
noncomputable def gX (X:Cx) (pins:List (Addr × Obj)) (H:Hp) (b:Addr):Prop:=
 H b=none/\b ≠ X.env.locals/\b ∉ X.fs/\(b ∈ X.ex\/X.s₀.heap.objs.size<=b)/\(∀ x c,X.env.cells.lookup x=some c->c ≠ b)/\∀ p ∈ X.pn++pins,p.1 ≠ b
theorem Inv.fpOk {X:Cx} {pins:List (Addr × Obj)} {σ:St} {H H':Hp} {s:Shared} {b:Addr} (I:Inv X pins σ H s) (hb:s.heap.objs.size<=b) (hn:H' b=none):gX X pins H' b:=by
 refine ⟨hn,Xj (Zu I.lt hb),I.nofs hb,.inr (Zv I.sz hb),fun x c e z=>?_,fun p hp z=>?_⟩
 ·obtain ⟨v,q⟩:=I.cell x c e;exact absurd (Zu q.lt (by rw [z];exact hb)) (ZQ _)
 ·exact absurd (Zu (Zs (I.pin p hp).1) (by rw [z];exact hb)) (ZQ _)
structure Turn (P:Program) (w:World) (K:PySem.W.Frag) (tg:Expr) (J:It) (fp:List Addr) (it:Addr) (tn:Nat->Heap->Prop):Prop where
 mem:it ∈ fp
 obj:∀ i h,tn i h->∀ b ∈ fp,∃ o,h.get? b=some o/\∀ v,o.data ≠ .cell v
 keep:∀ i h h',tn i h->(∀ b ∈ fp,∀ o,h.get? b=some o->h'.get? b=some o)->tn i h'
 item:∀ (X:Cx),X.prog=P->X.w=w->X.K=K->X.calm=true->∀ (i:Nat) (pins:List (Addr × Obj)) (s:Shared) (σ:St) (H:Hp) (E:Value->Shared->Prop),Inv X pins σ H s->(∀ b ∈ fp,gX X pins H b)->tn i s.heap->J.go i H ->
  wpAny (model P w) X.A (pyNext (.ref it)) (fun r s1=>∃ u,r=some u ∧
   wpAny (model P w) X.A (letOwnedTupleGo tg (.ref it) u) (fun _ s2=>∃ x H',Inv X pins σ H' s2/\aM x u/\J.yld i H x H'/\tn (i+1) s2.heap/\∀ b ∈ fp,H' b=none) E s1) E s
 done:∀ (X:Cx),X.prog=P->X.w=w->X.K=K->X.calm=true->∀ (i:Nat) (pins:List (Addr × Obj)) (s:Shared) (σ:St) (H:Hp) (E:Value->Shared->Prop),Inv X pins σ H s->(∀ b ∈ fp,gX X pins H b)->tn i s.heap->J.stop i H ->
  wpAny (model P w) X.A (pyNext (.ref it)) (fun r s1=>r=none/\Inv X pins σ H s1) E s
 self:∀ (A:Around) (i:Nat) (s:Shared) (Q:Value->Shared->Prop) (E:Value->Shared->Prop),tn i s.heap->Q (.ref it) s->wpAny (model P w) A (pyIter (.ref it)) Q E s
noncomputable abbrev TI:=St->Hp->(It->Hp->Prop)->Prop
noncomputable def PIE (X:Cx) (pins:List (Addr × Obj)) (σ:St) (tg:Expr) (R:It->Hp->Prop) (itv:Value) (s2:Shared):Prop:=
 ∃ (it:Addr) (fp:List Addr) (tn:Nat->Heap->Prop) (J:It) (H':Hp),itv = .ref it/\Inv X pins σ H' s2/\Turn X.prog X.w X.K tg J fp it tn/\tn 0 s2.heap/\(∀ b ∈ fp,gX X pins H' b)/\R J H'
noncomputable def PI (X:Cx) (tg iter:Expr) (wi:TI):Prop:=
 ∀ (pins:List (Addr × Obj)) (s:Shared) (σ:St) (H:Hp) (R:It->Hp->Prop),Inv X pins σ H s->wi σ H R ->
  wpAny (model X.prog X.w) X.A (eval iter X.env) (fun v s1=>wpAny (model X.prog X.w) X.A (pyIter v) (PIE X pins σ tg R) X.xe s1) X.xe s
theorem yK {M:Model} {A:Around} {E:Value->Shared->Prop} {s:Shared} {tg:Expr} {it:Addr} {u:Value} {o:Obj} {n:String} {vs:Array Value} {Q:Unit->Shared->Prop} (ho:s.heap.get? it=some o) (hc:o.cls = .type n) (hd:o.data = .fields vs)
  (hn:["enumerate", "zip", "dict_itemiterator", "dict_reverseitemiterator", "odict_iterator", "itertools.zip_longest", "itertools.pairwise"].contains n=false) (hQ:Q () s):wpAny M A (letOwnedTupleGo tg (.ref it) u) Q E s:=by
 unfold letOwnedTupleGo
 cases tg <;> first
  | exact wpAny_pure hQ
  | (cases u <;> first
    | exact wpAny_pure hQ
    | (refine wpAny_bind (wpAny_load ho ?_)
       rw [hc,hd];show wpAny M A (if (["enumerate", "zip", "dict_itemiterator", "dict_reverseitemiterator", "odict_iterator", "itertools.zip_longest", "itertools.pairwise"].contains n && vs[0]? == some (rawInt _))=true then _ else _) Q E s;rw [if_neg (by intro h;rw [hn,ZX] at h;cases h)];exact wpAny_pure hQ))
noncomputable def Itl (K:PySem.W.Frag) (a:Addr):It:=
 ⟨fun i H=>∃ xs x,SqL K H a xs/\xs[i]?=some x,fun i H x H'=>H'=H/\∀ xs,SqL K H a xs->xs[i]?=some x,fun i H=>∃ xs,SqL K H a xs/\xs.length<=i⟩
noncomputable def Itt (K:PySem.W.Frag) (a:Addr):It:=
 ⟨fun i H=>∃ xs x,SqT K H a xs/\xs[i]?=some x,fun i H x H'=>H'=H/\∀ xs,SqT K H a xs->xs[i]?=some x,fun i H=>∃ xs,SqT K H a xs/\xs.length<=i⟩
noncomputable def Itr (lo:Int) (n:Nat):It:=⟨fun i _=>i < n,fun i H x H'=>H'=H/\x = .int (lo+i),fun i _=>n<=i⟩
theorem wX {P:Program} {w:World} {K:PySem.W.Frag} {tg:Expr} (a it:Addr):Turn P w K tg (Itl K a) [it] it (fun i h=>h.IsListIter it a i) where
 mem:=by simp
 obj:=fun i h st b hb=>by
  have e:b=it:=by simpa using hb
  subst e;obtain ⟨o,e,c,d⟩:=st;exact ⟨o,e,fun v z=>by rw [d] at z;cases z⟩
 keep:=fun i h h' st k=>st.at fun o e=>k it (by simp) o e
 item:=by
  intro X hP hw hK hc i pins s σ H E I hf st hg;subst hP hw hK;obtain ⟨xs,x,hq,hx⟩:=hg;obtain ⟨its,rv,p,hz⟩:=I.list hq;obtain ⟨u,hu,ru⟩:=rv.get hx;obtain ⟨f0,f1,f2,f3,f4,f5⟩:=hf it (by simp);refine wpAny_pyNext_list_item st p.isList (x:=u) (by simpa using hu) fun h' st' sb=>?_;have I1:Inv X pins σ H { s with heap:=h' }:=I.turned (t':=s.toks) (fun b o hb e=>(sb.2 b hb).trans e) f0 f1 f3 f4 f5;obtain ⟨o,e,c,d⟩:=id st';exact ⟨u,rfl,yK (s:={ s with heap:=h' }) e c d (by decide) ⟨x,H,I1,ru,⟨rfl,fun ys hy=>by rw [I.list_inj hy hq];exact hx⟩,st',fun b hb=>(hf b hb).1⟩⟩
 done:=by
  intro X hP hw hK hc i pins s σ H E I hf st hg;subst hP hw hK;obtain ⟨xs,hq,hx⟩:=hg;obtain ⟨its,rv,p,hz⟩:=I.list hq;obtain ⟨f0,f1,f2,f3,f4,f5⟩:=hf it (by simp);have hl:=rv.length;exact wpAny_pyNext_list_end (I.ok.hd hc) st p.isList (by simp;omega) fun h' eb=>⟨rfl,I.turned (t':=s.toks) (fun b o hb e=>eb b o hb e) f0 f1 f3 f4 f5⟩
 self:=fun _ _ _ _ _ st h=>wpAny_pyIter_listiter st h
theorem tG {P:Program} {w:World} {K:PySem.W.Frag} {tg:Expr} (a it:Addr):Turn P w K tg (Itt K a) [it] it (fun i h=>h.IsTupleIter it a i) where
 mem:=by simp
 obj:=fun i h st b hb=>by
  have e:b=it:=by simpa using hb
  subst e;obtain ⟨o,e,c,d⟩:=st;exact ⟨o,e,fun v z=>by rw [d] at z;cases z⟩
 keep:=fun i h h' st k=>st.at fun o e=>k it (by simp) o e
 item:=by
  intro X hP hw hK hc i pins s σ H E I hf st hg;subst hP hw hK;obtain ⟨xs,x,hq,hx⟩:=hg;obtain ⟨its,rv,p,hz⟩:=I.tuple hq;obtain ⟨u,hu,ru⟩:=rv.get hx;obtain ⟨f0,f1,f2,f3,f4,f5⟩:=hf it (by simp);refine wpAny_pyNext_tuple_item st (show s.heap.IsTuple a its.toArray from p) (x:=u) (by simpa using hu) fun h' st' sb=>?_;have I1:Inv X pins σ H { s with heap:=h' }:=I.turned (t':=s.toks) (fun b o hb e=>(sb.2 b hb).trans e) f0 f1 f3 f4 f5;obtain ⟨o,e,c,d⟩:=id st';exact ⟨u,rfl,yK (s:={ s with heap:=h' }) e c d (by decide) ⟨x,H,I1,ru,⟨rfl,fun ys hy=>by rw [I.tuple_inj hy hq];exact hx⟩,st',fun b hb=>(hf b hb).1⟩⟩
 done:=by
  intro X hP hw hK hc i pins s σ H E I hf st hg;subst hP hw hK;obtain ⟨xs,hq,hx⟩:=hg;obtain ⟨its,rv,p,hz⟩:=I.tuple hq;obtain ⟨f0,f1,f2,f3,f4,f5⟩:=hf it (by simp);have hl:=rv.length;exact wpAny_pyNext_tuple_end (I.ok.hd hc) st (show s.heap.IsTuple a its.toArray from p) (by simp;omega) fun h' eb=>⟨rfl,I.turned (t':=s.toks) (fun b o hb e=>eb b o hb e) f0 f1 f3 f4 f5⟩
 self:=fun _ _ _ _ _ st h=>wpAny_pyIter_tupleiter st h
theorem tH {P:Program} {w:World} {K:PySem.W.Frag} {tg:Expr} (it:Addr) (lo:Int) (n:Nat):Turn P w K tg (Itr lo n) [it] it (fun i h=>IsRangeIter h it (lo+(i:Nat) * 1) ((n:Int) - (i:Nat)) 1) where
 mem:=by simp
 obj:=fun i h st b hb=>by
  have e:b=it:=by simpa using hb
  subst e
  exact ⟨_,st,fun v z=>by
   have z':Data.fields _=Data.cell v:=z;cases z'⟩
 keep:=fun i h h' st k=>k it (by simp) _ st
 item:=by
  intro X hP hw hK hc i pins s σ H E I hf st hg;subst hP hw hK;obtain ⟨f0,f1,f2,f3,f4,f5⟩:=hf it (by simp);have W:=Walks.range (prog:=X.prog) (w:=X.w) (I.ok.hd hc) it lo 1 n;refine W.item i s _ _ hg st fun v h' tk hv st' kk=>?_;obtain ⟨t,rfl⟩:=hv;have I1:Inv X pins σ H { s with heap:=h',toks:=tk }:=I.turned (fun b o hb e=>kk b o (by simpa using hb) e) f0 f1 f3 f4 f5;refine ⟨_,rfl,yK (s:={ s with heap:=h',toks:=tk }) (n := "range_iterator") st' rfl rfl (by decide) ⟨.int (lo+i),H,I1,⟨t,?_⟩,⟨rfl,rfl⟩,st',fun b hb=>(hf b hb).1⟩⟩;rw [Int.mul_one]
 done:=by
  intro X hP hw hK hc i pins s σ H E I hf st hg;subst hP hw hK;obtain ⟨f0,f1,f2,f3,f4,f5⟩:=hf it (by simp);exact wpAny_pyNext_range_end (I.ok.hd hc) st (by have:n<=i:=hg;omega) fun h' eb=>⟨rfl,I.turned (t':=s.toks) (fun b o hb e=>eb b o hb e) f0 f1 f3 f4 f5⟩
 self:=fun _ _ _ _ _ st h=>wpAny_pyIter_rangeiter st h
end L2
namespace L2
open PySem PySem.Spec PyProof.Rows
section
variable {X:Cx} {tg:Expr}
noncomputable def yL (K:PySem.W.Frag) (tl:TE):TI:=fun σ H R=>tl σ H fun x H1=>∃ a,x = .ref a/\(∃ xs,SqL K H1 a xs)/\R (Itl K a) H1
noncomputable def LA (K:PySem.W.Frag) (tl:TE):TI:=fun σ H R=>tl σ H fun x H1=>∃ a,x = .ref a/\(∃ xs,SqT K H1 a xs)/\R (Itt K a) H1
theorem vo {l:Expr} {tl:TE} (hl:PE X l tl):PI X tg l (yL X.K tl):=by
 intro pins s σ H R I h;refine thn (hl pins s σ H _ I h) fun v s1 ⟨x,H1,I1,r1,q1⟩=>?_;obtain ⟨a,e,⟨xs,hq⟩,q⟩:=q1;subst e;cases r1;obtain ⟨its,rv,p,hz⟩:=I1.list hq;refine wpAny_pyIter_list p.isList ?_;refine ⟨s1.heap.objs.size,[s1.heap.objs.size],_,_,H1,rfl,I1.kept (t':=s1.toks) fun b o e=>Zh _ e,wX a _,⟨_,ZH _ rfl,rfl,rfl⟩,fun b hb=>?_,q⟩;have e:b=s1.heap.objs.size:=by simpa using hb
 subst e;exact I1.fpOk (Zd _) (I1.hok.fresh (Zd _))
theorem GZ {l:Expr} {tl:TE} (hl:PE X l tl):PI X tg l (LA X.K tl):=by
 intro pins s σ H R I h;refine thn (hl pins s σ H _ I h) fun v s1 ⟨x,H1,I1,r1,q1⟩=>?_;obtain ⟨a,e,⟨xs,hq⟩,q⟩:=q1;subst e;cases r1;obtain ⟨its,rv,p,hz⟩:=I1.tuple hq;refine wpAny_pyIter_tuple (show s1.heap.IsTuple a its.toArray from p) ?_;refine ⟨s1.heap.objs.size,[s1.heap.objs.size],_,_,H1,rfl,I1.kept (t':=s1.toks) fun b o e=>Zh _ e,tG a _,⟨_,ZH _ rfl,rfl,rfl⟩,fun b hb=>?_,q⟩;have e:b=s1.heap.objs.size:=by simpa using hb
 subst e;exact I1.fpOk (Zd _) (I1.hok.fresh (Zd _))
theorem qV {pins:List (Addr × Obj)} {σ:St} {H:Hp} {s:Shared} {R:It->Hp->Prop} {E:Value->Shared->Prop} {lo hi:Int} {t u v:Tok} {tk:Nat} (I:Inv X pins σ H s) (h1:-(2 ^ 62)<=lo) (h2:lo < 2 ^ 62) (h3:-(2 ^ 62)<=hi) (h4:hi < 2 ^ 62)
  (q:R (Itr lo (hi - lo).toNat) H):wpAny (model X.prog X.w) X.A (pyIter (.ref s.heap.objs.size)) (PIE X pins σ tg R) E { s with heap:=s.heap.push { cls:=.type "range", data:=.fields #[.int lo t,.int hi u,.int 1 v] },toks:=tk }:=by
 refine wpAny_pyIter_range (IsRange.new ..) (small_one h1 h2 h3 h4) ?_;have I1:Inv X pins σ H { s with heap:=s.heap.push { cls:=.type "range", data:=.fields #[.int lo t,.int hi u,.int 1 v] },toks:=tk }:=I.kept fun b o e=>Zh _ e
 refine ⟨(s.heap.push { cls:=.type "range", data:=.fields #[.int lo t,.int hi u,.int 1 v] }).objs.size,[(s.heap.push { cls:=.type "range", data:=.fields #[.int lo t,.int hi u,.int 1 v] }).objs.size],_,_,H,rfl,
  I1.kept (t':=tk) fun b o e=>Zh _ e,tH _ lo (hi - lo).toNat,?_,fun b hb=>?_,q⟩
 ·have e1:lo+((0:Nat):Int) * 1=lo:=by simp
  have e2:(((hi - lo).toNat:Nat):Int) - ((0:Nat):Int)=Builtin.Range.rangeSize lo hi 1:=by rw [rangeSize_one];split <;> omega
  show IsRangeIter _ _ (lo+((0:Nat):Int) * 1) ((((hi - lo).toNat:Nat):Int) - ((0:Nat):Int)) 1;rw [e1,e2];exact ZH _ rfl
 ·have e:b=(s.heap.push { cls:=.type "range", data:=.fields #[.int lo t,.int hi u,.int 1 v] }).objs.size:=by simpa using hb
  subst e;exact I1.fpOk (Zd _) (I1.hok.fresh (Zd _))
noncomputable def FN (ta:TA):TI:=fun σ H R=>ta σ H fun vs H1=>∃ j:Int,vs=[.int j]/\-(2 ^ 62)<=j/\j < 2 ^ 62/\R (Itr 0 j.toNat) H1
noncomputable def FO (ta:TA):TI:=fun σ H R=>ta σ H fun vs H1=>∃ i j:Int,vs=[.int i,.int j]/\(-(2 ^ 62)<=i/\i < 2 ^ 62/\-(2 ^ 62)<=j/\j < 2 ^ 62)/\R (Itr i (j - i).toNat) H1
theorem wY {a:Expr} {ta:TA} {p pos:Pos} (hg:Gl X "range") (hm:X.mg "range" = none) (ha:PA X [a] ta) (hs:starEach [a] X.env=[(false,eval a X.env)]:=by rfl):PI X tg (.Call (.Name "range" p) [a] [] pos) (FN ta):=by
 intro pins s σ H R I h;refine Call_ (iz I hg hm boot_range (PyProof.Rows.callWith_type1 (thn (ha pos pins s σ H _ I h) fun us s1 ⟨vs,H1,I1,r1,q1⟩=>?_) hs rfl));obtain ⟨j,e,q1,q2,q⟩:=q1;subst e;cases r1 with
 | cons r rr=>
  cases rr;obtain ⟨t,rfl⟩:=r;exact call_range_1 (qV I1 (by omega) (by omega) q1 q2 (by simpa using q))
theorem wZ {a b:Expr} {ta:TA} {p pos:Pos} (hg:Gl X "range") (hm:X.mg "range" = none) (ha:PA X [a,b] ta) (hs:starEach [a,b] X.env=[(false,eval a X.env),(false,eval b X.env)]:=by rfl) (hs2:starEach [b] X.env=[(false,eval b X.env)]:=by rfl) :
  PI X tg (.Call (.Name "range" p) [a,b] [] pos) (FO ta):=by
 intro pins s σ H R I h;refine Call_ (iz I hg hm boot_range (PyProof.Rows.callWith_type1 (thn (ha pos pins s σ H _ I h) fun us s1 ⟨vs,H1,I1,r1,q1⟩=>?_) (by rw [hs,hs2]) (by rw [hs2];rfl)));obtain ⟨i,j,e,⟨q1,q2,q3,q4⟩,q⟩:=q1;subst e;cases r1 with
 | cons r rr=>
  cases rr with
  | cons r' rr=>
   cases rr;obtain ⟨t,rfl⟩:=r;obtain ⟨t',rfl⟩:=r';exact call_range_2 (qV I1 q1 q2 q3 q4 q)
noncomputable def LB (wi:TI) (g:TG) (tb:TS):TS:=fun D σ H=>wi σ H fun J H1=>∃ W:Nat->Nat->St->Hp->Prop,(∃ m,W 0 m σ H1)/\∀ i m σ H,W i m σ H ->
 (J.stop i H/\D.nx σ H)\/(J.go i H/\∃ N:St->Hp->Prop,(∀ σ' H',N σ' H'->∃ m',m' < m/\W (i+1) m' σ' H')/\∀ x H',J.yld i H x H'->g x σ H' fun σ2 H2=>tb { D with nx:=N,ct:=N,bk:=D.nx } σ2 H2)
noncomputable def lV (fp:List Addr) (h:Heap):List (Addr × Obj):=fp.filterMap fun b=>(h.get? b).map fun o=>(b,o)
theorem eN {fp:List Addr} {h:Heap} {b:Addr} {o:Obj} (hb:b ∈ fp) (e:h.get? b=some o):(b,o) ∈ lV fp h:=Xh.mpr ⟨b,hb,by rw [e];rfl⟩
theorem w9 {fp:List Addr} {h:Heap} {p:Addr × Obj} (hp:p ∈ lV fp h):p.1 ∈ fp/\h.get? p.1=some p.2:=by
 obtain ⟨b,hb,e⟩:=Xh.mp hp;cases q:h.get? b with
 | none=>rw [q] at e;cases e
 | some o=>
  rw [q] at e;have e':(b,o)=p:=Option.some.inj e;subst e';exact ⟨hb,q⟩
theorem Inv.pinned {pins:List (Addr × Obj)} {σ:St} {H:Hp} {s:Shared} {fp:List Addr} (I:Inv X pins σ H s) (hf:∀ b ∈ fp,gX X pins H b) (ho:∀ b ∈ fp,∃ o,s.heap.get? b=some o/\∀ v,o.data ≠ .cell v):Inv X (pins++lV fp s.heap) σ H s:=
 I.pins_of fun p hp=>(ZK.mp hp).elim (fun z=>I.pin p (ZE _ z)) fun z=>by
  obtain ⟨hb,e⟩:=w9 z;obtain ⟨f0,f1,f2,_⟩:=hf p.1 hb;obtain ⟨o,e',d⟩:=ho p.1 hb;rw [e] at e';cases e';exact ⟨e,f0,f1,f2,d⟩
theorem Inv.unpinned {pins pl:List (Addr × Obj)} {σ:St} {H:Hp} {s:Shared} (I:Inv X (pins++pl) σ H s):Inv X pins σ H s:=I.pins_of fun p hp=>I.pin p (ZE _ (YH _ hp))
theorem G0 {iter:Expr} {body:List Stmt} {wi:TI} {g:TG} {tb:TS} {pos:Pos} (hp:PassesOwn (model X.prog X.w) X.A X.env X.xe) (hc:X.calm=true) (hi:PI X tg iter wi) (hg:PG X tg g) (hb:PSs X body tb)
  (hs:∀ x,foldedSetIterable iter X.env x=pure x:=by intro _;rfl):PS X (.For tg iter body [] pos) (LB wi g tb):=by
 intro pins s σ H D I h;refine wpAny_For (thn (hi pins s σ H _ I h) fun v s1 h1=>thn h1 fun itv s2 h2=>?_) hs;obtain ⟨it,fp,tn,J,H2,e,I2,T,st2,f2,W,⟨m0,w0⟩,turn⟩:=h2;subst e;have stat:∀ {H':Hp},(∀ b ∈ fp,H' b=none)->∀ b ∈ fp,gX X pins H' b:=fun hn b hb=>⟨hn b hb,(f2 b hb).2⟩;refine codeAny_forLoop_any (fun n s'=>∃ i σ' H',Inv X pins σ' H' s'/\tn i s'.heap/\(∀ b ∈ fp,H' b=none)/\W i n σ' H') ?_ m0 ⟨0,σ,H2,I2,st2,fun b hb=>(f2 b hb).1,w0⟩;rintro n s3 ⟨i,σ3,H3,I3,st3,fr3,w3⟩;rcases turn i n σ3 H3 w3 with ⟨stop,qn⟩ | ⟨go,N,hN,step⟩
 ·refine wpAny_passesOwn hp (thn (T.done X rfl rfl rfl hc i pins s3 σ3 H3 X.xe I3 (stat fr3) st3 stop) fun r s4 ⟨hr,I4⟩=>?_);subst hr;exact wpAny_execs_nil ⟨σ3,H3,I4,qn⟩
 ·refine wpAny_passesOwn hp (thn (T.item X rfl rfl rfl hc i pins s3 σ3 H3 X.xe I3 (stat fr3) st3 go) fun r s4 ⟨u,hr,h4⟩=>?_);subst hr;refine wpAny_passesOwn hp (thn h4 fun _ s5 ⟨x,H5,I5,r5,y5,st5,fr5⟩=>?_);have I5':=I5.pinned (stat fr5) (T.obj _ _ st5);refine wpAny_passesOwn hp (thn (hg _ s5 σ3 H5 x u _ I5' r5 (step x H5 y5)) fun _ s6 ⟨σ6,H6,I6,q6⟩=>?_);refine wpAny_passesOwn hp (thn (hb _ s6 σ6 H6 _ I6 q6) fun f s7 q7=>?_)
  have again:∀ {σ7:St} {H7:Hp},Inv X (pins++lV fp s5.heap) σ7 H7 s7->N σ7 H7->∃ m,m < n/\∃ i σ' H',Inv X pins σ' H' s7/\tn i s7.heap/\(∀ b ∈ fp,H' b=none)/\W i m σ' H':=fun {σ7 H7} I7 n7=>by
   obtain ⟨m',hm,w7⟩:=hN σ7 H7 n7;refine ⟨m',hm,i+1,σ7,H7,I7.unpinned,T.keep _ _ _ st5 fun b hb o e=>(I7.pin (b,o) (ZE _ (ZE _ (eN hb e)))).1,fun b hb=>?_,w7⟩;obtain ⟨o,e,d⟩:=T.obj _ _ st5 b hb;exact (I7.pin (b,o) (ZE _ (ZE _ (eN hb e)))).2.1
  cases f with
  | next=>obtain ⟨σ7,H7,I7,n7⟩:=q7;exact again I7 n7
  | cont=>obtain ⟨σ7,H7,I7,n7⟩:=q7;exact again I7 n7
  | brk=>obtain ⟨σ7,H7,I7,q7⟩:=q7;exact ⟨σ7,H7,I7.unpinned,q7⟩
  | ret v=>obtain ⟨x7,σ7,H7,I7,r7,q7⟩:=q7;exact ⟨x7,σ7,H7,I7.unpinned,r7,q7⟩
end
end L2
namespace L2
open PySem PySem.Spec PyProof.Rows
noncomputable abbrev R2:=V->V->Hp->VK->Prop
noncomputable def OpR (X:Cx) (f:Value->Value->Sem Value) (r:R2):Prop:=
 ∀ (pins:List (Addr × Obj)) (s:Shared) (σ:St) (H:Hp) (x y:V) (v u:Value) (Q:VK),Inv X pins σ H s->aM x v->aM y u->r x y H Q ->
  wpAny (model X.prog X.w) X.A (f v u) (EP X pins σ Q) X.xe s
noncomputable def UnR (X:Cx) (f:Value->Sem Value) (r:V->Hp->VK->Prop):Prop:=
 ∀ (pins:List (Addr × Obj)) (s:Shared) (σ:St) (H:Hp) (x:V) (v:Value) (Q:VK),Inv X pins σ H s->aM x v->r x H Q ->
  wpAny (model X.prog X.w) X.A (f v) (EP X pins σ Q) X.xe s
noncomputable def aR (X:Cx) (f:Value) (r:List V->Hp->VK->Prop):Prop:=
 ∀ (pins:List (Addr × Obj)) (s:Shared) (σ:St) (H:Hp) (xs:List V) (us:List Value) (Q:VK),Inv X pins σ H s->aP xs us->r xs H Q ->
  wpAny (model X.prog X.w) X.A (call f us) (EP X pins σ Q) X.xe s
noncomputable def Oe (X:Cx) (r:V->Hp->(Bool->Hp->Prop)->Prop):Prop:=
 ∀ (pins:List (Addr × Obj)) (s:Shared) (σ:St) (H:Hp) (x:V) (v:Value) (Q:Bool->Hp->Prop),Inv X pins σ H s->aM x v->r x H Q ->
  wpAny (model X.prog X.w) X.A (truthy v) (TP X pins σ Q) X.xe s
noncomputable def tOp (r:R2) (ta tb:TE):TE:=fun σ H Q=>ta σ H fun x H1=>tb σ H1 fun y H2=>r x y H2 Q
noncomputable def tUn (r:V->Hp->VK->Prop) (ta:TE):TE:=fun σ H Q=>ta σ H fun x H1=>r x H1 Q
noncomputable def rI (C:Int->Int->Prop) (g:Int->Int->V):R2:=fun x y H Q=>∃ i j,x = .int i/\y = .int j/\C i j/\Q (g i j) H
noncomputable def rI0 (g:Int->Int->V):R2:=fun x y H Q=>∃ i j,x = .int i/\y = .int j/\Q (g i j) H
noncomputable def rU (g:Int->V):V->Hp->VK->Prop:=fun x H Q=>∃ i,x = .int i/\Q (g i) H
section
variable {X:Cx} {a b c:Expr} {ta tb tc:TE} {pos:Pos}
theorem G1 (ha:PE X a ta) (hb:PE X b tb) {pins:List (Addr × Obj)} {s:Shared} {σ:St} {H:Hp} {R:V->V->Hp->Prop} (I:Inv X pins σ H s)
  (h:ta σ H fun x H1=>tb σ H1 fun y H2=>R x y H2) {Q:Value->Shared->Prop} {f:Value->Value->Sem Value}
  (hf:∀ v u s2 x y H2,Inv X pins σ H2 s2->aM x v->aM y u->R x y H2->wpAny (model X.prog X.w) X.A (f v u) Q X.xe s2) :
  wpAny (model X.prog X.w) X.A (eval a X.env) (fun v s₁=>wpAny (model X.prog X.w) X.A (eval b X.env) (fun u s₂=>wpAny (model X.prog X.w) X.A (f v u) Q X.xe s₂) X.xe s₁) X.xe s:=by
 refine thn (ha pins s σ H _ I h) fun v s1 ⟨x,H1,I1,r1,q1⟩=>?_;refine thn (hb pins s1 σ H1 _ I1 q1) fun u s2 ⟨y,H2,I2,r2,q2⟩=>?_;exact hf v u s2 x y H2 I2 r1 r2 q2
theorem LC {op:Operator} {r:R2} (ho:OpR X (binaryOp op) r) (ha:PE X a ta) (hb:PE X b tb):PE X (.BinOp a op b pos) (tOp r ta tb):=by
 intro pins s σ H Q I h;exact wpAny_BinOp (G1 ha hb I h fun v u s2 x y H2 I2 rx ry q=>ho pins s2 σ H2 x y v u Q I2 rx ry q)
theorem LD {op:UnaryOp} {r:V->Hp->VK->Prop} (ho:UnR X (unaryOp op) r) (ha:PE X a ta):PE X (.UnaryOp op a pos) (tUn r ta):=by
 intro pins s σ H Q I h;exact UnaryOp_ (thn (ha pins s σ H _ I h) fun v s1 ⟨x,H1,I1,r1,q1⟩=>ho pins s1 σ H1 x v Q I1 r1 q1)
theorem opI {f:Value->Value->Sem Value} {C:Int->Int->Prop} {g:Int->Int->Int}
  (rule:∀ (i j:Int) (t u:Tok) (s:Shared) (Q:Value->Shared->Prop) (E:Value->Shared->Prop),C i j->Q (.int (g i j) s.toks) { s with toks:=s.toks+1 }->wpAny (model X.prog X.w) X.A (f (.int i t) (.int j u)) Q E s) :
  OpR X f (rI C fun i j=>.int (g i j)):=by
 intro pins s σ H x y v u Q I rx ry h;obtain ⟨i,j,rfl,rfl,hc,q⟩:=h;obtain ⟨t,rfl⟩:=rx;obtain ⟨t',rfl⟩:=ry;exact rule i j t t' s _ _ hc ⟨.int (g i j),H,I.tok _,⟨_,rfl⟩,q⟩
theorem LG {f:Value->Value->Sem Value} {g:Int->Int->Int}
  (rule:∀ (i j:Int) (t u:Tok) (s:Shared) (Q:Value->Shared->Prop) (E:Value->Shared->Prop),Q (.int (g i j) s.toks) { s with toks:=s.toks+1 }->wpAny (model X.prog X.w) X.A (f (.int i t) (.int j u)) Q E s) :
  OpR X f (rI0 fun i j=>.int (g i j)):=by
 intro pins s σ H x y v u Q I rx ry h;obtain ⟨i,j,rfl,rfl,q⟩:=h;obtain ⟨t,rfl⟩:=rx;obtain ⟨t',rfl⟩:=ry;exact rule i j t t' s _ _ ⟨.int (g i j),H,I.tok _,⟨_,rfl⟩,q⟩
theorem Ch {f:Value->Value->Sem Value} {g:Int->Int->Bool}
  (rule:∀ (i j:Int) (t u:Tok) (s:Shared) (Q:Value->Shared->Prop) (E:Value->Shared->Prop),Q (.bool (g i j)) s->wpAny (model X.prog X.w) X.A (f (.int i t) (.int j u)) Q E s) :
  OpR X f (rI0 fun i j=>.bl (g i j)):=by
 intro pins s σ H x y v u Q I rx ry h;obtain ⟨i,j,rfl,rfl,q⟩:=h;obtain ⟨t,rfl⟩:=rx;obtain ⟨t',rfl⟩:=ry;exact rule i j t t' s _ _ ⟨.bl (g i j),H,I,rfl,q⟩
noncomputable def Og (i j:Int):Prop:=0 < j/\j < 1073741824
noncomputable def Oh (i j:Int):Prop:=0<=j/\j<=1000000/\i.natAbs < 2 ^ 64
noncomputable def LH (i j:Int):Prop:=(-(2 ^ 64) < i/\i < 2 ^ 64)\/(-(2 ^ 64) < j/\j < 2 ^ 64)
theorem LH.ok {i j:Int} (h:LH i j):IntMulOk i j:=by
 rcases h with ⟨h1,h2⟩ | ⟨h1,h2⟩
 ·exact .of_left (intBits_le_64 h1 h2)
 ·exact .of_right (intBits_le_64 h1 h2)
theorem G2:OpR X (binaryOp .Add) (rI0 fun i j=>.int (i+j)):=LG fun _ _ _ _ _ _ _ q=>add_int q
theorem G3:OpR X (binaryOp .Sub) (rI0 fun i j=>.int (i - j)):=LG fun _ _ _ _ _ _ _ q=>sub_int q
theorem G4:OpR X (binaryOp .Mult) (rI LH fun i j=>.int (i * j)):=opI fun _ _ _ _ _ _ _ hc q=>mul_int q hc.ok
theorem Ci:OpR X (binaryOp .FloorDiv) (rI Og fun i j=>.int (i / j)):=opI fun i j _ _ _ _ _ hc q=>by
 have h1:(0:Int) < j:=hc.1;have h2:j < 1073741824:=hc.2;exact floordiv_int (by omega) (by rw [Int.fdiv_eq_ediv_of_nonneg i (by omega)];exact q) (.inl (PyProof.noPylong_small (by omega)))
theorem G5:OpR X (binaryOp .Mod) (rI (fun _ j=>0 < j) fun i j=>.int (i % j)):=opI fun i j _ _ _ _ _ hc q=>by
 have h1:(0:Int) < j:=hc;exact mod_int' (by omega) (by rw [Int.fmod_eq_emod_of_nonneg i (by omega)];exact q)
theorem G6:OpR X (binaryOp .Pow) (rI Oh fun i j=>.int (i ^ j.toNat)):=opI fun _ _ _ _ _ _ _ hc q=>pow_int_small hc.1 hc.2.1 hc.2.2 q
theorem unI {f:Value->Sem Value} {g:Int->Int}
  (rule:∀ (i:Int) (t:Tok) (s:Shared) (Q:Value->Shared->Prop) (E:Value->Shared->Prop),Q (.int (g i) s.toks) { s with toks:=s.toks+1 }->wpAny (model X.prog X.w) X.A (f (.int i t)) Q E s) :
  UnR X f (rU fun i=>.int (g i)):=by
 intro pins s σ H x v Q I rx h;obtain ⟨i,rfl,q⟩:=h;obtain ⟨t,rfl⟩:=rx;exact rule i t s _ _ ⟨.int (g i),H,I.tok _,⟨_,rfl⟩,q⟩
theorem G7:UnR X (unaryOp .USub) (rU fun i=>.int (-i)):=unI fun _ _ _ _ _ q=>neg_int q
end
section
variable {X:Cx} {a b c:Expr} {ta tb tc:TE} {pos:Pos}
theorem yM {pins:List (Addr × Obj)} {σ:St} {H:Hp} {s:Shared} {Q:VK} {k k':Bool} (I:Inv X pins σ H s) (q:Q (.bl k) H) (e:k=k'):EP X pins σ Q (.bool k') s:=by
 subst e;exact ⟨.bl k,H,I,rfl,q⟩
theorem LI:OpR X (compareOp .Lt) (rI0 fun i j=>.bl (decide (i < j))):=Ch fun _ _ _ _ _ _ _ q=>lt_int q
theorem LJ:OpR X (compareOp .LtE) (rI0 fun i j=>.bl (decide (i<=j))):=Ch fun _ _ _ _ _ _ _ q=>le_int q
theorem LK:OpR X (compareOp .Gt) (rI0 fun i j=>.bl (decide (j < i))):=Ch fun _ _ _ _ _ _ _ q=>gt_int q
theorem LL:OpR X (compareOp .GtE) (rI0 fun i j=>.bl (decide (j<=i))):=Ch fun _ _ _ _ _ _ _ q=>ge_int q
theorem G8:OpR X (compareOp .Is) (fun x y H Q=>y = .non/\Q (.bl (decide (x = .non))) H):=by
 intro pins s σ H x y v u Q I rx ry h;obtain ⟨rfl,q⟩:=h;cases ry;refine is_none_gen (yM I q ?_)
 cases x <;> first
  | (cases rx;rfl)
  | (obtain ⟨t,rfl⟩:=rx;rfl)
theorem Cj:OpR X (compareOp .IsNot) (fun x y H Q=>y = .non/\Q (.bl (!decide (x = .non))) H):=by
 intro pins s σ H x y v u Q I rx ry h;obtain ⟨rfl,q⟩:=h;cases ry;refine isnot_none_gen (yM I q ?_)
 cases x <;> first
  | (cases rx;rfl)
  | (obtain ⟨t,rfl⟩:=rx;rfl)
theorem Ck {op:CmpOp} {r:R2} (ho:OpR X (compareOp op) r) (ha:PE X a ta) (hb:PE X b tb) (hm:behindInMarks op b=false):PE X (.Compare a [op] [b] pos) (tOp r ta tb):=by
 intro pins s σ H Q I h;exact wpAny_Compare1 (G1 ha hb I h fun v u s2 x y H2 I2 rx ry q=>ho pins s2 σ H2 x y v u Q I2 rx ry q) hm
noncomputable def FP (t:TE):TT:=fun σ H Q=>t σ H fun x H'=>∃ k,x = .bl k/\Q k H'
theorem Cm {op:CmpOp} {r:R2} (ho:OpR X (compareOp op) r) (ha:PE X a ta) (hb:PE X b tb) (hm:behindInMarks op b=false):PT X (.Compare a [op] [b] pos) (FP (tOp r ta tb)):=by
 intro pins s σ H Q I h
 refine wpAny_isTrue_Compare1 (thn (ha pins s σ H _ I h) fun v s1 ⟨x,H1,I1,r1,q1⟩=>thn (hb pins s1 σ H1 _ I1 q1) fun u s2 ⟨y,H2,I2,r2,q2⟩=>
  thn (ho pins s2 σ H2 x y v u _ I2 r1 r2 q2) fun c s3 ⟨z,H3,I3,r3,k,e,q3⟩=>?_) hm
 subst e;cases r3;exact wpAny_truthy_bool ⟨H3,I3,q3⟩
noncomputable def tI (r r':R2) (ta tb tc:TE):TE:=fun σ H Q=>ta σ H fun x H1=>tb σ H1 fun y H2=>r x y H2 fun z H3=>∃ k,z = .bl k ∧
 (if k=true then tc σ H3 fun w' H4=>r' y w' H4 Q else Q (.bl false) H3)
theorem yN {op op':CmpOp} {r r':R2} (ho:OpR X (compareOp op) r) (ho':OpR X (compareOp op') r') (ha:PE X a ta) (hb:PE X b tb) (hc:PE X c tc)
  (hm:lastMarks [op,op'] [b,c]=false:=by with_unfolding_all rfl):PE X (.Compare a [op,op'] [b,c] pos) (tI r r' ta tb tc):=by
 intro pins s σ H Q I h
 refine Compare_chain (thn (ha pins s σ H _ I h) fun v s1 ⟨x,H1,I1,r1,q1⟩=>chain_link (thn (hb pins s1 σ H1 _ I1 q1) fun u s2 ⟨y,H2,I2,r2,q2⟩=>
  thn (ho pins s2 σ H2 x y v u _ I2 r1 r2 q2) fun d s3 ⟨z,H3,I3,r3,k,e,q3⟩=>?_)) hm
 subst e;cases r3;refine wpAny_truthy_bool ?_;cases k with
 | false=>exact ite_ff ⟨.bl false,H3,I3,rfl,q3⟩
 | true=>exact ite_tt (chain_last (thn (hc pins s3 σ H3 _ I3 q3) fun w' s4 ⟨z',H4,I4,r4,q4⟩=>ho' pins s4 σ H4 y z' u w' Q I4 r2 r4 q4))
theorem yO {op op':CmpOp} {r r':R2} (ho:OpR X (compareOp op) r) (ho':OpR X (compareOp op') r') (ha:PE X a ta) (hb:PE X b tb) (hc:PE X c tc)
  (hm:lastMarks [op,op'] [b,c]=false:=by with_unfolding_all rfl):PT X (.Compare a [op,op'] [b,c] pos) (FP (tI r r' ta tb tc)):=by
 intro pins s σ H Q I h
 refine isTrue_chain (thn (ha pins s σ H _ I h) fun v s1 ⟨x,H1,I1,r1,q1⟩=>test_link (thn (hb pins s1 σ H1 _ I1 q1) fun u s2 ⟨y,H2,I2,r2,q2⟩=>
  thn (ho pins s2 σ H2 x y v u _ I2 r1 r2 q2) fun d s3 ⟨z,H3,I3,r3,k,e,q3⟩=>?_)) hm
 subst e;cases r3;refine wpAny_truthy_bool ?_;cases k with
 | false=>
  obtain ⟨k',e',q'⟩:=q3;cases e';exact ite_ff ⟨H3,I3,q'⟩
 | true=>
  refine ite_tt (test_last (thn (hc pins s3 σ H3 _ I3 q3) fun w' s4 ⟨z',H4,I4,r4,q4⟩=>thn (ho' pins s4 σ H4 y z' u w' _ I4 r2 r4 q4) fun d' s5 ⟨z2,H5,I5,r5,k2,e2,q5⟩=>?_));subst e2;cases r5;exact wpAny_truthy_bool ⟨H5,I5,q5⟩
noncomputable def Cn (K:PySem.W.Frag) (x:V) (H:Hp) (k:Bool):Prop:=
 match x with
 | .non=>k=false
 | .bl b=>k=b
 | .int i=>k=(i != 0)
 | .str y=>y.length<=sizeLine/\k=((y.length:Int) != 0)
 | .byt y=>y.size<=sizeLine/\k=((y.size:Int) != 0)
 | .ref p=>(∃ xs,SqL K H p xs/\k = !xs.isEmpty)\/(∃ xs,SqT K H p xs/\k = !xs.isEmpty)\/∃ kvs,H p=some (.dK kvs)/\k = !kvs.isEmpty
 | _=>False
theorem tJ {κ:Type} {kvs:List (κ × V)} {vs:List (κ × Value)} (r:KV kvs vs):(!vs.isEmpty) = !kvs.isEmpty:=by
 cases r <;> rfl
theorem lW {xs:List V} {its:List Value} (r:aP xs its):(!its.toArray.isEmpty) = !xs.isEmpty:=by
 cases r <;> simp
theorem jK:(sizeLine:Nat) < 2 ^ 63:=by rw [sizeLine_eq];decide
theorem G9:Oe X (fun x H Q=>∃ k,Cn X.K x H k/\Q k H):=by
 intro pins s σ H x v Q I rx h;obtain ⟨k,e,q⟩:=h;have hl:=jK;have hs:sizeLine=16777216:=sizeLine_eq;cases x with
 | non=>
  cases rx;have e':k=false:=e;subst e';exact truthy_none ⟨H,I,q⟩
 | bl b=>
  cases rx;have e':k=b:=e;subst e';exact wpAny_truthy_bool ⟨H,I,q⟩
 | int i=>
  obtain ⟨t,rfl⟩:=rx;have e':k=(i != 0):=e;subst e';exact PySem.P.truthy_int ⟨H,I,q⟩
 | str y=>
  obtain ⟨t,rfl⟩:=rx;obtain ⟨hy,e'⟩:y.length<=sizeLine/\k=((y.length:Int) != 0):=e;subst e';exact PySem.P.truthy_str (by omega) ⟨H,I.tok _,q⟩
 | byt y=>
  obtain ⟨t,rfl⟩:=rx;obtain ⟨hy,e'⟩:y.size<=sizeLine/\k=((y.size:Int) != 0):=e;subst e';exact PySem.W.truthy_bytes (by omega) ⟨H,I.tok _,q⟩
 | ref p=>
  cases rx;have e':(∃ xs,SqL X.K H p xs/\k = !xs.isEmpty)\/(∃ xs,SqT X.K H p xs/\k = !xs.isEmpty)\/∃ kvs,H p=some (.dK kvs)/\k = !kvs.isEmpty:=e;rcases e' with ⟨xs,hx,e'⟩ | ⟨xs,hx,e'⟩ | ⟨kvs,hx,e'⟩
  ·subst e';obtain ⟨its,r,pl,hz⟩:=I.list hx;have hlen:=r.length;exact wpAny_truthy_list pl.isList (by simp only [Zi];omega) ⟨H,I.tok _,by rw [lW r];exact q⟩
  ·subst e';obtain ⟨its,r,pl,hz⟩:=I.tuple hx;have hlen:=r.length;exact truthy_tuple pl (by simp only [Zi];omega) ⟨H,I.tok _,by rw [lW r];exact q⟩
  ·subst e';obtain ⟨hz,hS,vs,r,m⟩:kvs.length<=sizeLine/\(p == sysModules)=false/\∃ vs,KV kvs vs/\s.heap.DictOf (bC X.prog X.w) p vs:=I.hok p _ hx;have hlen:kvs.length=vs.length:=Paired.length r;exact wpAny_truthy_dict hS m (by omega) ⟨H,I.tok _,by rw [tJ r];exact q⟩
 | _=>exact (show False from e).elim
theorem yP (ha:PE X a ta) (he:∀ whole,isTrue a X.env whole=(do let v <-whole;standAt a.pos;holding [v] (truthy v))) :
  PT X a (fun σ H Q=>ta σ H fun x H'=>∃ k,Cn X.K x H' k/\Q k H'):=by
 intro pins s σ H Q I h;exact isTrue_plain (thn (ha pins s σ H _ I h) fun v s1 ⟨x,H1,I1,r1,q1⟩=>G9 pins s1 σ H1 x v Q I1 r1 q1) (he _)
theorem tK:OpR X (binaryOp .Add) (fun x y H Q=>∃ i j,x = .str i/\y = .str j/\i.length+j.length<=sizeLine/\Q (.str (i++j)) H):=by
 intro pins s σ H x y v u Q I rx ry h;obtain ⟨i,j,rfl,rfl,hz,q⟩:=h;obtain ⟨t,rfl⟩:=rx;obtain ⟨t',rfl⟩:=ry;exact add_str (fun t' tk=>⟨.str (i++j),H,I.tok _,⟨_,rfl⟩,q⟩) hz
theorem cJ {x:V} {us:List Value} (r:aP [x] us):∃ u,us=[u]/\aM x u:=by
 cases r with
 | cons r1 r2=>cases r2;exact ⟨_,rfl,r1⟩
theorem vp {x y:V} {us:List Value} (r:aP [x,y] us):∃ u w',us=[u,w']/\aM x u/\aM y w':=by
 cases r with
 | cons r1 r2=>
  cases r2 with
  | cons r3 r4=>cases r4;exact ⟨_,_,rfl,r1,r3⟩
theorem xa (hc:X.calm=true):aR X (.builtin "max") (fun xs H Q=>∃ i j,xs=[.int i,.int j]/\Q (.int (if j > i then j else i)) H):=by
 intro pins s σ H xs us Q I r h;obtain ⟨i,j,rfl,q⟩:=h;obtain ⟨u,w',rfl,⟨t,rfl⟩,⟨t',rfl⟩⟩:=vp r;refine max_two_ints (I.ok.hd hc) fun h' tk k=>⟨_,H,I.kept k,?_,q⟩;by_cases hj:j > i
 ·rw [if_pos hj,if_pos hj];exact ⟨_,rfl⟩
 ·rw [if_neg hj,if_neg hj];exact ⟨_,rfl⟩
theorem xc (hc:X.calm=true):aR X (.builtin "min") (fun xs H Q=>∃ i j,xs=[.int i,.int j]/\Q (.int (if j < i then j else i)) H):=by
 intro pins s σ H xs us Q I r h;obtain ⟨i,j,rfl,q⟩:=h;obtain ⟨u,w',rfl,⟨t,rfl⟩,⟨t',rfl⟩⟩:=vp r;refine min_two_ints (I.ok.hd hc) fun h' tk k=>⟨_,H,I.kept k,?_,q⟩;by_cases hj:j < i
 ·rw [if_pos hj,if_pos hj];exact ⟨_,rfl⟩
 ·rw [if_neg hj,if_neg hj];exact ⟨_,rfl⟩
theorem xf:aR X (.type "int") (fun xs H Q=>(∃ i,xs=[.int i]/\Q (.int i) H)\/∃ k,xs=[.bl k]/\Q (.int (if k then 1 else 0)) H):=by
 intro pins s σ H xs us Q I r h;rcases h with ⟨i,rfl,q⟩ | ⟨k,rfl,q⟩
 ·obtain ⟨u,rfl,t,rfl⟩:=cJ r;exact call_int_int ⟨.int i,H,I,⟨_,rfl⟩,q⟩
 ·obtain ⟨u,rfl,r1⟩:=cJ r;cases r1;exact call_int_bool ⟨.int (if k then 1 else 0),H,I.tok _,⟨_,rfl⟩,q⟩
end
end L2
namespace L2
open PySem PySem.Spec PyProof.Rows
structure ObjM (h:Heap) (x dx C:Addr) (mA:Str->Option Value):Prop where
 obj:h.get? x=some (PySem.W.instObj C dx)
 ns:h.Ns1 dx mA
 ne:dx ≠ x
theorem xg {h:Heap} {dx:Addr} {mA:Str->Option Value} (n:h.Ns1 dx mA):∃ od,h.get? dx=some od/\∀ name,PySem.W.lookIn name od=some (mA name):=by
 obtain ⟨o,es,ep,ho,hd,hk,_,hm⟩:=n;refine ⟨o,ho,fun name=>?_⟩;have e:=hm name;unfold nsFind findBy at e;rw [<-Array.find?_toList] at e;unfold PySem.W.lookIn;rw [hd];dsimp only;split
 ·rename_i y q;rw [q] at e;exact congrArg some e
 ·rename_i q;rw [q] at e
  have a:es.toList.any (·.refKey)=false:=by
   rw [List.any_eq_false];intro y hy;obtain ⟨z,t,hkey⟩:=hk y (Y8.mp hy);simp [DictEntry.refKey,hkey]
  have a':¬ es.toList.any (·.refKey)=true:=by rw [a];exact Zf
  rw [if_neg a'];exact congrArg some e
theorem ObjM.look {h:Heap} {x dx C:Addr} {mA:Str->Option Value} (I:ObjM h x dx C mA):∃ od,PySem.W.InstAt h x (PySem.W.instObj C dx) C (some od)/\∀ name,PySem.W.lookIn name od=some (mA name):=
 let ⟨od,ho,hl⟩:=xg I.ns
 ⟨od,⟨I.obj,rfl,rfl,ho⟩,hl⟩
section
variable {P:Program} {w:World} {H H':Hp} {h h':Heap} {a C dx:Addr} {fs fs':List (Str × V)}
theorem Co (hok:HOk P w H h) (e:H a=some (.ins C dx fs)):∃ mA,ObjM h a dx C mA/\(∀ f,GK (fs.lookup f) (mA f))/\PySem.Within mA (fs.map (·.1))/\fs.length<=1000/\H dx=some (.own a):=by
 obtain ⟨d,z,ne,ob,mA,n,r,q⟩:=(show bw P w H h a (.ins C dx fs) from hok a _ e);exact ⟨mA,⟨ob,n,ne⟩,r,q,z,d⟩
end
structure Cls (K:PySem.W.Frag) (C:Addr):Prop where
 pg:PySem.W.plainGet K C Str.empty=true
 hd:PySem.W.hasDictIn K C=true
 po:PySem.W.plainOver K C=true
 sa:PySem.W.findIn K (.ref C) "__setattr__" = some (some (.builtin "object.__setattr__"))
theorem Cls.get {K:PySem.W.Frag} {C:Addr} (c:Cls K C) (f:Str):PySem.W.plainGet K C f=true:=c.pg
section
variable {X:Cx} {pins:List (Addr × Obj)} {σ:St} {H:Hp} {s:Shared} {A:Around} {E:Value->Shared->Prop} {Q:Value->Shared->Prop} {c:Value} {b:Bool}
inductive TyOf (K:PySem.W.Frag) (H:Hp):V->Value->Prop where
 | non:TyOf K H .non (.type "NoneType")
 | bl (x:Bool):TyOf K H (.bl x) (.type "bool")
 | int (i:Int):TyOf K H (.int i) (.type "int")
 | str (x:Str):TyOf K H (.str x) (.type "str")
 | flt (x:UInt64):TyOf K H (.flt x) (.type "float")
 | lst {a:Addr} {xs:List V} (e:H a=some (.lst xs)):TyOf K H (.ref a) (.type "list")
 | frz {a:Addr} {o:Obj} {xs:List V} (e:H a=some (.frz o (.lst xs))):TyOf K H (.ref a) (.type "list")
 | tup {a:Addr} {xs:List V} (e:H a=some (.tup xs)):TyOf K H (.ref a) (.type "tuple")
 | dK {a:Addr} {kvs:List (Key × V)} (e:H a=some (.dK kvs)):TyOf K H (.ref a) (.type "dict")
 | dT {a:Addr} {kvs:List (List Key × V)} (e:H a=some (.dT kvs)):TyOf K H (.ref a) (.type "dict")
 | ins {a C dx:Addr} {fs:List (Str × V)} (e:H a=some (.ins C dx fs)) (cl:Cls K C) (ha:PySem.W.findIn K (.ref C) "__class__" = some (some (.builtin "object.__class__")))
   (hn:PySem.W.specialIn K (.builtin "object.__class__") "__get__" = some (some (.builtin "getset_descriptor.__get__"))) (htk:PySem.W.takesIn K (.builtin "object.__class__")=some true)
   (hm:PySem.W.mroIn K C (.type "object")=some true):TyOf K H (.ref a) (.ref C)
theorem xh {x:V} {u t:Value} (I:Inv X pins σ H s) (rx:aM x u) (ty:TyOf X.K H x t) (e:PySem.W.kitOne X.K t c=some b) (h:∀ tk,Q (.bool b) { s with toks:=tk }) :
  wpAny (model X.prog X.w) A (call (.builtin "isinstance") [u,c]) Q E s:=by
 cases ty with
 | non=>cases (show u=Value.none from rx);exact PySem.W.kia_one PySem.W.kitx_none I.kIn True.intro e (fun z=>nomatch z) h
 | bl y=>cases (show u=Value.bool y from rx);exact PySem.W.kia_one PySem.W.kitx_bool I.kIn True.intro e (fun z=>nomatch z) h
 | int i=>obtain ⟨t,q⟩:=(show ∃ t,u=Value.int i t from rx);cases q;exact PySem.W.kia_one PySem.W.kitx_int I.kIn True.intro e (fun z=>nomatch z) h
 | str y=>obtain ⟨t,q⟩:=(show ∃ t,u=Value.str y t from rx);cases q;exact PySem.W.kia_one PySem.W.kitx_str I.kIn True.intro e (fun z=>nomatch z) h
 | flt y=>obtain ⟨t,q⟩:=(show ∃ t,u=Value.float y t from rx);cases q;exact PySem.W.kia_one PySem.W.kitx_float I.kIn True.intro e (fun z=>nomatch z) h
 | @lst a xs ea=>
  cases (show u=Value.ref a from rx);obtain ⟨_,_,n,_,h1⟩:=(show bw X.prog X.w H s.heap a (.lst xs) from I.hok a _ ea);exact PySem.W.kia_one PySem.W.kitx_list I.kIn ⟨_,h1,rfl⟩ e (fun z=>nomatch z) h
 | @frz a ob xs ea=>
  cases (show u=Value.ref a from rx);obtain ⟨_,_,_,n,_,h1⟩:=(show bw X.prog X.w H s.heap a (.frz ob (.lst xs)) from I.hok a _ ea);exact PySem.W.kia_one PySem.W.kitx_list I.kIn ⟨_,h1,rfl⟩ e (fun z=>nomatch z) h
 | @tup a xs ea=>
  cases (show u=Value.ref a from rx);obtain ⟨_,_,_,p⟩:=(show bw X.prog X.w H s.heap a (.tup xs) from I.hok a _ ea);obtain ⟨o,h1,h2,_⟩:=p;exact PySem.W.kia_one PySem.W.kitx_tuple I.kIn ⟨o,h1,h2⟩ e (fun z=>nomatch z) h
 | @dK a kvs ea=>
  cases (show u=Value.ref a from rx);obtain ⟨_,_,vs,_,p⟩:=(show bw X.prog X.w H s.heap a (.dK kvs) from I.hok a _ ea);obtain ⟨o,es,ep,h1,h2,_⟩:=p;exact PySem.W.kia_one PySem.W.kitx_dict I.kIn ⟨o,h1,h2.1⟩ e (fun z=>nomatch z) h
 | @dT a kvs ea=>
  cases (show u=Value.ref a from rx);obtain ⟨_,_,xs,_,o,es,ep,h1,h2,_⟩:=(show bw X.prog X.w H s.heap a (.dT kvs) from I.hok a _ ea);exact PySem.W.kia_one PySem.W.kitx_dict I.kIn ⟨o,h1,h2.1⟩ e (fun z=>nomatch z) h
 | @ins a C dx fs ea cl ha hn htk hm=>
  cases (show u=Value.ref a from rx);obtain ⟨mA,O,_⟩:=Co I.hok ea;obtain ⟨od,J,_⟩:=O.look;exact PySem.W.kia_one (PySem.W.kitx_own (cl.get _) cl.hd ha hn htk hm) I.kIn J e (fun z=>nomatch z) h
end
end L2
namespace L2
open PySem PySem.Spec PyProof.Rows
structure Room (k:Nat) (A:Around):Prop where
 hd:A.handled=none
 dp:A.depth+3 * k+5 < recursionLimit
 un:A.units+16 * k+200 < cLine
 gd:A.guards=some []
theorem Room.deeper {k:Nat} {A:Around} (r:Room (k+1) A) (env:Env):Room k (A.deeper env):=
 ⟨r.hd,by have:=r.dp;show A.depth+1+3 * k+5 < _;omega,by have:=r.un;show A.units+3+16 * k+200 < _;omega,r.gd⟩
theorem Room.depth {k:Nat} {A:Around} (r:Room k A):A.depth < recursionLimit:=by have:=r.dp;omega
theorem Room.units {k:Nat} {A:Around} (r:Room k A):A.units+64 < cLine:=by have:=r.un;omega
noncomputable def pC:TA:=fun _ H Q=>Q [] H
noncomputable def fC (ta:TE) (tr:TA):TA:=fun σ H Q=>ta σ H fun x H1=>tr σ H1 fun xs H2=>Q (x::xs) H2
section
variable {X:Cx} {e:Expr} {es:List Expr} {te:TE} {t:TA} {pos:Pos}
theorem yQ:PA X [] pC:=fun _ _ _ _ H Q I h=>Calls.spliced_nil ⟨[],H,I,.nil,h⟩
theorem Cp (ha:PE X e te) (hr:PA X es t) (hs:starEach (e::es) X.env=(false,eval e X.env)::starEach es X.env:=by rfl):PA X (e::es) (fC te t):=by
 intro pos pins s σ H Q I h;rw [hs];show wpAny _ _ (spliced ((false,eval e X.env)::backTo pos (starEach es X.env))) _ _ s;refine Calls.spliced_cons (thn (ha pins s σ H _ I h) fun u s1 ⟨x,H1,I1,r1,q1⟩=>?_);exact thn (hr pos pins s1 σ H1 _ I1 q1) fun us s2 ⟨xs,H2,I2,r2,q2⟩=>⟨x::xs,H2,I2,.cons r1 r2,q2⟩
noncomputable def LM (t:TA):TE:=fun σ H Q=>t σ H fun xs H1=>xs.length<=sizeLine/\∀ p,H1 p=none->Q (.ref p) (upd H1 p (.tup xs))
noncomputable def LN (t:TA):TE:=fun σ H Q=>t σ H fun xs H1=>xs.length<=sizeLine/\∀ p,H1 p=none->Q (.ref p) (upd H1 p (.lst xs))
theorem Ha {x1} (h:PA X es t):PE X (.Tuple es x1 pos) (LM t):=by
 intro pins s σ H Q I hq;refine wpAny_Tuple_spliced (thn (h pos pins s σ H _ I hq) fun us s1 ⟨xs,H1,I1,r,z,q⟩=>⟨by rw [<-r.length];exact z,?_⟩);have hf:H1 s1.heap.objs.size=none:=I1.hok.fresh (Zd _);refine ⟨.ref s1.heap.objs.size,upd H1 s1.heap.objs.size (.tup xs),I1.laid (t':=s1.toks) (fun b u e=>Zh _ e) (Zd _) ?_,rfl,q _ hf⟩;exact ⟨z,us,r,pA.new _ _⟩
theorem Hb (h:PA X es t):PE X (.List es pos) (LN t):=by
 intro pins s σ H Q I hq;refine wpAny_List_spliced (thn (h pos pins s σ H _ I hq) fun us s1 ⟨xs,H1,I1,r,z,q⟩=>⟨by rw [<-r.length];exact z,?_⟩);have hf:H1 s1.heap.objs.size=none:=I1.hok.fresh (Zd _);refine ⟨.ref s1.heap.objs.size,upd H1 s1.heap.objs.size (.lst xs),I1.laid (t':=s1.toks) (fun b u e=>Zh _ e) (Zd _) ?_,rfl,q _ hf⟩;exact ⟨z,us,0,r,ZH _ rfl⟩
end
noncomputable abbrev Sp:=List V->Hp->VK->XK->Prop
noncomputable abbrev CXT:=List Env->Hp->Shared->XK->Value->Shared->Prop
structure Env0 (P:Program) (w:World) (K:PySem.W.Frag) (mg:Str->Option Value) (base:Heap) (A:Around) (outer:List Env) (s:Shared) (H:Hp):Prop where
 frames:A.frames=some outer
 mod:Mod K mg base
 bs:∀ b o,base.get? b=some o->s.heap.get? b=some o/\H b=none
 bsz:base.objs.size<=s.heap.objs.size
 funs:s.heap.FunFrames base outer
 frf:∀ b ∈ frs outer,H b=none
 hok:HOk P w H s.heap
 bare:AllBare s.gens
noncomputable def CE (outer:List Env) (P:Program) (w:World) (H:Hp) (s:Shared) (Q:VK) (u:Value) (s':Shared):Prop:=
 ∃ v H',s'.os=s.os/\AllBare s'.gens/\Un (frs outer) [] H H' s.heap s'.heap/\HOk P w H' s'.heap/\aM v u/\Q v H'
noncomputable def CR (CX:CXT) (outer:List Env) (P:Program) (w:World) (H:Hp) (s:Shared) (Q:VK) (E:XK) (r:Result) (s':Shared):Prop:=
 match r with
 | .ok (.ret u)=>CE outer P w H s Q u s'
 | .ok _=>False
 | .error e=>CX outer H s E e s'
structure FnOk (P:Program) (w:World) (K:PySem.W.Frag) (mg:Str->Option Value) (base:Heap) (CX:CXT) (k:Nat) (f:Addr) (fd:FuncData) (ps:List Str) (sp:Sp):Prop where
 len:∀ vs H Q E,sp vs H Q E->vs.length=ps.length
 run:∀ (A:Around) (outer:List Env) (s:Shared) (H:Hp) (args:Args) (us:List Value) (vs:List V) (Q:VK) (E:XK),Room k A->Env0 P w K mg base A outer s H->BindsTo s fd args (ps.zip us)->aP vs us->sp vs H Q E ->
  codeAny (model P w) A (.call (.ref f) args) (CR CX outer P w H s Q E) s
section
variable {X:Cx} {pins:List (Addr × Obj)} {σ:St} {H:Hp} {s s':Shared}
theorem Inv.env0 (I:Inv X pins σ H s):Env0 X.prog X.w X.K X.mg X.base X.A X.stack s H:=
 ⟨I.ok.frames,I.ok.mod,I.bs,Zv I.ok.bsz I.sz,I.stack,I.stkFree,I.hok,I.bare⟩
theorem Inv.after {Q:VK} {u:Value} (I:Inv X pins σ H s) (h:CE X.stack X.prog X.w H s Q u s'):EP X pins σ Q u s':=by
 obtain ⟨v,H',os,bare,un,hok,r,q⟩:=h;obtain ⟨hh,g,d,t,os'⟩:=s';obtain rfl:os'=s.os:=os;exact ⟨v,H',I.call (h':=hh) (g':=g) (d':=d) (t':=t) (ch:=[]) un hok bare (fun b z=>absurd z (by simp)),r,q⟩
end
noncomputable def FQ (sp:Sp) (dvs:List V) (E:XK) (t:TA):TE:=fun σ H Q=>t σ H fun vs H1=>sp (vs++dvs) H1 Q E
noncomputable def n9 (K:PySem.W.Frag) (fd:FuncData) (ps:List Str) (ds:List Value):Prop:=
 ∀ (s:Shared) (us:List Value),K.In s.heap->(us++ds).length=ps.length->BindsTo s fd ⟨us,[]⟩ (ps.zip (us++ds))
theorem n9.all {K:PySem.W.Frag} {fd:FuncData} {ps:List Str} (h:∀ us:List Value,us.length=ps.length->bindArgs fd ⟨us,[]⟩=pure (ps.zip us)):n9 K fd ps []:=fun s us _ hl=>by
 rw [Ye] at hl ⊢;exact .of_eq (h us hl)
noncomputable def tL (CX:CXT) (X:Cx) (E:XK):Prop:=∀ (pins:List (Addr × Obj)) (σ:St) (H:Hp) (s:Shared) (e:Value) (s':Shared),Inv X pins σ H s->CX X.stack H s E e s'->X.xe e s'
section
variable {X:Cx} {CX:CXT} {k:Nat} {f C:Addr} {fd:FuncData} {ps:List Str} {sp:Sp} {dvs:List V} {ds:List Value} {E:XK} {x m:Str} {p pos apos:Pos} {e o:Expr} {es:List Expr} {ta:TE} {t:TA}
theorem Hc {pins:List (Addr × Obj)} {σ:St} {H:Hp} {s:Shared} {Q:VK} {us:List Value} {vs:List V} (F:FnOk X.prog X.w X.K X.mg X.base CX k f fd ps sp) (hr:Room k X.A) (hb:n9 X.K fd ps ds) (hd:aP dvs ds) (hx:tL CX X E)
  (I:Inv X pins σ H s) (r:aP vs us) (h:sp (vs++dvs) H Q E):wpAny (model X.prog X.w) X.A (call (.ref f) us) (EP X pins σ Q) X.xe s:=by
 have r2:aP (vs++dvs) (us++ds):=r.append hd;have hl:(us++ds).length=ps.length:=by rw [<-r2.length];exact F.len _ _ _ _ h
 refine wpAny_call (codeAny_mono (F.run X.A X.stack s H ⟨us,[]⟩ (us++ds) (vs++dvs) Q E hr I.env0 (hb s us I.kIn hl) r2 h) fun r s' hq=>?_);cases r with
 | error e=>exact hx pins σ H s e s' I hq
 | ok fl=>
  cases fl with
  | ret u=>exact I.after hq
  | next=>exact False.elim hq
  | brk=>exact False.elim hq
  | cont=>exact False.elim hq
theorem Cq (F:FnOk X.prog X.w X.K X.mg X.base CX k f fd ps sp) (hr:Room k X.A) (hg:Gl X x) (hm:X.mg x=some (.ref f)) (hk:PySem.W.keepIn X.K (.ref f)=true) (hb:n9 X.K fd ps ds) (hd:aP dvs ds) (hx:tL CX X E)
  (ha:PA X (e::es) t) (hdb:(x == ("__debug__" : Str))=false:=by decide) (he:starEach (e::es) X.env=(false,eval e X.env)::starEach es X.env:=by rfl) (hpl:(backTo pos (starEach es X.env)).any (·.1)=false:=by rfl) :
  PE X (.Call (.Name x p) (e::es) [] pos) (FQ sp dvs E t):=by
 intro pins s σ H Q I h;refine wpAny_Call_Name_kw (vk I hg hm ?_ hdb);refine PySem.W.callWith_K (h₀:=X.base) I.ok.mod.kin hk (thn (ha pos pins s σ H _ I h) fun us s1 ⟨vs,H1,I1,r,q⟩=>⟨I1.kIn,?_⟩) he hpl;exact Hc F hr hb hd hx I1 r q
end
structure FnScope (N P:List Str) (sc:Scope):Prop where
 kind:sc.kind = .function
 co:sc.isCoroutine=false
 gen:sc.isGenerator=false
 nd:N.Nodup
 pre:N.take P.length=P
 par:∀ x ∈ P,sc.names.lookup x=some .local\/sc.names.lookup x=some .cell
 nofree:∀ y ∈ sc.names,y.2 ≠ .free
theorem oe {kindOf:Str->Option NameKind} {x:Str}:∀ {binds:List (Str × Value)} {m:Str->Option Value},(∀ v,(x,v) ∉ binds)->bindL kindOf binds m x=m x
 | [],_,_=>rfl
 | (n,v)::r,m,h=>by
  unfold bindL;rw [oe fun w hw=>h w (Ze _ hw)];split
  ·have:x ≠ n:=by rintro rfl;exact h v Zg
   simp [this]
  ·rfl
theorem og {kindOf:Str->Option NameKind} {x:Str}:∀ {binds:List (Str × Value)} {m:Str->Option Value},(∀ v,(x,v) ∉ binds)->bindC kindOf binds m x=m x
 | [],_,_=>rfl
 | (n,v)::r,m,h=>by
  unfold bindC;rw [og fun w hw=>h w (Ze _ hw)];split
  ·rfl
  ·have:x ≠ n:=by rintro rfl;exact h v Zg
   simp [this]
theorem oh {kindOf:Str->Option NameKind} {x:Str} {v:Value}:∀ {P:List Str} {vs:List Value} {i:Nat} {m:Str->Option Value},P.Nodup->P[i]?=some x->vs[i]?=some v->kindOf x=some .local ->
  bindL kindOf (P.zip vs) m x=some v
 | [],_,_,_,_,h,_,_=>by simp at h
 | _::_,[],_,_,_,_,h,_=>by simp at h
 | p::P,w::vs,0,m,nd,h1,h2,hk=>by
  simp at h1 h2;subst h1;subst h2;show bindL kindOf ((p,w)::P.zip vs) m p=_;unfold bindL;rw [oe fun v hv=>(Yt.mp nd).1 (Y1 hv).1,if_pos hk];simp
 | p::P,w::vs,i+1,m,nd,h1,h2,hk=>by
  show bindL kindOf ((p,w)::P.zip vs) m x=_;unfold bindL;exact oh (i:=i) (Yt.mp nd).2 (by simpa using h1) (by simpa using h2) hk
theorem oi {kindOf:Str->Option NameKind} {x:Str} {v:Value}:∀ {P:List Str} {vs:List Value} {i:Nat} {m:Str->Option Value},P.Nodup->P[i]?=some x->vs[i]?=some v->kindOf x ≠ some .local ->
  bindC kindOf (P.zip vs) m x=some v
 | [],_,_,_,_,h,_,_=>by simp at h
 | _::_,[],_,_,_,_,h,_=>by simp at h
 | p::P,w::vs,0,m,nd,h1,h2,hk=>by
  simp at h1 h2;subst h1;subst h2;show bindC kindOf ((p,w)::P.zip vs) m p=_;unfold bindC;rw [og fun v hv=>(Yt.mp nd).1 (Y1 hv).1,if_neg hk];simp
 | p::P,w::vs,i+1,m,nd,h1,h2,hk=>by
  show bindC kindOf ((p,w)::P.zip vs) m x=_;unfold bindC;exact oi (i:=i) (Yt.mp nd).2 (by simpa using h1) (by simpa using h2) hk
noncomputable def hR (N:List Str) (vs:List V):St:=vs.map some++Zo (N.length - vs.length) none
noncomputable def tM (CX:CXT) (P:Program) (w:World) (K:PySem.W.Frag) (mg:Str->Option Value) (base:Heap) (N:List Str) (qual:Str) (scope:Scope) (f:Addr) (cd:Value) (A:Around) (outer:List Env) (s:Shared) (H:Hp) (E:XK):Cx where
 prog:=P
 w:=w
 K:=K
 mg:=mg
 base:=base
 A:=A.deeper (envOfC qual scope s.heap.objs.size f cd)
 N:=N
 s₀:=s
 H₀:=H
 env:=envOfC qual scope s.heap.objs.size f cd
 outer:=outer
 stack:=envOfC qual scope s.heap.objs.size f cd::outer
 ex:=[]
 calm:=true
 fn:=fun _=>true
 pn:=[]
 xe:=fun e s'=>wpAny (model P w) (A.deeper (envOfC qual scope s.heap.objs.size f cd)) (leaving (envOfC qual scope s.heap.objs.size f cd) e) (fun _ s''=>CX outer H s E e s'') (fun e' s''=>CX outer H s E e' s'') s'
theorem qW {sc:Scope} {n:Nat} {x:Str} (h:sc.names.lookup x=some .cell):∃ c,(cellsFrom n sc.names []).lookup x=some c:=by
 have q:=PySem.W.cellsFrom_some sc.names n [] (.inl h);exact ZY.mp q
theorem xi {CX:CXT} {P:Program} {w:World} {K:PySem.W.Frag} {mg:Str->Option Value} {base:Heap} {N ps:List Str} {qual:Str} {scope:Scope} {f:Addr} {cd:Value} {A:Around} {outer:List Env} {s s1:Shared} {H:Hp} {E:XK} {us:List Value} {vs:List V}
  (S:FnScope N ps scope) (hd:A.handled=none) (e0:Env0 P w K mg base A outer s H) (hl:vs.length=ps.length) (r:aP vs us)
  (x:InCallC s s.heap.objs.size (bindL (envOfC qual scope s.heap.objs.size f cd).kindOf (ps.zip us) fun _=>none) (cellsFrom (s.heap.objs.size+1) scope.names []) (bindC (envOfC qual scope s.heap.objs.size f cd).kindOf (ps.zip us) fun _=>none) s1) :
  Inv (tM CX P w K mg base N qual scope f cd A outer s H E) [] (hR N vs) H s1:=by
 have hpl:ps.length<=N.length:=by have:=congrArg Zb S.pre;rw [ZF] at this;omega
 obtain ⟨h1,tk,rfl,hk⟩:=x.done;have noA:∀ b:Addr,b ∉ (tM CX P w K mg base N qual scope f cd A outer s H E).ex:=fun b z=>absurd (show b ∈ ([]:List Addr) from z) (by simp)
 refine ⟨⟨e0.mod,S.kind,rfl,rfl,Zd _,fun y z c h1 h2=>?_,fun y hy=>?_,fun y c _ h=>?_,fun _=>hd,Around.frames_deeper e0.frames,.inr ⟨rfl,rfl⟩,fun b z=>absurd z (noA b),e0.bs,e0.bsz,fun b _ _=>noA b,fun b z=>absurd z (noA b),e0.funs,e0.frf⟩,
  rfl,e0.bare,Un.kept hk,⟨_,x.toInCall.ns,fun i y v h1 h2 h3=>?_⟩,fun y c h=>⟨_,x.cell y c h⟩,e0.hok.fresh (Zd _),fun y c h=>?_,fun p hp=>absurd (show p ∈ ([]:List (Addr × Obj)) from hp) (by simp),e0.hok.kept hk,?_⟩
 ·exact name_of_addr x.apart (PySem.mem_of_lookup h1) (PySem.mem_of_lookup h2)
 ·have hy:scope.names.lookup y=some .cell\/scope.names.lookup y=some .free:=hy;rcases hy with hy | hy
  ·exact qW hy
  ·exact absurd rfl (S.nofree _ (PySem.mem_of_lookup hy))
 ·exact YY (x.above y c (PySem.mem_of_lookup h))
 ·have hi:i < vs.length:=by
   unfold hR at h2;by_cases hi:i < vs.length
   ·exact hi
   ·rw [Zq (by simpa using hi)] at h2;rw [Yk] at h2;split at h2 <;> cases h2
  have ha:vs[i]?=some v:=by
   unfold hR at h2;rw [Zw (by simpa using hi),Zl] at h2;cases e:vs[i]? with
   | none=>rw [e] at h2;cases h2
   | some a=>rw [e] at h2;cases h2;rfl
  obtain ⟨u,hu,rv⟩:=r.get ha
  have hp:ps[i]?=some y:=by
   rw [<-S.pre,YU (by omega)];exact h1
  have ndP:ps.Nodup:=by rw [<-S.pre];exact S.nd.sublist (Xk _ _)
  refine ⟨u,rv,?_⟩;rcases S.par y (Zm hp) with k | k
  ·exact .inl ⟨k,oh ndP hp hu k⟩
  ·obtain ⟨c,e⟩:=qW (n:=s.heap.objs.size+1) k;refine .inr ⟨.inl k,c,e,?_⟩;have q:=x.cell y c e;rw [oi ndP hp hu (by show scope.names.lookup y ≠ _;rw [k];decide)] at q;exact q
 ·exact e0.hok.fresh (YY (x.above y c (PySem.mem_of_lookup h)))
 ·unfold hR;show _=N.length;rw [Zr,Za,Y5];omega
theorem LO {CX:CXT} {P:Program} {w:World} {K:PySem.W.Frag} {mg:Str->Option Value} {base:Heap} {k:Nat} {f:Addr} {name qual:Str} {params:Arguments} {body:List Stmt} {scope:Scope} {dV kV doc pm cdv ct oc:Value} {an od:Option Addr}
  {osl:Array (Option Value)} {N ps:List Str} {sp:Sp} (lk:K.lookup f=some ⟨oc,od,.func (PySem.W.fnOf name qual params body scope dV kV doc pm an cdv ct),osl⟩) (hcd:PySem.W.codeIn K cdv qual=true) (S:FnScope N ps scope)
  (len:∀ vs H Q E,sp vs H Q E->vs.length=ps.length)
  (hbody:∀ (A:Around) (outer:List Env) (s:Shared) (H:Hp) (vs:List V) (Q:VK) (E:XK),Room k (A.deeper (envOfC qual scope s.heap.objs.size f cdv))->sp vs H Q E ->
   ∃ t,PSs (tM CX P w K mg base N qual scope f cdv A outer s H E) body t/\t { nx:=fun _ H'=>Q .non H',rt:=Q } (hR N vs) H) :
  FnOk P w K mg base CX (k+1) f (PySem.W.fnOf name qual params body scope dV kV doc pm an cdv ct) ps sp:=by
 refine ⟨len,fun A outer s H args us vs Q E hr e0 hb r hsp=>?_⟩;have hl:=len _ _ _ _ hsp;have KX:K.In s.heap:=e0.mod.kin.keeps fun b o e=>(e0.bs b o e).1;have lim:s.heap.NoLimit:=e0.mod.nolimit.keeps fun b o e=>(e0.bs b o e).1
 have hkind:∀ y ∈ ps.zip us,scope.names.lookup y.1=some .local\/(scope.names.lookup y.1=some .cell/\((cellsFrom (s.heap.objs.size+1) scope.names []).lookup y.1).isSome=true):=fun ⟨n,v⟩ hy=>by
  rcases S.par n (Y1 hy).1 with q | q
  ·exact .inl q
  ·exact .inr ⟨q,PySem.W.cellsFrom_some _ _ _ (.inl q)⟩
 refine codeAny_call_function hr.depth (KX _ _ lk) rfl S.co S.gen rfl (PySem.W.codeRec_of KX hcd) (hb _ _ _ _ ?_);refine wpAny_newFunctionEnv_cells S.kind hkind fun env he s1 x=>?_;subst he;refine ⟨lim.keeps x.toInCall.keep,codeAny_func ?_⟩;obtain ⟨t,ht,hq⟩:=hbody A outer s H vs Q E (hr.deeper _) hsp;have I:Inv (tM CX P w K mg base N qual scope f cdv A outer s H E) [] (hR N vs) H s1:=xi S hr.hd e0 hl r x;refine wpAny_mono (ht [] s1 (hR N vs) H _ I hq) (fun fl s' hs=>?_) fun e s' hs=>hs
 have fin:∀ {σ':St} {H':Hp} {v:V} {u:Value},Inv (tM CX P w K mg base N qual scope f cdv A outer s H E) [] σ' H' s'->aM v u->Q v H'->CE outer P w H s Q u s':=
  fun {σ' H' v u} J rv q=>⟨v,H',J.os,J.bare,J.base,J.hok,rv,q⟩
 cases fl with
 | ret u=>
  obtain ⟨v,σ',H',J,rv,q⟩:=hs;exact fin J rv q
 | next=>
  obtain ⟨σ',H',J,q⟩:=hs;exact fin (v:=V.non) (u:=Value.none) J rfl q
 | brk=>
  obtain ⟨_,_,_,q⟩:=hs;exact False.elim q
 | cont=>
  obtain ⟨_,_,_,q⟩:=hs;exact False.elim q
end L2
namespace L2
open PySem PySem.Spec PyProof.Rows
section
variable {X:Cx} {x:Str} {p pos:Pos} {e:Expr} {es:List Expr} {t:TA} {id T:String} {r:List V->Hp->VK->Prop}
noncomputable def tCB (r:List V->Hp->VK->Prop) (t:TA):TE:=fun σ H Q=>t σ H fun vs H1=>r vs H1 Q
theorem iY (hc:aR X (.builtin id) r) (hg:Gl X x) (hm:X.mg x=none) (hv:bootBuiltins x=some (.builtin id)) (ha:PA X (e::es) t) (hn:x ≠ "__name__" := by decide) (hdb:(x == ("__debug__" : Str))=false:=by decide)
  (he:starEach (e::es) X.env=(false,eval e X.env)::starEach es X.env:=by rfl) (hpl:(backTo pos (starEach es X.env)).any (·.1)=false:=by rfl):PE X (.Call (.Name x p) (e::es) [] pos) (tCB r t):=by
 intro pins s σ H Q I h;refine wpAny_Call_Name_kw (iz I hg hm hv ?_ hn hdb);exact PyProof.Rows.callWith_builtin1 (thn (ha pos pins s σ H _ I h) fun us s1 ⟨vs,H1,I1,r1,q1⟩=>hc pins s1 σ H1 vs us Q I1 r1 q1) he hpl
theorem jL (hc:aR X (.type T) r) (hg:Gl X x) (hm:X.mg x=none) (hv:bootBuiltins x=some (.type T)) (ha:PA X (e::es) t) (hn:x ≠ "__name__" := by decide) (hdb:(x == ("__debug__" : Str))=false:=by decide)
  (he:starEach (e::es) X.env=(false,eval e X.env)::starEach es X.env:=by rfl) (hpl:(backTo pos (starEach es X.env)).any (·.1)=false:=by rfl):PE X (.Call (.Name x p) (e::es) [] pos) (tCB r t):=by
 intro pins s σ H Q I h;refine wpAny_Call_Name_kw (iz I hg hm hv ?_ hn hdb);exact PyProof.Rows.callWith_type1 (thn (ha pos pins s σ H _ I h) fun us s1 ⟨vs,H1,I1,r1,q1⟩=>hc pins s1 σ H1 vs us Q I1 r1 q1) he hpl
end
end L2
namespace HT
open PySem PyProof.Rows
section
open PySem.SeqAt
open PySem.AutoSeq1 (wpAny_loadPart')
open PySem.MeetsSeq PySem.MeetsSeq2 PySem.MeetsSeq3
end
section
variable {prog:Program} {w:World} {A:Around} {E:Value->Shared->Prop} {s:Shared}
theorem Cr {t b:Addr} {vs ws:List Value} {Q:Value->Shared->Prop} (ht:IsTup s.heap t vs.toArray) (hb:IsTup s.heap b ws.toArray) (hv:vs ≠ [])
  (h1:ws=[]->Q (.ref t) s) (h2:ws ≠ []->Q (.ref s.heap.objs.size) { s with heap:=s.heap.push { cls:=.type "tuple", data:=.seq (vs++ws).toArray } })
  (hsz:vs.length+ws.length<=sizeLine):wpAny (model prog w) A (binaryOp .Add (.ref t) (.ref b)) Q E s:=by
 obtain ⟨⟨cls,dd,data,sl⟩,ho,hc,n,hd⟩:=id ht;obtain ⟨⟨cls2,dd2,data2,sl2⟩,ho2,hc2,n2,hd2⟩:=id hb;simp only at hc hd hc2 hd2;subst hc hd hc2 hd2;have e:vs.toArray++ws.toArray=(vs++ws).toArray:=by simp
 by_cases hw:ws=[]
 ·exact concat_meets ⟨_,ho,rfl⟩ ⟨_,ho2,rfl⟩ noFill_tuple_add seq_tuple_add PySem.F.slot_tuple_add PySem.F.entry_tuple_add (PySem.F.args_tuple_add_2 _ _)
   (tuple_addW1 t b vs.toArray ws.toArray n n2 dd dd2 sl sl2 (by simpa using hv) (by simp [hw])) ⟨ho,ho2,h1 hw⟩
 ·refine concat_meets ⟨_,ho,rfl⟩ ⟨_,ho2,rfl⟩ noFill_tuple_add seq_tuple_add PySem.F.slot_tuple_add PySem.F.entry_tuple_add (PySem.F.args_tuple_add_2 _ _)
   (tuple_addW2 t b vs.toArray ws.toArray n n2 dd dd2 sl sl2 (by simpa using hv) (by simpa using hw) (by rw [Zi,Zi];exact hsz)) ⟨ho,ho2,?_⟩
  rw [e];exact h2 hw
noncomputable def sIx (n d:Nat):Option Int->Nat
 | none=>d
 | some v=>if v < 0 then (v+(n:Int)).toNat else min v.toNat n
theorem yR (n d:Nat):sIx n d none=d:=rfl
theorem Hd (n d:Nat) (hd:d<=n) (o:Option Int):sIx n d o<=n:=by
 cases o with
 | none=>exact hd
 | some v=>
  show (if v < 0 then (v+(n:Int)).toNat else min v.toNat n)<=n;by_cases hv:v < 0
  ·rw [if_pos hv];omega
  ·rw [if_neg hv];exact Nat.min_le_right _ _
theorem vq (v:Int) (n d:Nat):(if v < 0 then max (v+(n:Int)) 0 else min v (n:Int))=((sIx n d (some v):Nat):Int):=by
 show (if v < 0 then max (v+(n:Int)) 0 else min v (n:Int))=(((if v < 0 then (v+(n:Int)).toNat else min v.toNat n):Nat):Int);by_cases hv:v < 0
 ·simp only [if_pos hv];omega
 ·simp only [if_neg hv];omega
theorem tN (lo hi:Option Int) (n:Nat):Builtin.Slice.sliceAdjust lo hi 1 (n:Int)=(((sIx n 0 lo:Nat):Int),((sIx n n hi:Nat):Int)):=by
 have h1:¬ ((1:Int) < 0):=by omega
 unfold Builtin.Slice.sliceAdjust;simp only [h1,if_false];refine Prod.ext ?_ ?_
 ·cases lo with
  | none=>rfl
  | some v=>exact vq v n 0
 ·cases hi with
  | none=>rfl
  | some v=>exact vq v n n
theorem tO (i j:Nat):Builtin.Slice.slicePlaces (i:Int) (j:Int) 1=j - i:=by
 unfold Builtin.Slice.slicePlaces;have h1:(1:Int) > 0:=by omega
 simp only [h1,if_true,Int.ediv_one];split <;> omega
theorem lX {v:Value} {o:Option Int} {Q:Option Int->Shared->Prop} (p:IsPart v o) (h:Q o s):wpAny (model prog w) A (Builtin.Slice.slicePartIndex v) Q E s:=by
 cases p with
 | none=>exact slicePart_none h
 | int i t=>exact slicePart_int h
theorem et {sl:Addr} {vl vu:Value} {lo hi:Option Int} {n:Nat} {Q:Int × Int × Nat->Shared->Prop} (hs:s.heap.IsSliceOf sl vl vu .none) (pl:IsPart vl lo) (pu:IsPart vu hi)
  (h:Q (((sIx n 0 lo:Nat):Int),1,sIx n n hi - sIx n 0 lo) s):wpAny (model prog w) A (Builtin.Slice.sliceApplied (.ref sl) (pure (n:Int))) Q E s:=by
 obtain ⟨os,hos,hcs,hds⟩:=id hs;unfold Builtin.Slice.sliceApplied Builtin.Slice.sliceFields;refine wpAny_bind (wpAny_bind (wpAny_field hos hds (x:=vl) rfl (wpAny_bind (wpAny_field hos hds (x:=vu) rfl (wpAny_bind (wpAny_field hos hds (x:=.none) rfl (wpAny_pure ?_)))))));refine wpAny_bind (slicePart_none ?_);show wpAny _ _ (if ((1:Int) == 0)=true then _ else _) _ _ s;rw [if_neg (by decide)];refine wpAny_bind (lX pl (wpAny_bind (lX pu (wpAny_bind (wpAny_pure ?_)))));show wpAny _ _ (match Builtin.Slice.sliceAdjust lo hi 1 (n:Int) with | (lo,hi)=>pure (lo,(1:Int),Builtin.Slice.slicePlaces lo hi 1)) _ _ s;rw [tN lo hi n];show wpAny _ _ (pure (((sIx n 0 lo:Nat):Int),(1:Int),Builtin.Slice.slicePlaces ((sIx n 0 lo:Nat):Int) ((sIx n n hi:Nat):Int) 1)) _ _ s;rw [tO];exact wpAny_pure h
theorem yS (xs:Array Value) (i k:Nat):((Zj k).filterMap fun (m:Nat)=>xs[((i:Int)+(m:Int) * 1).toNat]?).toArray=((xs.toList.drop i).take k).toArray:=by
 have e:(fun (m:Nat)=>xs[((i:Int)+(m:Int) * 1).toNat]?)=fun m=>xs[i+m]?:=by
  funext m
  have:((i:Int)+(m:Int) * 1).toNat=i+m:=by omega
  rw [this]
 rw [e];have:=pick_run xs i k;rw [List.filterMap_map] at this;have e2:((fun x=>xs[x]?) ∘ fun x=>i+x)=fun m=>xs[i+m]?:=rfl;rw [e2] at this;rw [this]
theorem iZ {t sl:Addr} {items:Array Value} {vl vu:Value} {lo hi:Option Int} {Q:Value->Shared->Prop} (ht:IsTup s.heap t items) (hs:s.heap.IsSliceOf sl vl vu .none) (pl:IsPart vl lo) (pu:IsPart vu hi)
  (hw:¬ (sIx items.size 0 lo=0/\sIx items.size items.size hi=items.size))
  (h:Q (.ref s.heap.objs.size) { s with heap:=s.heap.push { cls:=.type "tuple", data:=.seq ((items.toList.drop (sIx items.size 0 lo)).take (sIx items.size items.size hi - sIx items.size 0 lo)).toArray } })
  (hsz:items.size<=sizeLine):wpAny (model prog w) A (getItem (.ref t) (.ref sl)) Q E s:=by
 have htake:sizeOk (.seq ((items.toList.drop (sIx items.size 0 lo)).take (sIx items.size items.size hi - sIx items.size 0 lo)).toArray):=by
  show ((items.toList.drop (sIx items.size 0 lo)).take (sIx items.size items.size hi - sIx items.size 0 lo)).toArray.size<=sizeLine;rw [Zi,ZF,Z1,ZN];omega
 have hj:sIx items.size items.size hi<=items.size:=Hd _ _ (Zd _) hi;obtain ⟨os,hos,hcs,hds⟩:=id hs;have hTs:s.TypeIs (.ref sl) "slice" := ⟨os,hos,hcs⟩;unfold getItem
 try with_reducible refine wpAny_holding ?_
 first | refine wpAny_bind (wpAny_pure ?_) | skip
 refine wpAny_bind (wpAny_sequenceKey ht.typeIs (by decide) ?_)
 refine wpAny_bind (wpAny_callSpecial?_slot (name:=Str.ofString "__getitem__") ht.typeIs PyProof.Rows.slot_tuple_getitem
  (wpAny_call_entry PyProof.Rows.slot_tuple_getitem ht.typeIs entry_tuple_getitem ?_ (args_tuple_getitem _ _)))
 show wpAny _ _ (Builtin.Tuple.tupleItemsOf (.ref t) >>= _) _ _ s;refine wpAny_bind (tupleItemsOf_ ht ?_);refine wpAny_bind (wpAny_typeOf hTs ?_);rw [if_pos (by decide)];refine wpAny_bind (et hs pl pu ?_)
 have hno:¬ ((((sIx items.size 0 lo:Nat):Int) == 0 && (1:Int) == 1 && (sIx items.size items.size hi - sIx items.size 0 lo) == items.size)=true):=by
  intro q;rw [bAE,bAE] at q;have q1:((sIx items.size 0 lo:Nat):Int)=0:=eq_of_beq q.1.1;have q2:sIx items.size items.size hi - sIx items.size 0 lo=items.size:=eq_of_beq q.2;exact hw ⟨by omega,by omega⟩
 show wpAny _ _ (if (((sIx items.size 0 lo:Nat):Int) == 0 && (1:Int) == 1 && (sIx items.size items.size hi - sIx items.size 0 lo) == items.size)=true then _ else _) _ _ s;rw [if_neg hno,yS]
 first
  | exact wpAny_bind (m:=Builtin.Tuple.tupleExact _) (wpAny_newObj_type (wpAny_pure ⟨_,rfl,wpAny_pure h⟩) htake)
  | exact wpAny_bind (m:=Builtin.Tuple.tupleExact _) (wpAny_newObj_type (wpAny_bind (wpAny_pure (wpAny_pure ⟨_,rfl,wpAny_pure h⟩))) htake)
  | exact wpAny_bind (wpAny_bind (m:=Builtin.Tuple.tupleExact _) (wpAny_newObj_type (wpAny_pure (wpAny_pure ⟨_,rfl,wpAny_pure h⟩)) htake))
  | exact wpAny_bind (wpAny_bind (m:=Builtin.Tuple.tupleExact _) (wpAny_newObj_type (wpAny_pure ⟨_,rfl,wpAny_pure h⟩) htake))
end
end HT
namespace L2
open PySem PySem.Spec PyProof.Rows
noncomputable abbrev TO:=St->Hp->(Option Int->Hp->Prop)->Prop
noncomputable def PO (X:Cx) (e:Option Expr) (t:TO):Prop:=
 ∀ (pins:List (Addr × Obj)) (s:Shared) (σ:St) (H:Hp) (Q:Option Int->Hp->Prop),Inv X pins σ H s->t σ H Q ->
  wpAny (model X.prog X.w) X.A (evalPart e X.env) (fun u s'=>∃ o H',Inv X pins σ H' s'/\IsPart u o/\Q o H') X.xe s
noncomputable def vt:TO:=fun _ H Q=>Q none H
noncomputable def FR (t:TE):TO:=fun σ H Q=>t σ H fun x H1=>∃ i,x = .int i/\Q (some i) H1
section
variable {X:Cx} {e:Expr} {te:TE} {lo hi:Option Expr} {tl th:TO} {pos p2:Pos}
theorem Cs:PO X none vt:=by
 intro pins s σ H Q I h;rw [evalPart_none];exact wpAny_pure ⟨none,H,I,.none,h⟩
theorem Ct (h:PE X e te):PO X (some e) (FR te):=by
 intro pins s σ H Q I hw;rw [evalPart_some];refine thn (h pins s σ H _ I hw) fun u s1 ⟨x,H1,I1,r1,q1⟩=>?_;obtain ⟨i,rfl,q⟩:=q1;obtain ⟨t,rfl⟩:=r1;exact ⟨some i,H1,I1,.int i t,q⟩
noncomputable def SlR (X:Cx) (r:V->Option Int->Option Int->Hp->VK->Prop):Prop:=
 ∀ (pins:List (Addr × Obj)) (s:Shared) (σ:St) (H:Hp) (x:V) (v vl vu:Value) (lo hi:Option Int) (sl:Addr) (Q:VK),Inv X pins σ H s->aM x v->s.heap.IsSliceOf sl vl vu .none->IsPart vl lo->IsPart vu hi->r x lo hi H Q ->
  ∃ T id,typeLookup (.type T) "__getitem__" = pure (some (.builtin id))/\s.TypeIs v T/\wpAny (model X.prog X.w) X.A (getItem v (.ref sl)) (EP X pins σ Q) X.xe s
theorem SlR.or {r r':V->Option Int->Option Int->Hp->VK->Prop} (h:SlR X r) (h':SlR X r'):SlR X (fun x lo hi H Q=>r x lo hi H Q\/r' x lo hi H Q):=by
 intro pins s σ H x v vl vu lo hi sl Q I rx hs pl pu q;rcases q with q | q
 ·exact h pins s σ H x v vl vu lo hi sl Q I rx hs pl pu q
 ·exact h' pins s σ H x v vl vu lo hi sl Q I rx hs pl pu q
noncomputable def tSl (r:V->Option Int->Option Int->Hp->VK->Prop) (te:TE) (tl th:TO):TE:=fun σ H Q=>te σ H fun x H1=>tl σ H1 fun l H2=>th σ H2 fun u H3=>r x l u H3 Q
theorem yT {r:V->Option Int->Option Int->Hp->VK->Prop} (hr:SlR X r) (he:PE X e te) (hl:PO X lo tl) (hu:PO X hi th):PE X (.Subscript e (.Slice lo hi none p2) pos) (tSl r te tl th):=by
 intro pins s σ H Q I h;refine Subscript_ (thn (he pins s σ H _ I h) fun v s1 ⟨x,H1,I1,r1,q1⟩=>?_);refine wpAny_Slice (thn (hl pins s1 σ H1 _ I1 q1) fun vl s2 ⟨l,H2,I2,pl,q2⟩=>thn (hu pins s2 σ H2 _ I2 q2) fun vu s3 ⟨u,H3,I3,pu,q3⟩=>?_);rw [evalPart_none];refine wpAny_pure ?_;have I4:Inv X pins σ H3 { s3 with heap:=s3.heap.push { cls:=.type "slice", data:=.fields #[vl,vu,.none] } }:=I3.kept (t':=s3.toks) fun b ob q=>Zh _ q;obtain ⟨T,id,hT,ht,hg⟩:=hr pins { s3 with heap:=s3.heap.push { cls:=.type "slice", data:=.fields #[vl,vu,.none] } } σ H3 x v vl vu l u s3.heap.objs.size Q I4 r1 (Heap.IsSliceOf.new ..) pl pu q3;show wpAny (model X.prog X.w) X.A (subscriptTail e (.Slice lo hi none p2) v (.ref s3.heap.objs.size)) (EP X pins σ Q) X.xe { s3 with heap:=s3.heap.push { cls:=.type "slice", data:=.fields #[vl,vu,.none] } };exact tail_any (ops:=[.ref s3.heap.objs.size,v]) ht hT hg (by with_unfolding_all rfl)
noncomputable def lY (xs:List V) (lo hi:Option Int):List V:=(xs.drop (HT.sIx xs.length 0 lo)).take (HT.sIx xs.length xs.length hi - HT.sIx xs.length 0 lo)
theorem ko (xs:List V) (lo hi:Option Int):(lY xs lo hi).length<=xs.length:=by
 unfold lY;rw [ZF,Z1];omega
noncomputable def Oi (K:PySem.W.Frag):V->Option Int->Option Int->Hp->VK->Prop:=fun x lo hi H Q=>∃ a xs,x = .ref a/\SqT K H a xs ∧
 ¬ (HT.sIx xs.length 0 lo=0/\HT.sIx xs.length xs.length hi=xs.length)/\∀ p,H p=none->Q (.ref p) (upd H p (.tup (lY xs lo hi)))
theorem He:SlR X (Oi X.K):=by
 intro pins s σ H x v vl vu lo hi sl Q I rx hs pl pu h;obtain ⟨a,xs,rfl,hx,hw,q⟩:=h;cases rx;obtain ⟨its,r,ht,hz⟩:=I.tuple hx;have hlen:its.toArray.size=xs.length:=by rw [Zi];exact r.length.symm
 refine ⟨"tuple", _,PyProof.Rows.slot_tuple_getitem.lookup,ht.typeIs,?_⟩;refine HT.iZ ht hs pl pu (by rw [hlen];exact hw) ?_ (by rw [hlen];exact hz);rw [hlen];refine ⟨.ref s.heap.objs.size,_,I.laid (t':=s.toks) (o:=.tup (lY xs lo hi)) (fun b ob q=>Zh _ q) (Zd _) ?_,rfl,q _ (I.hok.fresh (Zd _))⟩;exact ⟨Zv (ko xs lo hi) hz,_,(r.drop (HT.sIx xs.length 0 lo)).take (HT.sIx xs.length xs.length hi - HT.sIx xs.length 0 lo),pA.new _ _⟩
noncomputable def LP (K:PySem.W.Frag):R2:=fun x y H Q=>∃ a b xs ys,x = .ref a/\y = .ref b/\SqT K H a xs/\SqT K H b ys/\xs ≠ []/\xs.length+ys.length<=sizeLine ∧
 (ys=[]->Q (.ref a) H)/\(ys ≠ []->∀ p,H p=none->Q (.ref p) (upd H p (.tup (xs++ys))))
theorem aP.nil_iff {xs:List V} {us:List Value} (r:aP xs us):us=[] ↔ xs=[]:=by
 cases r with
 | nil=>simp
 | cons _ _=>simp
theorem Cu:OpR X (binaryOp .Add) (LP X.K):=by
 intro pins s σ H x y v u Q I rx ry h;obtain ⟨a,b,xs,ys,rfl,rfl,ha,hb,hx,hz,q1,q2⟩:=h;cases rx;cases ry;obtain ⟨its,r1,p1,_⟩:=I.tuple ha;obtain ⟨its2,r2,p2,_⟩:=I.tuple hb;refine HT.Cr p1 p2 (fun z=>hx (r1.nil_iff.mp z)) (fun z=>⟨.ref a,H,I,rfl,q1 (r2.nil_iff.mp z)⟩) (fun z=>?_) (by rw [<-r1.length,<-r2.length];exact hz);refine ⟨.ref s.heap.objs.size,_,I.laid (t':=s.toks) (o:=.tup (xs++ys)) (fun b ob q=>Zh _ q) (Zd _) ?_,rfl,q2 (fun w=>z (r2.nil_iff.mpr w)) _ (I.hok.fresh (Zd _))⟩;exact ⟨by rw [Zr];exact hz,_,r1.append r2,pA.new _ _⟩
end
end L2
namespace L2
open PySem PySem.Spec PyProof.Rows
noncomputable def ixN (n:Nat) (i:Int):Option Nat:=if 0<=i then (if i < n then some i.toNat else none) else if -(n:Int)<=i then some (i+n).toNat else none
noncomputable def atI {α:Type} (xs:List α) (i:Int):Option α:=(ixN xs.length i).bind fun j=>xs[j]?
theorem pD {n:Nat} {i:Int} {j:Nat} (h:ixN n i=some j):seqIndex? i n=some j/\j < n/\-(n:Int)<=i/\i < n:=by
 unfold ixN at h;by_cases h0:0<=i
 ·rw [if_pos h0] at h;by_cases h1:i < n
  ·rw [if_pos h1] at h;have e:i.toNat=j:=Option.some.inj h;exact ⟨by rw [seqIndex_of h0 h1,e],by omega,by omega,h1⟩
  ·rw [if_neg h1] at h;cases h
 ·rw [if_neg h0] at h;by_cases h1:-(n:Int)<=i
  ·rw [if_pos h1] at h;have e:(i+n).toNat=j:=Option.some.inj h;exact ⟨by rw [seqIndex_neg (by omega) h1,e],by omega,h1,by omega⟩
  ·rw [if_neg h1] at h;cases h
theorem pE {α:Type} {xs:List α} {i:Int} {v:α} (h:atI xs i=some v):∃ j,seqIndex? i xs.length=some j/\xs[j]?=some v/\j < xs.length/\-(xs.length:Int)<=i/\i < xs.length:=by
 unfold atI at h;cases e:ixN xs.length i with
 | none=>rw [e] at h;cases h
 | some j=>
  rw [e] at h;obtain ⟨h1,h2,h3,h4⟩:=pD e;exact ⟨j,h1,h,h2,h3,h4⟩
theorem pF {α:Type} {xs:List α} {j:Nat} {v:α} (h:xs[j]?=some v):atI xs (j:Int)=some v:=by
 have hj:j < xs.length:=(Zc.mp h).1
 have e:ixN xs.length (j:Int)=some j:=by
  unfold ixN;rw [if_pos (by omega),if_pos (by omega)];simp
 unfold atI;rw [e];exact h
noncomputable def vA (b:Expr):Prop:=∀ o i,subscripted b false o i=operate [o,i] (getItem o i)
noncomputable def IxR (X:Cx) (r:R2):Prop:=
 ∀ (value slice:Expr) (pins:List (Addr × Obj)) (s:Shared) (σ:St) (H:Hp) (x y:V) (v u:Value) (Q:VK),Inv X pins σ H s->aM x v->aM y u->r x y H Q ->
  subscripted slice false v u=operate [v,u] (getItem v u)->wpAny (model X.prog X.w) X.A (subscriptTail value slice v u) (EP X pins σ Q) X.xe s
noncomputable def MtR (X:Cx) (id:String) (r:V->List V->Hp->VK->Prop):Prop:=
 ∀ (pins:List (Addr × Obj)) (s:Shared) (σ:St) (H:Hp) (x:V) (xs:List V) (v:Value) (us:List Value) (Q:VK),Inv X pins σ H s->aM x v->aP xs us->r x xs H Q ->
  wpAny (model X.prog X.w) X.A (call (.builtin id) (v::us)) (EP X pins σ Q) X.xe s
section
variable {X:Cx} {a b:Expr} {ta tb:TE} {pos:Pos}
theorem IxR.or {r r':R2} (h:IxR X r) (h':IxR X r'):IxR X (fun x y H Q=>r x y H Q\/r' x y H Q):=by
 intro value slice pins s σ H x y v u Q I rx ry q hs;rcases q with q | q
 ·exact h value slice pins s σ H x y v u Q I rx ry q hs
 ·exact h' value slice pins s σ H x y v u Q I rx ry q hs
theorem FS {r:R2} (hr:IxR X r) (ha:PE X a ta) (hb:PE X b tb) (hs:vA b):PE X (.Subscript a b pos) (tOp r ta tb):=by
 intro pins s σ H Q I h;exact Subscript_ (G1 ha hb I h fun v u s2 x y H2 I2 rx ry q=>hr a b pins s2 σ H2 x y v u Q I2 rx ry q (hs _ _))
noncomputable def LQ (K:PySem.W.Frag):R2:=fun x y H Q=>∃ p xs i v,x = .ref p/\y = .int i/\SqL K H p xs/\atI xs i=some v/\Q v H
noncomputable def LR (K:PySem.W.Frag):R2:=fun x y H Q=>∃ p xs i v,x = .ref p/\y = .int i/\SqT K H p xs/\atI xs i=some v/\Q v H
noncomputable def LS:R2:=fun x y H Q=>∃ z i c,x = .str z/\y = .int i/\z.length<=sizeLine/\atI z.cps.toList i=some c/\Q (.str ⟨#[c]⟩) H
theorem N9:IxR X (LQ X.K):=by
 intro value slice pins s σ H x y v u Q I rx ry h hs;obtain ⟨p,xs,i,z,rfl,rfl,hq,he,q⟩:=h;cases rx;obtain ⟨t,rfl⟩:=ry;obtain ⟨its,r,pl,hz⟩:=I.list hq;obtain ⟨j,h1,h2,h3,h4,h5⟩:=pE he;obtain ⟨w,ew,rw'⟩:=r.get h2;have hl:=r.length;have hn:=jK;have fin:EP X pins σ Q w s:=⟨z,H,I,rw',q⟩;by_cases h0:0<=i
 ·have hj:i.toNat=j:=by
   rw [seqIndex_of h0 h5] at h1;exact Option.some.inj h1
  exact item_listR pl.isList h0 (by omega) (by rw [hj];simpa using ew) fin hs
 ·have hj:(i+(its.toArray.size:Int)).toNat=j:=by
   rw [seqIndex_neg (by omega) h4] at h1;rw [Zi,<-hl];exact Option.some.inj h1
  exact subscriptTail_builtinR (x:=w) pl.isList.typeIs slot_list_getitem.lookup
   (wpAny_getItem_list_neg (Q:=fun r s'=>r=w/\EP X pins σ Q r s') pl.isList (by omega) (by rw [Zi] <;> omega) (by omega) (by rw [hj];simpa using ew) ⟨rfl,fin⟩) hs
theorem yU:IxR X (LR X.K):=by
 intro value slice pins s σ H x y v u Q I rx ry h hs;obtain ⟨p,xs,i,z,rfl,rfl,hq,he,q⟩:=h;cases rx;obtain ⟨t,rfl⟩:=ry;obtain ⟨its,r,pl,hz⟩:=I.tuple hq;obtain ⟨j,h1,h2,h3,h4,h5⟩:=pE he;obtain ⟨w,ew,rw'⟩:=r.get h2;have hl:=r.length;have hn:=jK;have fin:EP X pins σ Q w s:=⟨z,H,I,rw',q⟩
 exact subscriptTail_builtinR (x:=w) pl.typeIs slot_tuple_getitem.lookup
  (getItem_tuple (j:=j) (Q:=fun r s'=>r=w/\EP X pins σ Q r s') pl (by omega) (by omega) (by rw [Zi,<-hl];exact h1) (by simpa using ew) ⟨rfl,fin⟩) hs
theorem Hf:IxR X LS:=by
 intro value slice pins s σ H x y v u Q I rx ry h hs;obtain ⟨z,i,c,rfl,rfl,hz,he,q⟩:=h;obtain ⟨t,rfl⟩:=rx;obtain ⟨t',rfl⟩:=ry;obtain ⟨j,h1,h2,h3,h4,h5⟩:=pE he;have hl:z.cps.toList.length=z.length:=by simp [Str.length]
 rw [hl] at h1 h4 h5;have hn:=jK
 exact tail_any (typeIs_str s z t) slot_str_getitem.lookup (getItem_str (c:=c) (by
  have e1:decide (i < -(2 ^ 63:Int))=false:=decide_eq_false (by omega);have e2:decide (i ≥ 2 ^ 63)=false:=decide_eq_false (by omega);rw [e1,e2,XG]) (by rw [h1];simpa using h2) ⟨.str ⟨#[c]⟩,H,I.tok _,⟨_,rfl⟩,q⟩) hs
noncomputable def rIx (K:PySem.W.Frag):R2:=fun x y H Q=>LQ K x y H Q\/LR K x y H Q\/LS x y H Q
theorem yV:IxR X (rIx X.K):=N9.or (yU.or Hf)
theorem tP (its:List Value) (n j:Nat) (u:Value):Obj.mapSeq (·.setIfInBounds j u) { cls:=.type "list", data:=.seq its.toArray n }={ cls:=.type "list", data:=.seq (its.set j u).toArray n }:=by
 simp [Obj.mapSeq]
theorem Inv.lst {pins:List (Addr × Obj)} {σ:St} {H:Hp} {s:Shared} {p:Addr} {xs:List V} (I:Inv X pins σ H s) (h:H p=some (.lst xs)) :
  ∃ (its:List Value) (n:Nat),aP xs its/\s.heap.get? p=some { cls:=.type "list", data:=.seq its.toArray n }/\xs.length<=sizeLine:=by
 obtain ⟨z,its,n,r,e⟩:=I.hok p _ h;exact ⟨its,n,r,e,z⟩
theorem Inv.lstUpd {pins:List (Addr × Obj)} {σ:St} {H:Hp} {s:Shared} {p:Addr} {xs ys:List V} {its its':List Value} {n n':Nat} {f:Obj->Obj} (I:Inv X pins σ H s) (h:H p=some (.lst xs))
  (ho:s.heap.get? p=some { cls:=.type "list", data:=.seq its.toArray n }) (hf:f { cls:=.type "list", data:=.seq its.toArray n }={ cls:=.type "list", data:=.seq its'.toArray n' }) (r:aP ys its') (hz:ys.length<=sizeLine) (t:Nat) :
  Inv X pins σ (upd H p (.lst ys)) { s with heap:=s.heap.update p f,toks:=t }:=by
 have e:(s.heap.update p f).get? p=some { cls:=.type "list", data:=.seq its'.toArray n' }:=by
  rw [Y6 f ho (by rw [hf] <;> rfl),hf]
 refine I.write (x:=p) (e:=p) (by rw [h];trivial) (.inl rfl) (fun b u hb q=>(YZ _ _ (Ne.symm hb)).trans q) ⟨_,e⟩ ?_;exact ⟨hz,its',n',r,e⟩
noncomputable def LU:V->V->V->Hp->(Hp->Prop)->Prop:=fun o i v H Q=>∃ p xs k j,o = .ref p/\i = .int k/\H p=some (.lst xs)/\ixN xs.length k=some j/\Q (upd H p (.lst (xs.set j v)))
theorem yW:GU X LU:=by
 intro pins s σ H o i v ov iv u Q I ro ri rv h;obtain ⟨p,xs,k,j,rfl,rfl,hp,hj,q⟩:=h;cases ro;obtain ⟨t,rfl⟩:=ri;obtain ⟨its,n,r,ho,hz⟩:=I.lst hp;obtain ⟨h1,h2,h3,h4⟩:=pD hj;have hl:=r.length;have hn:=jK
 have I':Inv X pins σ (upd H p (.lst (xs.set j v))) { s with heap:=s.heap.update p (Obj.mapSeq (·.setIfInBounds j u)) }:=
  I.lstUpd hp ho (tP its n j u) (r.set rv j) (by rw [Z7];exact hz) s.toks
 by_cases h0:0<=k
 ·have hk:k.toNat=j:=by
   rw [seqIndex_of h0 h4] at h1;exact Option.some.inj h1
  exact PySem.W.ki_setAt ho h0 (by omega) (by rw [Zi,<-hl];exact h4) (by rw [hk];exact ⟨_,I',q⟩)
 ·have hk:(k+(its.toArray.size:Int)).toNat=j:=by
   rw [seqIndex_neg (by omega) h3] at h1;rw [Zi,<-hl];exact Option.some.inj h1
  exact PySem.W.ki_setBack ho (by omega) (by rw [Zi,<-hl];exact h3) (by omega) (by rw [hk];exact ⟨_,I',q⟩)
theorem pG (lo hi:Option Int) (n:Nat):(sliceBounds lo hi none n).1=((HT.sIx n 0 lo:Nat):Int)/\(sliceBounds lo hi none n).2.1=((HT.sIx n n hi:Nat):Int)/\(sliceBounds lo hi none n).2.2=1:=by
 refine ⟨?_,?_,rfl⟩
 ·cases lo with
  | none=>simp [sliceBounds,HT.sIx]
  | some i=>
   simp only [sliceBounds,HT.sIx,Xq,show (1:Int) > 0 by decide,if_true];by_cases h:i < 0
   ·simp only [h,if_true] <;> omega
   ·simp only [h,if_false] <;> omega
 ·cases hi with
  | none=>simp [sliceBounds,HT.sIx]
  | some i=>
   simp only [sliceBounds,HT.sIx,Xq,show (1:Int) > 0 by decide,if_true];by_cases h:i < 0
   ·simp only [h,if_true] <;> omega
   ·simp only [h,if_false] <;> omega
theorem nS (its:List Value) (lo hi:Option Int):slicePick its.toArray lo hi none=((its.drop (HT.sIx its.length 0 lo)).take (HT.sIx its.length its.length hi - HT.sIx its.length 0 lo)).toArray:=by
 obtain ⟨h1,h2,h3⟩:=pG lo hi its.toArray.size;unfold slicePick;rw [h1,h2,h3];simp only [sliceRange_one,pick_run,Zi] <;> rfl
noncomputable def Oj (K:PySem.W.Frag):V->Option Int->Option Int->Hp->VK->Prop:=fun x lo hi H Q=>∃ a xs,x = .ref a/\SqL K H a xs/\∀ p,H p=none->Q (.ref p) (upd H p (.lst (lY xs lo hi)))
theorem Cv:SlR X (Oj X.K):=by
 intro pins s σ H x v vl vu lo hi sl Q I rx hs pl pu h;obtain ⟨a,xs,rfl,hx,q⟩:=h;cases rx;obtain ⟨its,r,ht,hz⟩:=I.list hx;have hlen:=r.length;refine ⟨"list", _,slot_list_getitem.lookup,ht.isList.typeIs,?_⟩;refine wpAny_getItem_list_slice ht.isList hs pl pu .none (by simp) ?_ (by rw [Zi] <;> omega);rw [nS,<-hlen];refine ⟨.ref s.heap.objs.size,_,I.laid (t':=s.toks) (o:=.lst (lY xs lo hi)) (fun b ob q=>Zh _ q) (Zd _) ?_,rfl,q _ (I.hok.fresh (Zd _))⟩;exact ⟨Zv (ko xs lo hi) hz,_,0,(r.drop (HT.sIx xs.length 0 lo)).take (HT.sIx xs.length xs.length hi - HT.sIx xs.length 0 lo),ZH _ rfl⟩
noncomputable def eu:V->Bool
 | .non=>true
 | .bl _=>true
 | .int _=>true
 | .str _=>true
 | _=>false
noncomputable def eqV:V->V->Bool
 | .non,.non=>true
 | .bl a,.bl b=>a == b
 | .bl a,.int b=>(if a then 1 else 0) == b
 | .int a,.bl b=>a == (if b then 1 else 0)
 | .int a,.int b=>a == b
 | .str a,.str b=>a == b
 | _,_=>false
theorem Hg {A:Around} {s:Shared} {y x:V} {u v:Value} (ry:aM y u) (rx:aM x v) (fy:eu y=true) (fx:eu x=true):SeqAt.EqAt A s u v (eqV y x):=by
 cases y with
 | non=>
  cases ry;cases x with
  | non=>cases rx;exact SeqAt.EqAt.same _
  | bl b=>cases rx;exact SeqAt.EqAt.none_bool b
  | int b=>obtain ⟨t,rfl⟩:=rx;exact SeqAt.EqAt.none_int b t
  | str b=>obtain ⟨t,rfl⟩:=rx;exact SeqAt.EqAt.none_str b t
  | _=>exact absurd (show false=true from fx) Zf
 | bl a=>
  cases ry;cases x with
  | non=>cases rx;exact SeqAt.EqAt.bool_none a
  | bl b=>cases rx;exact SeqAt.EqAt.bool_bool a b
  | int b=>obtain ⟨t,rfl⟩:=rx;exact SeqAt.EqAt.bool_int a b t
  | str b=>obtain ⟨t,rfl⟩:=rx;exact SeqAt.EqAt.bool_str a b t
  | _=>exact absurd (show false=true from fx) Zf
 | int a=>
  obtain ⟨t',rfl⟩:=ry;cases x with
  | non=>cases rx;exact SeqAt.EqAt.int_none a t'
  | bl b=>cases rx;exact SeqAt.EqAt.int_bool a t' b
  | int b=>obtain ⟨t,rfl⟩:=rx;exact SeqAt.EqAt.int_int a t' b t
  | str b=>obtain ⟨t,rfl⟩:=rx;exact SeqAt.EqAt.int_str a t' b t
  | _=>exact absurd (show false=true from fx) Zf
 | str a=>
  obtain ⟨t',rfl⟩:=ry;cases x with
  | non=>cases rx;exact SeqAt.EqAt.str_none a t'
  | bl b=>cases rx;exact SeqAt.EqAt.str_bool a t' b
  | int b=>obtain ⟨t,rfl⟩:=rx;exact SeqAt.EqAt.str_int a t' b t
  | str b=>obtain ⟨t,rfl⟩:=rx;exact SeqAt.EqAt.str_str a t' b t
  | _=>exact absurd (show false=true from fx) Zf
 | _=>exact absurd (show false=true from fy) Zf
noncomputable def eqU (x:V) (u:Value):Bool:=match u with
 | .none=>eqV .non x
 | .bool b=>eqV (.bl b) x
 | .int i _=>eqV (.int i) x
 | .str z _=>eqV (.str z) x
 | _=>false
theorem tQ {x y:V} {u:Value} (r:aM y u) (f:eu y=true):eqU x u=eqV y x:=by
 cases y with
 | non=>cases r;rfl
 | bl b=>cases r;rfl
 | int i=>obtain ⟨t,rfl⟩:=r;rfl
 | str z=>obtain ⟨t,rfl⟩:=r;rfl
 | _=>exact absurd (show false=true from f) Zf
theorem i5 {x:V}:∀ {xs:List V} {us:List Value},aP xs us->xs.all eu=true->us.any (eqU x)=xs.any fun y=>eqV y x
 | _,_,.nil,_=>rfl
 | y::xs,u::us,.cons r t,f=>by
  rw [ZS,bAE] at f;rw [Yu,Yu,tQ r f.1,i5 t f.2]
theorem eA {A:Around} {s:Shared} {x:V} {v:Value} (rx:aM x v) (fx:eu x=true):∀ {xs:List V} {us:List Value},aP xs us->xs.all eu=true->∀ u ∈ us,SeqAt.EqAt A s u v (eqU x u)
 | _,_,.nil,_=>fun u hu=>by cases hu
 | y::xs,u::us,.cons r t,f=>fun u' hu=>by
  rw [ZS,bAE] at f;rcases Zk.mp hu with rfl | hu
  ·rw [tQ r f.1];exact Hg r rx f.1 fx
  ·exact eA rx fx t f.2 u' hu
noncomputable def inV (x:V) (xs:List V):Bool:=xs.any fun y=>eqV y x
noncomputable def rIn (K:PySem.W.Frag) (neg:Bool):R2:=fun x y H Q=>∃ p xs,y = .ref p/\(SqL K H p xs\/SqT K H p xs)/\eu x=true/\xs.all eu=true/\Q (.bl (if neg then !inV x xs else inV x xs)) H
theorem xj:OpR X (compareOp .In) (rIn X.K false):=by
 intro pins s σ H x y v u Q I rx ry h;obtain ⟨p,xs,rfl,hq,fx,fs,q⟩:=h;cases ry;rcases hq with hq | hq
 ·obtain ⟨its,r,pl,hz⟩:=I.list hq;refine SeqAt.in_listAt (eqU x) pl.isList (fun w hw=>eA rx fx r fs w (by simpa using hw)) ⟨.bl _,H,I,rfl,?_⟩;rw [show its.toArray.any (eqU x)=its.any (eqU x) by simp,i5 r fs];exact q
 ·obtain ⟨its,r,pl,hz⟩:=I.tuple hq;refine SeqAt.in_tupleAt (eqU x) pl (fun w hw=>eA rx fx r fs w (by simpa using hw)) ⟨.bl _,H,I,rfl,?_⟩;rw [show its.toArray.any (eqU x)=its.any (eqU x) by simp,i5 r fs];exact q
theorem pH:OpR X (compareOp .NotIn) (rIn X.K true):=by
 intro pins s σ H x y v u Q I rx ry h;obtain ⟨p,xs,rfl,hq,fx,fs,q⟩:=h;cases ry;rcases hq with hq | hq
 ·obtain ⟨its,r,pl,hz⟩:=I.list hq;refine SeqAt.notIn_listAt (eqU x) pl.isList (fun w hw=>eA rx fx r fs w (by simpa using hw)) ⟨.bl _,H,I,rfl,?_⟩;rw [show its.toArray.any (eqU x)=its.any (eqU x) by simp,i5 r fs];exact q
 ·obtain ⟨its,r,pl,hz⟩:=I.tuple hq;refine SeqAt.notIn_tupleAt (eqU x) pl (fun w hw=>eA rx fx r fs w (by simpa using hw)) ⟨.bl _,H,I,rfl,?_⟩;rw [show its.toArray.any (eqU x)=its.any (eqU x) by simp,i5 r fs];exact q
theorem pJ:aR X (.builtin "len") (fun xs H Q=>∃ p ys,xs=[.ref p]/\(SqL X.K H p ys\/SqT X.K H p ys)/\Q (.int ys.length) H):=by
 intro pins s σ H xs us Q I r h;obtain ⟨p,ys,rfl,hq,q⟩:=h;obtain ⟨u,rfl,rx⟩:=cJ r;cases rx;have hn:=jK;rcases hq with hq | hq
 ·obtain ⟨its,r',pl,hz⟩:=I.list hq;have hlen:=r'.length;exact Calls.call_len_list pl.isList (by simp only [Zi] <;> omega) ⟨.int ys.length,H,I.tok _,⟨s.toks+1,by rw [Zi,hlen]⟩,q⟩
 ·obtain ⟨its,r',pl,hz⟩:=I.tuple hq;have hlen:=r'.length;exact len_tuple pl (by simp only [Zi] <;> omega) ⟨.int ys.length,H,I.tok _,⟨s.toks+1,by rw [Zi,hlen]⟩,q⟩
theorem pK:aR X (.type "list") (fun xs H Q=>∃ p ys,xs=[.ref p]/\(SqL X.K H p ys\/SqT X.K H p ys)/\∀ l,H l=none->Q (.ref l) (upd H l (.lst ys))):=by
 intro pins s σ H xs us Q I r h;obtain ⟨p,ys,rfl,hq,q⟩:=h;obtain ⟨u,rfl,rx⟩:=cJ r;cases rx
 have fin:∀ (its:List Value),aP ys its->ys.length<=sizeLine->∀ (h':Heap) (c':Nat),(∀ b o',s.heap.get? b=some o'->h'.get? b=some o') ->
   h'.get? s.heap.objs.size=some { cls:=.type "list", dict:=none,data:=.seq its.toArray c',slots:=#[] }->EP X pins σ Q (.ref s.heap.objs.size) { s with heap:=h' }:=fun its r' hz h' c' kp e=>
  ⟨.ref s.heap.objs.size,_,I.laid (t':=s.toks) kp (Zd _) (show bw X.prog X.w _ h' _ (.lst ys) from ⟨hz,its,c',r',e⟩),rfl,q _ (I.hok.fresh (Zd _))⟩
 rcases hq with hq | hq
 ·obtain ⟨its,r',pl,hz⟩:=I.list hq;have hlen:=r'.length;obtain ⟨o,ho,hc,n,hd⟩:=pl.isList;exact call_list_seq p (.inl rfl) ho hc hd (fun h' c' kp e=>fin its r' hz h' c' kp e) (by simp only [Zi] <;> omega)
 ·obtain ⟨its,r',pl,hz⟩:=I.tuple hq;have hlen:=r'.length;obtain ⟨o,ho,hc,n,hd⟩:=pl;exact call_list_seq p (.inr rfl) ho hc hd (fun h' c' kp e=>fin its r' hz h' c' kp e) (by simp only [Zi] <;> omega)
theorem nT:aR X (.type "tuple") (fun xs H Q=>∃ p ys,xs=[.ref p]/\((SqL X.K H p ys/\∀ l,H l=none->Q (.ref l) (upd H l (.tup ys)))\/(SqT X.K H p ys/\Q (.ref p) H))):=by
 intro pins s σ H xs us Q I r h;obtain ⟨p,ys,rfl,h⟩:=h;obtain ⟨u,rfl,rx⟩:=cJ r;cases rx;rcases h with ⟨hq,q⟩ | ⟨hq,q⟩
 ·obtain ⟨its,r',pl,hz⟩:=I.list hq;have hlen:=r'.length;refine call_tuple_list pl.isList (fun h' kp=>?_) (by simp only [Zi] <;> omega);have I1:Inv X pins σ H { s with heap:=h' }:=I.kept (t':=s.toks) kp
  have I2:Inv X pins σ (upd H h'.objs.size (.tup ys)) { s with heap:=h'.push { cls:=.type "tuple", data:=.seq its.toArray } }:=
   I1.laid (t':=s.toks) (fun b o e=>Zh _ e) (Zd _) (show bw X.prog X.w _ _ _ (.tup ys) from ⟨hz,its,r',pA.new _ _⟩)
  exact ⟨.ref h'.objs.size,_,I2,rfl,q _ (I1.hok.fresh (Zd _))⟩
 ·obtain ⟨its,r',pl,hz⟩:=I.tuple hq;exact call_tuple_same pl ⟨.ref p,H,I,rfl,q⟩
noncomputable def tyV (K:PySem.W.Frag) (T:String) (x:V) (H:Hp):Prop:=match x with
 | .str _=>T = "str"
 | .int _=>T = "int"
 | .ref p=>(T = "list"/\∃ xs,SqL K H p xs)\/(T = "tuple"/\((∃ o,K.lookup p=some o/\o.cls = .type "tuple"/\o.dict=none)\/∃ xs,H p=some (.tup xs))) ∨
   (T = "dict"/\((∃ kvs,H p=some (.dK kvs))\/∃ kvs,H p=some (.dT kvs)))\/(T = "set"/\∃ S n,H p=some (.set S n))
 | _=>False
theorem Hh {pins:List (Addr × Obj)} {σ:St} {H:Hp} {s:Shared} {T:String} {x:V} {v:Value} (I:Inv X pins σ H s) (r:aM x v) (ty:tyV X.K T x H) :
  s.TypeIs v T/\∀ a,v = .ref a->∃ ob,s.heap.get? a=some ob/\ob.dict=none:=by
 cases x with
 | str z=>
  obtain ⟨t,rfl⟩:=r;cases (show T = "str" from ty);exact ⟨typeIs_str s z t,fun _ e=>nomatch e⟩
 | int i=>
  obtain ⟨t,rfl⟩:=r;cases (show T = "int" from ty);exact ⟨typeIs_int s i t,fun _ e=>nomatch e⟩
 | ref p=>
  cases r;rcases ty with ⟨rfl,xs,hq⟩ | ⟨rfl,⟨o,hk,hc,hd⟩ | ⟨xs,hk⟩⟩ | ⟨rfl,hk⟩ | ⟨rfl,S,n,hk⟩
  ·obtain ⟨its,_,pl,_⟩:=I.list hq;refine ⟨pl.isList.typeIs,fun a e=>?_⟩;cases e;obtain ⟨o,n,e,c,hd,_⟩:=pl;exact ⟨o,e,hd⟩
  ·refine ⟨⟨o,I.kIn p o hk,hc⟩,fun a e=>?_⟩;cases e;exact ⟨o,I.kIn _ o hk,hd⟩
  ·obtain ⟨_,its,_,o,e,hc,_,_,hd⟩:=I.hok p _ hk;refine ⟨⟨o,e,hc⟩,fun a e2=>?_⟩;cases e2;exact ⟨o,e,hd⟩
  ·have z:∃ o,s.heap.get? p=some o/\o.ExactDict:=by
    rcases hk with ⟨kvs,hk⟩ | ⟨kvs,hk⟩
    ·obtain ⟨_,_,_,_,o,_,_,e,ex,_⟩:=I.hok p _ hk;exact ⟨o,e,ex⟩
    ·obtain ⟨_,_,_,_,o,_,_,e,ex,_⟩:=I.hok p _ hk;exact ⟨o,e,ex⟩
   obtain ⟨o,e,ex⟩:=z;refine ⟨⟨o,e,ex.1⟩,fun a e2=>?_⟩;cases e2;exact ⟨o,e,ex.2.1⟩
  ·obtain ⟨o,_,_,_,e,ex,_⟩:=I.hok p _ hk;refine ⟨⟨o,e,ex.1⟩,fun a e2=>?_⟩;cases e2;exact ⟨o,e,ex.2.1⟩
 | _=>exact False.elim ty
noncomputable def tBM (K:PySem.W.Frag) (T:String) (r:V->List V->Hp->VK->Prop) (to:TE) (t:TA):TE:=fun σ H Q=>to σ H fun x H1=>tyV K T x H1/\t σ H1 fun xs H2=>r x xs H2 Q
variable {o e:Expr} {es:List Expr} {to:TE} {t:TA} {name:Str} {apos cpos:Pos} {T id:String} {r:V->List V->Hp->VK->Prop}
theorem vB (pa:PlainAttrs T) (slot:Slot T name id) (hty:typeOf (.builtin id)=pure (.type "method_descriptor")) (hm:MtR X id r) (ho:PE X o to) (ha:PA X (e::es) t)
  (hbase:attributeBase o name X.env (eval o X.env)=eval o X.env:=by rfl)
  (hfew:((backTo cpos (starEach (e::es) X.env)).all (fun x=>!x.1) && (backToKw cpos (keywordEach [] X.env)).all (fun x=>x.1.isSome)
   && decide ((e::es).length+([]:List Keyword).length+(if ([]:List Keyword).isEmpty then 0 else 1) < 30))=true:=by rfl)
  (hline:(apos.endLine == cpos.line)=true:=by rfl) (hs:starEach (e::es) X.env=(false,eval e X.env)::starEach es X.env:=by rfl) (hplain:(backTo cpos (starEach es X.env)).any (·.1)=false:=by rfl) :
  PE X (.Call (.Attribute o name apos) (e::es) [] cpos) (tBM X.K T r to t):=by
 intro pins s σ H Q I h;refine wpAny_Call_method_late hbase hfew hline rfl (thn (ho pins s σ H _ I h) fun v s1 ⟨x,H1,I1,r1,ty,q1⟩=>?_);obtain ⟨h1,h2⟩:=Hh I1 r1 ty;refine ⟨T,id,pa,slot,hty,h1,h2,?_⟩;have hA:=ha cpos pins s1 σ H1 _ I1 q1;rw [hs] at hA ⊢;refine Calls.callWith_builtin (by show (false || (backTo cpos (starEach es X.env)).any (·.1))=false;rw [hplain] <;> rfl) (Calls.evalArgs_plain ?_);exact thn hA fun us s2 ⟨vs,H2,I2,r2,q2⟩=>hm pins s2 σ H2 x vs v us Q I2 r1 r2 q2
end
end L2
namespace L2
open PySem PySem.Spec PyProof.Rows
noncomputable def MtM (X:Cx) (id:String) (r:V->List V->Hp->VK->Prop):Prop:=
 ∀ (pins:List (Addr × Obj)) (s:Shared) (σ:St) (H:Hp) (x:V) (xs:List V) (v:Value) (us:List Value) (Q:VK),Inv X pins σ H s->aM x v->aP xs us->r x xs H Q ->
  wpAny (model X.prog X.w) X.A (call (.builtin id) (v::us)) (EP X pins σ Q) X.xe s
theorem aP.one:∀ {x:V} {us:List Value},aP [x] us->∃ u,us=[u]/\aM x u
 | _,_,.cons r .nil=>⟨_,rfl,r⟩
theorem aP.eraseIdx:∀ {xs:List V} {us:List Value} (i:Nat),aP xs us->aP (xs.eraseIdx i) (us.eraseIdx i)
 | _,_,_,.nil=>.nil
 | _,_,0,.cons _ t=>t
 | _,_,i+1,.cons r t=>.cons r (aP.eraseIdx i t)
theorem aP.rep {xs:List V} {us:List Value} (h:aP xs us):∀ k:Nat,aP (Zo k xs).flatten (Zo k us).flatten
 | 0=>.nil
 | k+1=>by
  rw [Z2,Z2,Yg,Yg];exact aP.append h (aP.rep h k)
theorem oj {α:Type}:∀ (l:List α) (i:Nat),(l.eraseIdx i).length<=l.length
 | [],_=>Zd _
 | _::_,0=>Yq _
 | _::r,i+1=>Xr (oj r i)
theorem om (its:List Value):∀ (k:Nat) (acc:List Value),
  XD (fun x1 x2=>x1++x2) acc.toArray (Zo k its.toArray)=(acc++(Zo k its).flatten).toArray
 | 0,acc=>by simp
 | k+1,acc=>by
  have e:acc.toArray++its.toArray=(acc++its).toArray:=by simp
  have e2:(acc++its)++(Zo k its).flatten=acc++(Zo (k+1) its).flatten:=by
   rw [Z2,Yg,Z6]
  rw [<-e2,<-om its k (acc++its),<-e,Z2,Xy]
section
variable {X:Cx} {pins:List (Addr × Obj)} {σ:St} {H:Hp} {s:Shared} {l b:Addr} {xs ys zs:List V}
theorem Inv.lset {its its':List Value} {n:Nat} {f:Array Value->Array Value} {t':Nat} (I:Inv X pins σ H s) (hH:H l=some (.lst xs))
  (e:s.heap.get? l=some { cls:=.type "list", data:=.seq its.toArray n }) (hf:f its.toArray=its'.toArray) (hv:aP ys its') (hz:ys.length<=sizeLine) :
  Inv X pins σ (upd H l (.lst ys)) { s with heap:=s.heap.update l (Obj.mapSeq f),toks:=t' }:=by
 have q:=PySem.IsL.update e f;rw [hf] at q;refine I.write (x:=l) (e:=l) (by rw [hH];exact trivial) (.inl rfl) (fun b' u hb hu=>(YZ s.heap (Obj.mapSeq f) (Ne.symm hb)).trans hu) ⟨_,q⟩ ?_;exact ⟨hz,its',_,hv,q⟩
theorem Inv.lnew {its:List Value} {t':Nat} (I:Inv X pins σ H s) (hv:aP ys its) (hz:ys.length<=sizeLine) :
  Inv X pins σ (upd H s.heap.objs.size (.lst ys)) { s with heap:=s.heap.push { cls:=.type "list", data:=.seq its.toArray },toks:=t' }:=
 I.laid (fun _ _ q=>Zh _ q) (Zd _) ⟨hz,its,0,hv,ZH _ rfl⟩
theorem Inv.fresh (I:Inv X pins σ H s):H s.heap.objs.size=none:=I.hok.fresh (Zd _)
theorem Inv.lstM (I:Inv X pins σ H s) (hH:H l=some (.lst xs)):xs.length<=sizeLine/\∃ (its:List Value) (n:Nat),aP xs its/\xs.length=its.length/\s.heap.get? l=some { cls:=.type "list", data:=.seq its.toArray n }:=by
 obtain ⟨z,its,n,r,e⟩:=I.hok l _ hH;exact ⟨z,its,n,r,r.length,e⟩
theorem yX {n:Nat} (h:n<=sizeLine):Builtin.List.listTooLong n=false:=by
 unfold Builtin.List.listTooLong;exact decide_eq_false (by omega)
end
section
variable {X:Cx}
noncomputable def Cw:V->List V->Hp->VK->Prop:=fun x vs H Q=>∃ l xs y,x = .ref l/\vs=[y]/\H l=some (.lst xs)/\xs.length < sizeLine/\Q .non (upd H l (.lst (xs++[y])))
theorem oo:MtM X "list.append" Cw:=by
 intro pins s σ H x vs v us Q I rx rv h;obtain ⟨l,xs,y,rfl,rfl,hH,hz,q⟩:=h;cases rx;obtain ⟨u,rfl,ru⟩:=rv.one;obtain ⟨z,its,n,r,hl,e⟩:=I.lstM hH;refine call_meets F.slot_list_append ⟨_,e,rfl⟩ F.entry_list_append (F.args_list_append_2 _ _) (PySem.list_append l its.toArray n u (by rw [Zi];omega)) ⟨e,?_⟩;refine ⟨.non,_,I.lset (its':=its++[u]) hH e (by simp) (r.append (.cons ru .nil)) ?_,rfl,q⟩;rw [Zr,ZI];omega
noncomputable def Hj:V->List V->Hp->VK->Prop:=fun x vs H Q=>∃ l xs i k y,x = .ref l/\vs=[.int i]/\H l=some (.lst xs)/\-(2 ^ 63)<=i/\i < 2 ^ 63/\seqIndex? i xs.length=some k/\xs[k]?=some y/\Q y (upd H l (.lst (xs.eraseIdx k)))
theorem yY:MtM X "list.pop" Hj:=by
 intro pins s σ H x vs v us Q I rx rv h;obtain ⟨l,xs,i,k,y,rfl,rfl,hH,h1,h2,hk,hy,q⟩:=h;cases rx;obtain ⟨u,rfl,ru⟩:=rv.one;obtain ⟨t,rfl⟩:=ru;obtain ⟨z,its,n,r,hl,e⟩:=I.lstM hH;obtain ⟨w,hw,rw'⟩:=r.get hy
 refine call_meets F.slot_list_pop ⟨_,e,rfl⟩ F.entry_list_pop (F.args_list_pop_2 _ _)
  (MeetsSeq.list_pop_at l its.toArray n i t k w (fitsIndex_both h1 h2) (by rw [Zi,<-hl];exact hk) (by rw [<-Array.getElem?_toList];exact hw) (by rw [Zi];omega)) ⟨e,?_⟩
 refine ⟨y,_,I.lset (its':=its.eraseIdx k) hH e ?_ (r.eraseIdx k) ?_,rw',q⟩
 ·show its.toArray.eraseIdxIfInBounds k=(its.eraseIdx k).toArray;rw [List.eraseIdxIfInBounds_toArray]
 ·have:=oj xs k;omega
noncomputable def Ol:R2:=fun x y H Q=>∃ l b xs zs,x = .ref l/\y = .ref b/\H l=some (.lst xs)/\H b=some (.lst zs)/\xs.length+zs.length<=sizeLine/\∀ p,H p=none->Q (.ref p) (upd H p (.lst (xs++zs)))
theorem Hk:OpR X (binaryOp .Add) Ol:=by
 intro pins s σ H x y v u Q I rx ry h;obtain ⟨l,b,xs,zs,rfl,rfl,hH,hB,hz,q⟩:=h;cases rx;cases ry;obtain ⟨z,its,n,r,hl,e⟩:=I.lstM hH;obtain ⟨z2,its2,n2,r2,hl2,e2⟩:=I.lstM hB;refine PySem.P.add_list e e2 ?_ (by rw [Zi,Zi];omega);have ea:its.toArray++its2.toArray=(its++its2).toArray:=by simp
 rw [ea];exact ⟨.ref _,_,I.lnew (t':=s.toks) (r.append r2) (by rw [Zr];omega),rfl,q _ I.fresh⟩
noncomputable def Om:R2:=fun x y H Q=>∃ l k xs,x = .ref l/\y = .int k/\H l=some (.lst xs)/\-(2 ^ 63)<=k/\k < 2 ^ 63/\xs.length * k.toNat<=sizeLine ∧
 ∀ p,H p=none->Q (.ref p) (upd H p (.lst (Zo k.toNat xs).flatten))
theorem Cy {α:Type} (xs:List α) (k:Nat):(Zo k xs).flatten.length=k * xs.length:=by
 induction k with
 | zero=>simp
 | succ k ih=>rw [Z2,Yg,Zr,ih,Xl,Nat.add_comm]
theorem Hl:OpR X (binaryOp .Mult) Om:=by
 intro pins s σ H x y v u Q I rx ry h;obtain ⟨l,k,xs,rfl,rfl,hH,h1,h2,hz,q⟩:=h;cases rx;obtain ⟨t,rfl⟩:=ry;obtain ⟨z,its,n,r,hl,e⟩:=I.lstM hH;have hlen:its.toArray.size * k.toNat<=sizeLine:=by rw [Zi,<-hl];exact hz
 have hcap:¬ its.toArray.size * k.toNat > (2 ^ 63 - 1) / 8:=by
  have:(sizeLine:Nat)<=(2 ^ 63 - 1) / 8:=by decide
  omega
 have hfit:¬ (!Builtin.List.listFitsIndex k)=true:=by
  rw [fitsIndex_both h1 h2];exact Zf
 have hlong:¬ Builtin.List.listTooLong (its.toArray.size * k.toNat)=true:=by
  rw [yX hlen];exact Zf
 have hnew:XD (fun x1 x2=>x1++x2) #[] (Zo (if its.toArray.isEmpty=true then 0 else k.toNat) its.toArray)=(Zo k.toNat its).flatten.toArray:=by
  have f0:∀ m:Nat,XD (fun x1 x2=>x1++x2) #[] (Zo m its.toArray)=(Zo m its).flatten.toArray:=fun m=>by
   have:=om its m [];rw [Y2] at this;exact this
  rw [f0];cases its with
  | nil=>simp
  | cons a r'=>rw [if_neg (by simp)]
 refine wpAny_binaryOp_repeat_ref (T := "list") (U := "int") (by decide) ⟨_,e,rfl⟩ (fun s'=>typeIs_int s' k t) noFill_list_mul F.fills_int_mul F.slot_int_rmul repeat_list F.slot_int_index.lookup
  (call_meets F.slot_int_rmul (typeIs_int s k t) F.entry_int_rmul (F.args_int_rmul_2 _ _) (int___rmul___int_list k t l its.toArray n)
   ⟨e,rfl,⟨_,e,rfl⟩,call_meets F.slot_list_mul ⟨_,e,rfl⟩ F.entry_list_mul (F.args_list_mul_2 _ _) (AutoListH.list___mul___list_int_3 l its.toArray n k t hfit hcap hlong) ⟨e,?_⟩⟩)
 rw [hnew];exact ⟨.ref _,_,I.lnew (t':=s.toks) (r.rep k.toNat) (by rw [Cy,Nat.mul_comm];exact hz),rfl,q _ I.fresh⟩
end
end L2
namespace Att
open PySem PySem.W PySem.Calls PyProof.Rows
theorem kY {P:Params} {h:Heap}:∀ (ns:List Int) (vs:List Value),WellAll P h vs (ns.map WData.int)->IntsAre vs ns:=by
 intro ns
 induction ns with
 | nil=>
  intro vs w;rw [ZZ] at w;cases w;exact .nil
 | cons n ns ih=>
  intro vs w;rw [Zt] at w;cases w with
  | cons a b=>
   cases a;exact .cons _ _ (ih _ b)
theorem xk {l:OpenLaw} {n:Nat} (hn:l.most=some n) {P:Params} {h:Heap} {args:List WData} {vals:List Value}
  (hpre:l.row.toRowW.claim.pre args=true) (hwl:WellAll P h vals args) :
  ∃ a vs ns,vals=[Value.ref a]/\args=[WData.list (ns.map WData.int)]/\h.get? a=some { cls:=.type "list", data:=.seq vs.toArray }/\IntsAre vs ns/\ns.length<=n:=by
 have hsh:WShape.hasAll [] args [.list .int]=true:=(pre_splitW hpre).1;have hc:l.pre.holds [] { args:=args }=true:=(pre_splitW hpre).2;obtain ⟨d,r,rfl,h1,h2⟩:=hasAllW_cons hsh;obtain rfl:=hasAllW_nil h2;obtain ⟨xs,rfl,h3⟩:=hasW_list h1;obtain ⟨ns,rfl⟩:=items_int h3
 have hlen:ns.length<=n:=by
  unfold OpenLaw.pre at hc
  have h4:(WTm.not (.lt (.lit (.int (n:Int))) (.len (.arg 0)))).holds [] { args:=[.list (ns.map .int)] }=true:=by
   have h4:=(holds_andW hc).1;rw [hn] at h4;exact h4
  have h5:=condW_of h4 (w_not (w_lt w_lit (w_len_list (w_arg rfl))));rw [Za] at h5;refine Nat.le_of_not_lt fun q=>?_;have q':(n:Int) < ((ns.length:Nat):Int):=by omega
  first
   | (rw [decide_eq_true q'] at h5;exact absurd h5 (by decide))
   | (simp at h5;omega)
 cases hwl with
 | cons w1 w2=>
  cases w2;cases w1 with
  | list ho hall=>exact ⟨_,_,ns,rfl,rfl,ho,kY ns _ hall,hlen⟩
theorem xl (l:OpenLaw) (args:List WData):l.row.toRowW.claim.post args (.bool true) args=true:=
 postW_of (r:=l.row.toRowW) (X:=(true == true))
  (show WShape.has [] (.bool true) .bool=true by first | rfl | decide | simp [WShape.has,WShape.arms,WShape.armsAll])
  (show (WTm.eq .res (.lit (.bool true))).value [] { args:=args,res:=some (.bool true),after:=args }=some (.bool (true == true)) from w_eq_bool (w_res rfl) w_lit) rfl
theorem attach_call {l:OpenLaw} {n:Nat} {q:Program} {loose:List Str} {XP:(Str->Option Value)->Heap->Prop} {YP:World->Heap->Prop} {d:DefRec}
  (hn:l.most=some n) (hdf:d.params.defaults=[])
  (call:∀ (w:World) (s₀ s₁:Shared) (mg mb:Str->Option Value) (fa:Addr) (o:Obj) (pm cd doc:Value) (a:Addr) (vs:List Value) (ns:List Int),
   Ground q loose [] XP w s₀ mg mb s₁.heap->YP w s₁.heap ->
   s₁.heap.get? fa=some o->o.data = .func (docDef d.name d.params d.body d.scope pm cd doc)->s₁.heap.CodeRec cd d.name->mg d.name=some (.ref fa) ->
   s₁.heap.get? a=some { cls:=.type "list", data:=.seq vs.toArray }->IntsAre vs ns->ns.length<=n->s₁.gens=#[] ->
   codeAny (model l.prog w) callerA (.call (.ref fa) ⟨[.ref a],[]⟩) (fun r s'=>r = .ok (.ret (.bool true))/\OldK s₁.heap s'.heap/\s'.os=s₁.os/\AllBare s'.gens) s₁) :
  WalkO q loose XP YP l.row.toRowW d [] (fun f vs=>PySem.call f vs):=by
 intro w s₀ s₁ mg mb G Y fa o pm cd doc dV kV ho hd hcd hD hmg hg args vals as hpre hlay hrd hwl hlo;obtain rfl:dV = .none:=Dflts.none hD hdf;obtain rfl:kV = .none:=Dflts.noKw hD;obtain ⟨a,vs,ns,rfl,rfl,hobj,hints,hlen⟩:=xk hn hpre hwl;refine enter_call (codeAny_mono (call w s₀ s₁ mg mb fa o pm cd doc a vs ns G Y ho (fd_plain hd) hcd hmg hobj hints hlen hg) fun r s' hq=>?_);obtain ⟨rfl,h2,h3,h4⟩:=hq;exact ⟨.inl ⟨.bool true,.bool true,[],rfl,fun _=>rfl,.bool true,xl l _,fun _=>⟨List.Pairwise.nil,fun _ hm=>(nomatch hm)⟩⟩,h2,h3,h4⟩
end Att
namespace L2
open PySem PySem.Spec PyProof.Rows
theorem jM:∀ {vs:List Value} {ns:List Int},IntsAre vs ns->aP (ns.map V.int) vs
 | _,_,.nil=>.nil
 | _,_,.cons n t h=>.cons ⟨t,rfl⟩ (jM h)
noncomputable def LV (H:Hp):Prop:=∀ b,H b=none\/∃ o xs,H b=some (.frz o (.lst xs))
theorem yZ {P:Program} {w:World} {K:PySem.W.Frag} {mg mb:Str->Option Value} {CX:CXT} {k:Nat} {fa a:Addr} {fd:FuncData} {x:Str} {sp:Sp} {s₁:Shared} {vs:List Value} {ns:List Int}
  (KX:K.In s₁.heap) (hns:s₁.heap.Ns mainGlobals mg) (hb:s₁.heap.Ns builtinsNs mb) (hbb:∀ x:Str,x ≠ "__name__"->mb x=bootBuiltins x) (hlim:s₁.heap.NoLimit) (hg:s₁.gens=#[])
  (ha:s₁.heap.get? a=some { cls:=.type "list", data:=.seq vs.toArray }) (hi:IntsAre vs ns) (hl:ns.length<=sizeLine) (hr:Room k callerA)
  (F:∀ base:Heap,K.In base->base.Ns mainGlobals mg->FnOk P w K mg base CX k fa fd [x] sp) (hbind:∀ (s:Shared) (u:Value),BindsTo s fd ⟨[u],[]⟩ [(x,u)])
  (hsp:∀ H:Hp,LV H->SqL K H a (ns.map V.int)->sp [.ref a] H (fun v _=>v = .bl true) fun _ _ _=>False)
  (hCX:∀ H e s',CX [] H s₁ (fun _ _ _=>False) e s'->False) :
  codeAny (model P w) callerA (.call (.ref fa) ⟨[.ref a],[]⟩) (fun r s'=>r = .ok (.ret (.bool true))/\OldK s₁.heap s'.heap/\s'.os=s₁.os/\AllBare s'.gens) s₁:=by
 have rv:=jM hi;have lenV:=hi.length
 have core:∀ H:Hp,LV H->SqL K H a (ns.map V.int)->HOk P w H s₁.heap->(∀ b,H b ≠ none->b=a)->(H a ≠ none->K.lookup a=none) ->
   codeAny (model P w) callerA (.call (.ref fa) ⟨[.ref a],[]⟩) (fun r s'=>r = .ok (.ret (.bool true))/\OldK s₁.heap s'.heap/\s'.os=s₁.os/\AllBare s'.gens) s₁:=by
  intro H hO hS hok hA hK;have base_of:∀ {b:Addr} {o:Obj},s₁.heap.get? b=some o->H b=none->(pB s₁.heap H).get? b=some o:=fun e n=>yC e n
  have noA:∀ {b:Addr} {o:Obj} {es:Array DictEntry} {ep:Nat},s₁.heap.get? b=some o->o.data = .dict es ep->H b=none:=fun {b o es ep} e d=>by
   cases q:H b with
   | none=>rfl
   | some u=>
    have e':b=a:=hA b (by rw [q];simp);subst e';rw [ha] at e;cases e;have d':Data.seq vs.toArray _=Data.dict es ep:=d;cases d'
  have nsK:∀ {b:Addr} {m:Str->Option Value},s₁.heap.Ns b m->(pB s₁.heap H).Ns b m:=fun {b m} ⟨o,es,ep,e,d,r⟩=>⟨o,es,ep,base_of e (noA e d),d,r⟩
  have hKb:K.In (pB s₁.heap H):=fun b o e=>base_of (KX b o e) (by
   cases q:H b with
   | none=>rfl
   | some u=>
    have e':b=a:=hA b (by rw [q];simp);subst e';rw [hK (by rw [q];simp)] at e;cases e)
  have hM:Mod K mg (pB s₁.heap H):=⟨hKb,nsK hns,⟨mb,nsK hb,hbb⟩,let ⟨mc,h1,h2⟩:=hlim;⟨mc,nsK h1,h2⟩⟩;have e0:Env0 P w K mg (pB s₁.heap H) callerA [] s₁ H:=⟨rfl,hM,fun b o e=>Ca e,Nat.le_of_eq (wV _ _),trivial,fun b hb=>absurd (show b ∈ ([]:List Addr) from hb) (by simp),hok,.of_eq hg⟩;refine codeAny_mono ((F _ hKb (nsK hns)).run callerA [] s₁ H ⟨[.ref a],[]⟩ [.ref a] [.ref a] _ _ hr e0 (hbind s₁ (.ref a)) (.cons rfl .nil) (hsp H hO hS)) fun r s' h=>?_;cases r with
  | error e=>exact (hCX H e s' h).elim
  | ok fl=>
   cases fl with
   | next=>exact False.elim h
   | brk=>exact False.elim h
   | cont=>exact False.elim h
   | ret u=>
    obtain ⟨v,H',os,bare,un,hok',r',q⟩:=h;have q':v = .bl true:=q;subst q';obtain rfl:u=Value.bool true:=r';refine ⟨rfl,OldK.of_keep fun b o e=>?_,os,bare⟩;cases q:H b with
    | none=>exact un.keep b o e q (by intro z;exact absurd (show b ∈ ([]:List Addr) from z) (by simp)) (by simp)
    | some u=>
     rcases hO b with z | ⟨ob,xs,z⟩
     ·rw [q] at z;cases z
     ·have z2:=un.frzs b ob _ z;obtain ⟨e1,_⟩:=hok b _ z;obtain ⟨e2,_⟩:=hok' b _ z2;rw [e] at e1;cases e1;exact e2
 cases hk:K.lookup a with
 | some o=>
  have e:=KX a o hk;rw [ha] at e;cases e;refine core (fun _=>none) (fun _=>.inl rfl) (.inr ⟨_,vs.toArray,_,hk,rfl,rfl,rfl,by rw [Zi,lenV];exact hl,by simpa using rv⟩) (fun b u z=>by have z':(none:Option HO)=some u:=z;cases z') (fun b z=>absurd rfl z) fun z=>absurd rfl z
 | none=>
  refine core (fun b=>if b=a then some (.frz { cls:=.type "list", data:=.seq vs.toArray } (.lst (ns.map V.int))) else none) (fun b=>?_) (.inl (.inr ⟨{ cls:=.type "list", data:=.seq vs.toArray },if_pos rfl⟩)) (fun b u z=>?_) (fun b z=>?_) fun _=>hk
  ·by_cases hb:b=a
   ·exact .inr ⟨_,_,if_pos hb⟩
   ·exact .inl (if_neg hb)
  ·by_cases hb:b=a
   ·have z':=(if_pos hb).symm.trans z;cases z';subst hb;exact ⟨ha,by rw [Za];exact hl,vs,_,rv,ha⟩
   ·have z':=(if_neg hb).symm.trans z;cases z'
  ·by_cases hb:b=a
   ·exact hb
   ·exact absurd (if_neg hb) z
end L2
namespace L2
open PySem PySem.Spec PyProof.Rows
noncomputable def eO (s:Stmt):Arguments:=match s with
 | .FunctionDef _ a _ _ _ _ _ _ _ _=>a
 | _=>{ posonlyargs:=[],args:=[],vararg:=none,kwonlyargs:=[],kw_defaults:=[],kwarg:=none,defaults:=[] }
noncomputable def cm (s:Stmt):List Stmt:=match s with
 | .FunctionDef _ _ b _ _ _ _ _ _ _=>b
 | _=>[]
noncomputable def bg (s:Stmt):Scope:=match s with
 | .FunctionDef _ _ _ _ _ _ sc _ _ _=>sc
 | _=>{ kind:=.function,names:=[],isGenerator:=false,isCoroutine:=false }
noncomputable abbrev CX0:CXT:=fun _ _ _ _ _ _=>False
noncomputable abbrev E0:XK:=fun _ _ _=>False
theorem LW {X:Cx}:tL CX0 X E0:=fun _ _ _ _ _ _ _ h=>h.elim
structure Fun (K:PySem.W.Frag) (x qual:Str) (st:Stmt) (f:Addr) (fd:FuncData):Prop where
 ex:∃ (oc:Value) (od:Option Addr) (kV doc pm:Value) (an:Option Addr) (cdv ct:Value) (osl:Array (Option Value)),
  fd=PySem.W.fnOf x qual (eO st) (cm st) (bg st) .none kV doc pm an cdv ct/\K.lookup f=some ⟨oc,od,.func fd,osl⟩/\PySem.W.codeIn K cdv qual=true
 kp:PySem.W.keepIn K (.ref f)=true
section
variable {P:Program} {w:World} {K:PySem.W.Frag} {mg:Str->Option Value} {base:Heap}
theorem Fun.ok {x qual:Str} {st:Stmt} {f:Addr} {fd:FuncData} {N ps:List Str} {k:Nat} {sp:Sp} (F:Fun K x qual st f fd) (S:FnScope N ps (bg st)) (len:∀ vs H Q E,sp vs H Q E->vs.length=ps.length)
  (hbody:∀ (cdv:Value) (A:Around) (outer:List Env) (s:Shared) (H:Hp) (vs:List V) (Q:VK) (E:XK),Room k (A.deeper (envOfC qual (bg st) s.heap.objs.size f cdv))->sp vs H Q E ->
   ∃ t,PSs (tM CX0 P w K mg base N qual (bg st) f cdv A outer s H E).nox (cm st) t/\t { nx:=fun _ H'=>Q .non H',rt:=Q } (hR N vs) H):FnOk P w K mg base CX0 (k+1) f fd ps sp:=by
 obtain ⟨oc,od,kV,doc,pm,an,cdv,ct,osl,rfl,lk,hcd⟩:=F.ex;refine LO lk hcd S len fun A outer s H vs Q E hr hsp=>?_;obtain ⟨t,h,q⟩:=hbody cdv A outer s H vs Q E hr hsp;exact ⟨t,h.nox,q⟩
theorem Fun.binds {x qual:Str} {st:Stmt} {f:Addr} {fd:FuncData} {ps:List Str} (F:Fun K x qual st f fd)
  (h:∀ (kV doc pm:Value) (an:Option Addr) (cdv ct:Value) (us:List Value),us.length=ps.length->bindArgs (PySem.W.fnOf x qual (eO st) (cm st) (bg st) .none kV doc pm an cdv ct) ⟨us,[]⟩=pure (ps.zip us)):n9 K fd ps []:=by
 obtain ⟨oc,od,kV,doc,pm,an,cdv,ct,osl,rfl,lk,hcd⟩:=F.ex;exact .all (h kV doc pm an cdv ct)
theorem Hm {x qual:Str} {st:Stmt} {f:Addr} {oc:Value} {od an:Option Addr} {osl:Array (Option Value)} {kV doc pm cdv ct:Value} (l:K.lookup f=some ⟨oc,od,.func (PySem.W.fnOf x qual (eO st) (cm st) (bg st) .none kV doc pm an cdv ct),osl⟩)
  (c:PySem.W.codeIn K cdv qual=true) (k:PySem.W.keepIn K (.ref f)=true):Fun K x qual st f (PySem.W.fnOf x qual (eO st) (cm st) (bg st) .none kV doc pm an cdv ct):=⟨⟨oc,od,kV,doc,pm,an,cdv,ct,osl,rfl,l,c⟩,k⟩
end
theorem xm {n:Nat} (h:n<=1000):n < sizeLine:=Nat.lt_of_le_of_lt h (by decide)
end L2
namespace L2
open PySem PySem.Spec PyProof.Rows
section
variable {κ:Type} [DecidableEq κ]
noncomputable def qX (kvs:List (κ × V)) (k:κ) (v:V):List (κ × V):=
 if (kvs.any fun kv=>decide (kv.1=k))=true then kvs.map (fun kv=>if kv.1=k then (kv.1,v) else kv) else kvs++[(k,v)]
theorem qY (kvs:List (κ × V)) (k:κ) (v:V):(qX kvs k v).length<=kvs.length+1:=by
 unfold qX;split
 ·rw [Za];omega
 ·rw [Zr,ZA,Y3];omega
theorem KV.any {kvs:List (κ × V)} {vs:List (κ × Value)} (r:KV kvs vs) (k:κ):(kvs.any fun kv=>decide (kv.1=k))=vs.any fun kv=>decide (kv.1=k):=by
 unfold KV at r
 induction r with
 | nil=>rfl
 | cons h t ih=>rw [Yu,Yu,ih,h.1]
theorem KV.repl {kvs:List (κ × V)} {vs:List (κ × Value)} (r:KV kvs vs) (k:κ) {y:V} {u:Value} (ry:aM y u) :
  KV (kvs.map fun kv=>if kv.1=k then (kv.1,y) else kv) (vs.map fun kv=>if kv.1=k then (kv.1,u) else kv):=by
 unfold KV at r ⊢
 induction r with
 | nil=>exact .nil
 | @cons p q ps qs h t ih=>
  rw [Zt,Zt];refine .cons ?_ ih;obtain ⟨h1,h2⟩:=h;by_cases e:p.1=k
  ·rw [if_pos e,if_pos (h1.symm.trans e)];exact ⟨h1,ry⟩
  ·rw [if_neg e,if_neg (fun z=>e (h1.trans z))];exact ⟨h1,h2⟩
theorem KV.put {kvs:List (κ × V)} {vs:List (κ × Value)} (r:KV kvs vs) (k:κ) {y:V} {u:Value} (ry:aM y u):KV (qX kvs k y) (stored vs k u):=by
 unfold qX stored;rw [r.any k];by_cases e:(vs.any fun kv=>decide (kv.1=k))=true
 ·rw [if_pos e,if_pos e];exact r.repl k ry
 ·rw [if_neg e,if_neg e];exact Paired.snoc r ⟨rfl,ry⟩
end
theorem LX {P:Program} {w:World} {k:Key} {u:Value} (r:aM (kV k) u):(bC P w).is k u=true:=by
 cases k with
 | inl i=>obtain ⟨t,e⟩:=(show ∃ t,u=Value.int i t from r);subst e;exact qQ P w i t
 | inr x=>obtain ⟨t,e⟩:=(show ∃ t,u=Value.str x t from r);subst e;exact qR P w x t
section
variable {P:Program} {w:World} {H:Hp} {h:Heap} {a:Addr}
theorem LY {u:HO} (ok:HOk P w H h) (e:Rd H a u):bw P w H h a u:=e.ok ok
theorem LZ {kvs:List (Key × V)} (ok:HOk P w H h) (e:Rd H a (.dK kvs)):kvs.length<=sizeLine/\(a == sysModules)=false/\∃ vs,KV kvs vs/\h.DictOf (bC P w) a vs:=
 show bw P w H h a (.dK kvs) from LY ok e
theorem L1 {kvs:List (Key × V)} (ok:HOk P w H h) (e:H a=some (.dK kvs)):kvs.length<=sizeLine/\(a == sysModules)=false/\∃ vs,KV kvs vs/\h.DictOf (bC P w) a vs:=LZ ok (.inl e)
end
section
variable {X:Cx} {pins:List (Addr × Obj)} {σ:St} {H:Hp} {s:Shared} {a:Addr} {y v:V} {u r:Value} {o:Option V} {A:Around} {E:Value->Shared->Prop}
theorem Inv.big (I:Inv X pins σ H s):sysModules < s.heap.objs.size:=by
 have h:mainGlobals < s.heap.objs.size:=(I.mod.glob.keeps I.bk).lt;exact Nat.lt_trans (by decide) h
theorem Cz {h':Heap} {t':Nat} {ob:HO} (I:Inv X pins σ H s) (mu:Mut (H a)) (hs:Heap.SameBut a s.heap h') (he:∃ q,h'.get? a=some q) (new:bw X.prog X.w (upd H a ob) h' a ob) :
  Inv X pins σ (upd H a ob) { s with heap:=h',toks:=t' }:=
 I.write (x:=a) (e:=a) mu (.inl rfl) (fun b q hb z=>(hs.2 b hb).trans z) he new
theorem Hn {P:Program} {w:World} {H':Hp} {h':Heap} {kvs:List (Key × V)} {vs:List (Key × Value)} (z:kvs.length<=sizeLine) (hd:(a == sysModules)=false) (rel:KV kvs vs) (dd:h'.DictOf (bC P w) a vs) :
  bw P w H' h' a (.dK kvs):=⟨z,hd,vs,rel,dd⟩
end
theorem qZ {P:Program} {w:World} {H:Hp} (h:Heap) (hb:sysModules < h.objs.size):bw P w H (h.push { cls:=.type "dict", data:=.dict #[] }) h.objs.size (.dK []):=
 ⟨Xx _,beq_eq_false_iff_ne.mpr (Ne.symm (ZC hb)),[],.nil,Heap.DictOf.new h⟩
noncomputable def y7:TE:=fun _ H Q=>∀ p,H p=none->Q (.ref p) (upd H p (.dK []))
section
variable {X:Cx} {pos:Pos}
theorem y8:PE X (.Dict [] [] pos) y7:=fun pins s σ H Q I h=>
 wpAny_Dict_empty ⟨.ref s.heap.objs.size,_,I.laid (a:=s.heap.objs.size) (o:=.dK []) (t':=s.toks) (fun _ _ q=>Zh _ q) (Zd _) (qZ s.heap I.big),rfl,h _ (I.hok.fresh (Zd _))⟩
end
noncomputable def tR:List (TE × TE)->St->Hp->(List (V × V)->Hp->Prop)->Prop
 | [],_,H,Q=>Q [] H
 | (tk,tv)::r,σ,H,Q=>tk σ H fun x H1=>tv σ H1 fun y H2=>tR r σ H2 fun ps H3=>Q ((x,y)::ps) H3
noncomputable abbrev VV:List (V × V)->List (Value × Value)->Prop:=Paired fun p q=>aM p.1 q.1/\aM p.2 q.2
noncomputable def PPs (X:Cx) (pos:Pos) (keys:List (Option Expr)) (values:List Expr) (trs:List (TE × TE)):Prop:=
 ∀ (pins:List (Addr × Obj)) (s:Shared) (σ:St) (H:Hp) (Q:List (V × V)->Hp->Prop),Inv X pins σ H s->tR trs σ H Q ->
  wpAny (model X.prog X.w) X.A (evalPairs (pairTrees keys values X.env pos)) (fun vs s'=>∃ ps H',Inv X pins σ H' s'/\VV ps vs/\Q ps H') X.xe s
theorem CA {X:Cx} {pos:Pos}:PPs X pos [] [] []:=fun pins s σ H Q I h=>pairTrees_nil_walk ⟨[],H,I,.nil,h⟩
theorem y9 {X:Cx} {pos:Pos} {k v:Expr} {ks:List (Option Expr)} {vs:List Expr} {tk tv:TE} {trs:List (TE × TE)} (hk:PE X k tk) (hv:PE X v tv) (hr:PPs X pos ks vs trs) :
  PPs X pos (some k::ks) (v::vs) ((tk,tv)::trs):=fun pins s σ H Q I h=>
 pairTrees_cons_walk (thn (hk pins s σ H _ I h) fun u s1 ⟨x,H1,I1,rx,q1⟩=>thn (hv pins s1 σ H1 _ I1 q1) fun w2 s2 ⟨y,H2,I2,ry,q2⟩=>
  thn (hr pins s2 σ H2 _ I2 q2) fun ws s3 ⟨ps,H3,I3,rel,q3⟩=>⟨(x,y)::ps,H3,I3,.cons ⟨rx,ry⟩ rel,q3⟩)
noncomputable def lZ (kvs more:List (Key × V)):List (Key × V):=more.foldl (fun acc kv=>qX acc kv.1 kv.2) kvs
theorem KV.merge:∀ {more:List (Key × V)} {rs:List (Key × Value)} {kvs:List (Key × V)} {vs:List (Key × Value)},KV more rs->KV kvs vs->KV (lZ kvs more) (merged vs rs):=by
 intro more rs kvs vs r;unfold KV at r
 induction r generalizing kvs vs with
 | nil=>intro q;exact q
 | @cons p q ps qs h t ih=>
  intro r0
  have e:KV (qX kvs p.1 p.2) (stored vs q.1 q.2):=by
   have:=r0.put p.1 h.2;rw [<-h.1];exact this
  exact ih e
theorem hU:∀ (more kvs:List (Key × V)),(lZ kvs more).length<=kvs.length+more.length
 | [],kvs=>by show kvs.length<=kvs.length+0;omega
 | p::r,kvs=>by
  have h1:=hU r (qX kvs p.1 p.2);have h2:=qY kvs p.1 p.2;show (lZ (qX kvs p.1 p.2) r).length<=_;rw [ZA];omega
theorem l4 {P:Program} {w:World}:∀ {kvs:List (Key × V)} {ws:List (Value × Value)},VV (kvs.map fun kv=>(kV kv.1,kv.2)) ws->∃ rs,Carries (bC P w) ws rs/\KV kvs rs
 | [],_,r=>by rw [ZZ] at r;cases r;exact ⟨[],True.intro,.nil⟩
 | p::kvs,_,r=>by
  rw [Zt] at r;cases r with
  | @cons a b as bs h t=>
   obtain ⟨rs,c,q⟩:=l4 (P:=P) (w:=w) t;obtain ⟨b1,b2⟩:=b;exact ⟨(p.1,b2)::rs,⟨LX h.1,rfl,c⟩,.cons ⟨rfl,h.2⟩ q⟩
noncomputable def zc (trs:List (TE × TE)):TE:=fun σ H Q=>∀ p,H p=none->tR trs σ (upd H p (.dK [])) fun ps H2=>H2 p=some (.dK [])/\∃ kvs:List (Key × V),ps=kvs.map (fun kv=>(kV kv.1,kv.2))/\kvs.length<=15/\Q (.ref p) (upd H2 p (.dK (lZ [] kvs)))
theorem CB {X:Cx} {pos:Pos} {keys:List (Option Expr)} {values:List Expr} {trs:List (TE × TE)} (h:PPs X pos keys values trs) (hall:keys.all (·.isSome)=true) (hl:keys.length=values.length) (h0:keys ≠ [])
  (h15:keys.length<=15):PE X (.Dict keys values pos) (zc trs):=by
 intro pins s σ H Q I q;have hn:=I.hok.fresh (Zd s.heap.objs.size);have I1:=I.laid (a:=s.heap.objs.size) (o:=.dK []) (h':=s.heap.push { cls:=.type "dict", data:=.dict #[] }) (t':=s.toks) (fun _ _ q=>Zh _ q) (Zd _) (qZ s.heap I.big);refine wpAny_Dict_walk (knd:=bC X.prog X.w) hall hl h0 h15 (thn (h pins _ σ _ _ I1 (q _ hn)) fun ws s2 ⟨ps,H2,I2,rel,e,kvs,ep,lk,q2⟩=>?_);subst ep;obtain ⟨rs,c,rk⟩:=l4 (P:=X.prog) (w:=X.w) rel;obtain ⟨z,hd,vs0,r0,dd⟩:=L1 I2.hok e;cases r0;refine ⟨rs,c,dd,fun h' dd' hs=>⟨.ref s.heap.objs.size,_,?_,rfl,q2⟩⟩
 have hz:(lZ [] kvs).length<=sizeLine:=by
  have h1:=hU kvs [];rw [Y3] at h1;rw [sizeLine_eq];omega
 have he:∃ q,h'.get? s.heap.objs.size=some q:=let ⟨q,_,_,hq,_⟩:=dd';⟨q,hq⟩;exact Cz I2 (by rw [e];exact True.intro) hs he (Hn hz hd (rk.merge .nil) dd')
end L2
namespace L2
open PySem PySem.Spec PyProof.Rows
noncomputable def pL (ifs:List Expr) (env:Env):Sem Bool:=
 forIn ifs true fun c r=>if r=true then do let ok <-isTrue c env (eval c env);pure (ForInStep.yield ok) else pure (ForInStep.yield r)
theorem CC {M:Model} {A:Around} {E:Value->Shared->Prop} {s:Shared} {elt tg iter:Expr} {ifs:List Expr} {gens:List Comprehension} {scope:Scope} {pos:Pos} {d:Nat} {it acc:Value} {env:Env} {Q:Fin->Shared->Prop}
  (hg:gens[d]?=some ⟨tg,iter,ifs,0⟩)
  (h:wpAny M A (pyNext it) (fun r s1=>match r with
   | none=>Q (.done .next) s1
   | some v=>wpAny M A (letOwnedTupleGo tg it v) (fun _ s2=>wpAny M A (assign tg env v) (fun _ s3=>wpAny M A (pL ifs env) (fun ok s4=>if ok=true then (match gens[d+1]? with
     | none=>wpAny M A (eval elt env) (fun x s5=>wpAny M A (call (.builtin "list.append") [acc,x]) (fun _ s6=>Q (.again (.compLoop (.ListComp elt gens scope pos) d it acc env)) s6) E s5) E s4
     | some g'=>g'.is_async=0/\wpAny M A (eval g'.iter env) (fun x s5=>wpAny M A (foldedSetIterable g'.iter env x) (fun x' s6=>wpAny M A (pyIter x') (fun it' s7=>
       wpAny M A (runOwn (.compStart (.ListComp elt gens scope pos) (d+1) it' acc env) env) (fun _ s8=>Q (.again (.compLoop (.ListComp elt gens scope pos) d it acc env)) s8) E s7) E s6) E s5) E s4)
    else Q (.again (.compLoop (.ListComp elt gens scope pos) d it acc env)) s4) E s3) E s2) E s1) E s) :
  wpAny M A (compTurn (.ListComp elt gens scope pos) d it acc env) Q E s:=by
 unfold compTurn;simp only [hg];refine wpAny_bind (wpAny_standAt ?_);show wpAny M A (pyNext it >>= _) Q E s;refine wpAny_bind (wpAny_mono h (fun r s1 h1=>?_) fun _ _ x=>x);cases r with
 | none=>exact wpAny_pure h1
 | some v=>
  refine wpAny_bind (wpAny_mono h1 (fun _ s2 h2=>?_) fun _ _ x=>x);refine wpAny_bind (wpAny_mono h2 (fun _ s3 h3=>?_) fun _ _ x=>x);refine wpAny_bind (wpAny_mono h3 (fun ok s4 h4=>?_) fun _ _ x=>x);cases ok with
  | false=>exact wpAny_pure h4
  | true=>
   simp only [if_true] at h4 ⊢;cases hn:gens[d+1]? with
   | none=>
    rw [hn] at h4;refine wpAny_bind (wpAny_bind (wpAny_mono h4 (fun x s5 h5=>?_) fun _ _ x=>x));exact wpAny_bind (wpAny_mono h5 (fun _ s6 h6=>wpAny_pure (wpAny_pure h6)) fun _ _ x=>x)
   | some g'=>
    rw [hn] at h4;obtain ⟨ha,h4⟩:=h4;refine wpAny_bind (wpAny_mono h4 (fun x s5 h5=>wpAny_bind (wpAny_standAt ?_)) fun _ _ x=>x);rw [ha];show wpAny M A (foldedSetIterable g'.iter env x >>= _) Q E s5;refine wpAny_bind (wpAny_mono h5 (fun x' s6 h6=>?_) fun _ _ x=>x);refine wpAny_bind (wpAny_holding (wpAny_mono h6 (fun it' s7 h7=>?_) fun _ _ x=>x));exact wpAny_bind (wpAny_mono h7 (fun _ s8 h8=>wpAny_pure h8) fun _ _ x=>x)
end L2
namespace L2
open PySem PySem.Spec PyProof.Rows
noncomputable def bW (cells:List (Str × Addr)):List (Str × NameKind)->List (Str × Addr)->List (Str × Addr)
 | [],acc=>acc
 | (n,k)::r,acc=>if k == .free then bW cells r ((n,(cells.lookup n).getD 0)::acc) else bW cells r acc
theorem iA {env:Env}:∀ (names:List (Str × NameKind)) (acc:List (Str × Addr)),(∀ y ∈ names,y.2 = .free->∃ c,env.cells.lookup y.1=some c) ->
  (forIn names acc fun (x:Str × NameKind) (cs:List (Str × Addr))=>(match x with | (name,kind)=>if kind == .free then (do let a <-cellOf env name;pure (ForInStep.yield ((name,a)::cs))) else pure (ForInStep.yield cs):Sem (ForInStep (List (Str × Addr)))))
   = (pure (bW env.cells names acc):Sem (List (Str × Addr)))
 | [],acc,_=>by rw [YM];rfl
 | (n,k)::r,acc,h=>by
  rw [Xz];have hr:∀ y ∈ r,y.2 = .free->∃ c,env.cells.lookup y.1=some c:=fun y hy=>h y (Ze _ hy);cases hk:(k == NameKind.free) with
  | true=>
   obtain ⟨c,hc⟩:=h (n,k) Zg (by simpa using hk);have e:cellOf env n=pure c:=by unfold cellOf;rw [show env.cells.lookup n=some c from hc]
   simp only [hk,if_true,e,pure_bind];rw [iA r _ hr]
   conv=>rhs;rw [bW]
   simp only [hk,if_true];rw [show env.cells.lookup n=some c from hc];rfl
  | false=>
   simp only [hk,Z3,if_false,pure_bind];rw [iA r _ hr]
   conv=>rhs;rw [bW]
   simp only [hk,Z3,if_false]
theorem vC {env:Env} {scope:Scope} (h:∀ y ∈ scope.names,y.2 = .free->∃ c,env.cells.lookup y.1=some c):closureFor scope env=pure (bW env.cells scope.names []):=by
 have e:=iA (env:=env) scope.names [] h;unfold closureFor;refine Eq.trans ?_ e
 first
  | rfl
  | (rw [bind_pure])
  | (simp only [bind_pure])
theorem jN {cells:List (Str × Addr)}:∀ {names:List (Str × NameKind)} {acc:List (Str × Addr)} {x:Str} {c:Addr},(x,c) ∈ bW cells names acc->(x,c) ∈ acc\/((x,NameKind.free) ∈ names/\c=(cells.lookup x).getD 0)
 | [],_,_,_,h=>.inl h
 | (n,k)::r,acc,x,c,h=>by
  unfold bW at h;split at h
  ·rename_i hk;have hk':k = .free:=by simpa using hk
   rcases jN h with e | ⟨e,q⟩
   ·rcases Zk.mp e with e | e
    ·cases e;exact .inr ⟨by rw [hk'];exact Zg,rfl⟩
    ·exact .inl e
   ·exact .inr ⟨Ze _ e,q⟩
  ·rcases jN h with e | ⟨e,q⟩
   ·exact .inl e
   ·exact .inr ⟨Ze _ e,q⟩
theorem fQ {x:Str}:∀ {l:List (Str × Addr)},(∃ c,(x,c) ∈ l)->∃ c,l.lookup x=some c
 | [],⟨_,h⟩=>nomatch h
 | (n,c)::r,⟨c',h⟩=>by
  rw [Yl];cases hb:x == n with
  | true=>exact ⟨c,rfl⟩
  | false=>
   rcases Zk.mp h with e | e
   ·cases e;simp at hb
   ·exact fQ ⟨c',e⟩
theorem gD {cells:List (Str × Addr)} {x:Str}:∀ {names:List (Str × NameKind)} {acc:List (Str × Addr)},(x,NameKind.free) ∈ names\/(∃ c,(x,c) ∈ acc)->∃ c,(x,c) ∈ bW cells names acc
 | [],_,h=>h.elim (fun e=>nomatch e) id
 | (n,k)::r,acc,h=>by
  unfold bW;split
  ·rename_i hk;refine gD ?_;rcases h with h | ⟨c,h⟩
   ·rcases Zk.mp h with e | e
    ·cases e;exact .inr ⟨_,Zg⟩
    ·exact .inl e
   ·exact .inr ⟨c,Ze _ h⟩
  ·rename_i hk;refine gD ?_;rcases h with h | ⟨c,h⟩
   ·rcases Zk.mp h with e | e
    ·cases e;exact absurd rfl hk
    ·exact .inl e
   ·exact .inr ⟨c,h⟩
theorem cn:∀ (names:List (Str × NameKind)) (n:Nat) (acc:List (Str × Addr)),cellsFrom n names acc=cellsFrom n names []++acc
 | [],_,_=>rfl
 | (y,k)::r,n,acc=>by
  unfold cellsFrom;split
  ·rw [cn r (n+1) ((y,n)::acc),cn r (n+1) [(y,n)],Z6];rfl
  ·exact cn r n acc
theorem dM:∀ (names:List (Str × NameKind)) (n:Nat) (acc:List (Str × Addr)) (x:Str) (c:Addr),(x,c) ∈ cellsFrom n names acc->(x,c) ∈ acc\/(x,NameKind.cell) ∈ names
 | [],_,_,_,_,h=>.inl h
 | (y,k)::r,n,acc,x,c,h=>by
  unfold cellsFrom at h;split at h
  ·rename_i hk;have hk':k = .cell:=by simpa using hk
   rcases dM r _ _ x c h with e | e
   ·rcases Zk.mp e with e | e
    ·cases e;exact .inr (by rw [hk'];exact Zg)
    ·exact .inl e
   ·exact .inr (Ze _ e)
  ·rcases dM r _ _ x c h with e | e
   ·exact .inl e
   ·exact .inr (Ze _ e)
noncomputable def nU (sc:Scope) (n:Str) (k:NameKind):NameKind:=if (k == .free && sc.kind == .function && sc.names.lookup n == some .cell) then .cell else k
noncomputable def fR (scope sc:Scope):Scope:={ scope with names:=scope.names.map fun y=>(y.1,nU sc y.1 y.2) }
theorem CD (scope:Scope) (env:Env):relabel scope env=fR scope env.scope:=by
 unfold relabel fR
 congr 1
 refine YL fun y _=>?_;obtain ⟨n,k⟩:=y;unfold nU;dsimp only;show (if (k == NameKind.free && env.scope.kind == ScopeKind.function && List.lookup n env.scope.names == some NameKind.cell)=true then (n,NameKind.cell) else (n,k))=_;split <;> rfl
theorem fS (sc:Scope) (x:Str):∀ names:List (Str × NameKind),(names.map fun y=>(y.1,nU sc y.1 y.2)).lookup x=(names.lookup x).map (nU sc x)
 | []=>rfl
 | (n,k)::r=>by
  rw [Zt,Yl,Yl];dsimp only;cases hb:x == n with
  | true=>
   have q:x=n:=by simpa using hb
   subst q;rfl
  | false=>exact fS sc x r
noncomputable def tS (scope:Scope) (C:Addr) (env:Env):Env:=
 { scope:=fR scope env.scope,locals:=C,globals:=env.globals,cells:=cellsFrom (C+1) scope.names (bW env.cells scope.names []),qual:=env.qual,func:=none,code:=env.code,frame:=env.frame,builtins:=env.builtins }
theorem xn {M:Model} {A:Around} {E:Value->Shared->Prop} {s:Shared} {scope:Scope} {cl:List (Str × Addr)} {env:Env} {Q:Env->Shared->Prop}
  (h:Q { scope:=scope,locals:=s.heap.objs.size,globals:=env.globals,cells:=cellsFrom (s.heap.objs.size+1) scope.names cl,qual:=env.qual,func:=none,code:=env.code,frame:=env.frame,builtins:=env.builtins }
   { s with heap:=pushCells (s.heap.push { cls:=.type "dict", data:=.dict #[] }) scope.names }) :
  wpAny M A (newFunctionEnv scope env.globals cl [] env.qual none .none (some env)) Q E s:=by
 simp only [newFunctionEnv,Option.isSome_some,if_true];refine wpAny_bind (wpAny_alloc ?_);refine wpAny_bind (wpAny_layCells _ (fun name kind cells=>by cases hkc:kind == NameKind.cell <;> simp [hkc]) _ _ _ _ ?_);rw [show ({ s with heap:=s.heap.push { cls:=.type "dict", data:=.dict #[] } }:Shared).heap.objs.size=s.heap.objs.size+1 from Yw ..];simp only [YM]
 first
  | exact wpAny_bind (wpAny_pure (wpAny_pure h))
  | exact wpAny_pure h
noncomputable def zd (i:Nat):Str:=⟨#[i]⟩
noncomputable def cT:List Nat->List Str->List Str
 | [],N=>N
 | i::hs,N=>cT hs (N.set i (zd i))
theorem jO:∀ (hs:List Nat) (N:List Str),(cT hs N).length=N.length
 | [],_=>rfl
 | i::hs,N=>by rw [cT,jO hs,Z7]
theorem oq:∀ (hs:List Nat) (N:List Str) {i:Nat} {x:Str},(cT hs N)[i]?=some x->N[i]?=some x\/∃ j ∈ hs,x=zd j
 | [],_,_,_,h=>.inl h
 | k::hs,N,i,x,h=>by
  rw [cT] at h;rcases oq hs (N.set k (zd k)) h with e | ⟨j,hj,e⟩
  ·rw [Yv] at e;split at e
   ·split at e
    ·exact .inr ⟨k,Zg,(Option.some.inj e).symm⟩
    ·cases e
   ·exact .inl e
  ·exact .inr ⟨j,Ze _ hj,e⟩
structure CmScope (own:List Str) (hs:List Nat) (N:List Str) (scope sc:Scope):Prop where
 kind:scope.kind = .function
 nd:(cT hs N++own).Nodup
 uniq:(scope.names.map (·.1)).Nodup
 dis:∀ x ∈ cT hs N,scope.names.lookup x ≠ some .local/\scope.names.lookup x ≠ some .cell
 fr:∀ y ∈ scope.names,y.2 = .free->sc.names.lookup y.1=some .cell\/sc.names.lookup y.1=some .free
 hd:∀ i ∈ hs,scope.names.lookup (zd i)=none
theorem cQ:∀ {l:List (Str × NameKind)} {x:Str} {k:NameKind},(l.map (·.1)).Nodup->(x,k) ∈ l->l.lookup x=some k
 | (n,k')::r,x,k,nd,h=>by
  rw [Zt,Yt] at nd;rw [Yl];rcases Zk.mp h with e | e
  ·cases e;simp
  ·have ne:(x == n)=false:=by
    cases hb:x == n with
    | false=>rfl
    | true=>
     have q:x=n:=by simpa using hb
     subst q;exact absurd (ZD.mpr ⟨(x,k),e,rfl⟩) nd.1
   rw [ne];exact cQ nd.2 e
noncomputable def cxC (X:Cx) (own:List Str) (hs:List Nat) (scope:Scope) (C:Addr) (ex:List Addr) (s:Shared) (H:Hp):Cx where
 prog:=X.prog
 w:=X.w
 K:=X.K
 mg:=X.mg
 base:=X.base
 A:=X.A
 N:=cT hs X.N++own
 s₀:=s
 H₀:=H
 env:=tS scope C X.env
 outer:=X.stack
 stack:=X.stack
 ex:=ex
 fn:=fun x=>scope.names.lookup x == some .cell
 calm:=X.calm
 pn:=[]
 xe:=fun _ _=>False
section
variable {X:Cx} {pins:List (Addr × Obj)} {σ:St} {H:Hp} {s:Shared} {own:List Str} {hs:List Nat} {scope:Scope} {fp:List Addr}
theorem Inv.compStart (I:Inv X pins σ H s) (S:CmScope own hs X.N scope X.env.scope) (hf:∀ b ∈ fp,gX X pins H b) (hfo:∀ b ∈ fp,b < s.heap.objs.size) :
  Inv (cxC X own hs scope s.heap.objs.size fp s H) [] (σ++Zo own.length none) H { s with heap:=pushCells (s.heap.push { cls:=.type "dict", data:=.dict #[] }) scope.names }:=by
 have keep:∀ b o,s.heap.get? b=some o->(pushCells (s.heap.push { cls:=.type "dict", data:=.dict #[] }) scope.names).get? b=some o:=fun b o e=>pushCells_keeps _ _ b o (Zh _ e);have ok:=cellsFrom_ok scope.names (s.heap.push { cls:=.type "dict", data:=.dict #[] }) (s.heap.objs.size+1) [] ⟨fun _ _ hm=>(nomatch hm),List.Pairwise.nil⟩ (by rw [Yw];exact Zd _);rw [Yw] at ok;have cells:(tS scope s.heap.objs.size X.env).cells=cellsFrom (s.heap.objs.size+1) scope.names []++bW X.env.cells scope.names []:=cn _ _ _;have hasX:∀ x,(x,NameKind.free) ∈ scope.names->∃ c,X.env.cells.lookup x=some c:=fun x h=>I.ok.has x (S.fr (x,.free) h rfl)
 have old:∀ x c,(x,c) ∈ bW X.env.cells scope.names []->X.env.cells.lookup x=some c/\(x,NameKind.free) ∈ scope.names:=fun x c h=>by
  rcases jN h with e | ⟨e,q⟩
  ·exact nomatch e
  ·obtain ⟨c',hc⟩:=hasX x e;rw [hc] at q;exact ⟨by rw [hc,q];rfl,e⟩
 have oldlt:∀ x c,X.env.cells.lookup x=some c->c < s.heap.objs.size:=fun x c h=>let ⟨_,z⟩:=I.cell x c h;z.lt
 have which:∀ x c,(tS scope s.heap.objs.size X.env).cells.lookup x=some c->((x,c) ∈ cellsFrom (s.heap.objs.size+1) scope.names [])\/(X.env.cells.lookup x=some c/\(x,NameKind.free) ∈ scope.names):=fun x c h=>by
  have m:=PySem.mem_of_lookup h;rw [cells] at m;rcases ZK.mp m with e | e
  ·exact .inl e
  ·exact .inr (old x c e)
 have neu:∀ x c,(x,c) ∈ cellsFrom (s.heap.objs.size+1) scope.names []->s.heap.objs.size+1<=c:=fun x c h=>(ok.empty x c h).2
 have noFs:∀ b ∈ fp,b ∉ frs X.stack:=fun b hb z=>by
  rcases Zk.mp (I.stkSub b z) with e | e
  ·exact (hf b hb).2.1 e
  ·exact (hf b hb).2.2.1 e
 have xok:(cxC X own hs scope s.heap.objs.size fp s H).Ok:=by
  refine ⟨I.ok.mod,S.kind,I.ok.glob,I.ok.blt,Zd _,?_,?_,?_,I.ok.hd,I.ok.frames,.inl rfl,?_,I.bs,Zv I.ok.bsz I.sz,?_,noFs,I.stack,I.stkFree⟩
  ·intro x y c h1 h2;rcases which x c h1 with a | ⟨a,_⟩ <;> rcases which y c h2 with b | ⟨b,_⟩
   ·exact name_of_addr ok.apart a b
   ·exact absurd (Zu (oldlt y c b) (YQ (neu x c a))) (ZQ _)
   ·exact absurd (Zu (oldlt x c a) (YQ (neu y c b))) (ZQ _)
   ·exact I.ok.inj x y c a b
  ·intro x hx;have hx':(fR scope X.env.scope).names.lookup x=some .cell\/(fR scope X.env.scope).names.lookup x=some .free:=hx;have e:=fS X.env.scope x scope.names
   have key:(x,NameKind.cell) ∈ scope.names\/(x,NameKind.free) ∈ scope.names:=by
    cases hl:scope.names.lookup x with
    | none=>rw [hl] at e;rcases hx' with z | z <;> (rw [show (fR scope X.env.scope).names.lookup x=none from e] at z;cases z)
    | some k=>
     have m:=PySem.mem_of_lookup hl;rw [hl] at e;cases k with
     | cell=>exact .inl m
     | free=>exact .inr m
     | _=>rcases hx' with z | z <;> (rw [show (fR scope X.env.scope).names.lookup x=_ from e] at z;simp [nU] at z)
   rcases key with h | h
   ·have q:=PySem.W.cellsFrom_some scope.names (s.heap.objs.size+1) (bW X.env.cells scope.names []) (x:=x) (.inl (cQ S.uniq h));exact ZY.mp q
   ·obtain ⟨c,hc⟩:=gD (cells:=X.env.cells) (acc:=[]) (.inl h);have q:∃ c,(x,c) ∈ (tS scope s.heap.objs.size X.env).cells:=⟨c,by rw [cells];exact ZE _ hc⟩;exact fQ q
  ·intro x c hfn hl
   have hfn':scope.names.lookup x=some .cell:=by
    have z:(scope.names.lookup x == some NameKind.cell)=true:=hfn
    simpa using z
   rcases which x c hl with a | ⟨_,b⟩
   ·exact Zv (Yq _) (neu x c a)
   ·rw [cQ S.uniq b] at hfn';cases hfn'
  ·intro b hb;refine ⟨ZC (hfo b hb),fun x c h z=>?_⟩;rcases which x c h with a | ⟨a,_⟩
   ·exact absurd (Zu (z ▸ hfo b hb) (YQ (neu x c a))) (ZQ _)
   ·exact (hf b hb).2.2.2.2.1 x c a z
  ·intro b o e hb;rcases (hf b hb).2.2.2.1 with z | z
   ·exact I.ok.noex b o e z
   ·have h1:=Zs e;exact absurd (Zu h1 (Zv I.ok.bsz z)) (ZQ _)
 have m0:(pushCells (s.heap.push { cls:=.type "dict", data:=.dict #[] }) scope.names).Ns s.heap.objs.size (fun _=>none):=(Heap.Ns.new s.heap (.type "dict")).keeps (pushCells_keeps _ _);refine ⟨xok,rfl,I.bare,Un.kept keep,⟨_,m0,?_⟩,?_,I.hok.fresh (Zd _),?_,fun p hp=>absurd (show p ∈ ([]:List (Addr × Obj)) from hp) (by simp),I.hok.kept keep,?_⟩
 ·intro i x v h1 h2 h3
  have hi:i < σ.length:=by
   by_cases hi:i < σ.length
   ·exact hi
   ·rw [Zq (by omega),Yk] at h2;split at h2 <;> cases h2
  rw [Zw hi] at h2;have hN:i < X.N.length:=by rw [<-I.len];exact hi
  have h1h:(cT hs X.N)[i]?=some x:=by
   have h1:(cT hs X.N++own)[i]?=some x:=h1
   rwa [Zw (by rw [jO];exact hN)] at h1
  have dx:=S.dis x (Zm h1h);have e:=fS X.env.scope x scope.names;have h3':(fR scope X.env.scope).names.lookup x=some .local\/(fR scope X.env.scope).names.lookup x=some .cell\/(fR scope X.env.scope).names.lookup x=some .free:=h3
  have hfree:scope.names.lookup x=some .free:=by
   cases hl:scope.names.lookup x with
   | none=>rw [hl] at e;rcases h3' with z | z | z <;> (rw [show (fR scope X.env.scope).names.lookup x=none from e] at z;cases z)
   | some k=>
    rw [hl] at e dx;cases k with
    | free=>rfl
    | «local»=>exact absurd rfl dx.1
    | cell=>exact absurd rfl dx.2
    | _=>rcases h3' with z | z | z <;> (rw [show (fR scope X.env.scope).names.lookup x=_ from e] at z;simp [nU] at z)
  have h1':X.N[i]?=some x:=by
   rcases oq hs X.N h1h with z | ⟨j,hj,z⟩
   ·exact z
   ·rw [z,S.hd j hj] at hfree;cases hfree
  have mfree:=PySem.mem_of_lookup hfree;have kX:=S.fr (x,.free) mfree rfl;obtain ⟨m,hn,hl⟩:=I.loc;obtain ⟨u,r,l⟩:=hl i x v h1' h2 (kX.elim (fun z=>.inr (.inl z)) fun z=>.inr (.inr z));refine ⟨u,r,.inr ⟨?_,?_⟩⟩
  ·have k3:(fR scope X.env.scope).names.lookup x=some (nU X.env.scope x .free):=by rw [hfree] at e;exact e
   have k4:nU X.env.scope x .free = .cell\/nU X.env.scope x .free = .free:=by unfold nU;split <;> simp
   rcases k4 with z | z
   ·exact .inl (by show (fR scope X.env.scope).names.lookup x=_;rw [k3,z])
   ·exact .inr (by show (fR scope X.env.scope).names.lookup x=_;rw [k3,z])
  ·rcases l with ⟨lk,_⟩ | ⟨_,c,hc,z⟩
   ·have lk':X.env.scope.names.lookup x=some .local:=lk;rcases kX with q | q <;> (rw [q] at lk';cases lk')
   ·refine ⟨c,?_,z.keeps keep⟩;obtain ⟨c',hc'⟩:=gD (cells:=X.env.cells) (acc:=[]) (.inl mfree);obtain ⟨c2,hl2⟩:=fQ (l:=(tS scope s.heap.objs.size X.env).cells) ⟨c',by rw [cells];exact ZE _ hc'⟩;rcases which x c2 hl2 with a | ⟨a,_⟩
    ·rcases dM _ _ _ _ _ a with q | q
     ·exact nomatch q
     ·rw [cQ S.uniq q] at hfree;cases hfree
    ·rw [hc] at a;cases a;exact hl2
 ·intro x c h;rcases which x c h with a | ⟨a,_⟩
  ·exact ⟨_,(ok.empty x c a).1⟩
  ·obtain ⟨v,z⟩:=I.cell x c a;exact ⟨v,z.keeps keep⟩
 ·intro x c h;rcases which x c h with a | ⟨a,_⟩
  ·exact I.hok.fresh (Zv (Yq _) (neu x c a))
  ·exact I.freeC x c a
 ·show (σ++Zo own.length none).length=(cT hs X.N++own).length;rw [Zr,Zr,Y5,jO,I.len]
end
end L2
namespace L2
open PySem PySem.Spec PyProof.Rows
noncomputable def q8 (J:It) (g:TG) (tb:TS) (D:Ends) (σ:St) (H:Hp):Prop:=∃ W:Nat->Nat->St->Hp->Prop,(∃ m,W 0 m σ H)/\∀ i m σ H,W i m σ H ->
 (J.stop i H/\D.nx σ H)\/(J.go i H/\∃ N:St->Hp->Prop,(∀ σ' H',N σ' H'->∃ m',m' < m/\W (i+1) m' σ' H')/\∀ x H',J.yld i H x H'->g x σ H' fun σ2 H2=>tb { D with nx:=N,ct:=N,bk:=D.nx } σ2 H2)
noncomputable def PTs (Y:Cx) (ifs:List Expr) (t:TT):Prop:=
 ∀ (pins:List (Addr × Obj)) (s:Shared) (σ:St) (H:Hp) (Q:Bool->Hp->Prop),Inv Y pins σ H s->t σ H Q->wpAny (model Y.prog Y.w) Y.A (pL ifs Y.env) (TP Y pins σ Q) Y.xe s
noncomputable def CF:TT:=fun _ H Q=>Q true H
theorem CG {Y:Cx}:PTs Y [] CF:=fun _ _ _ H _ I h=>by
 unfold pL;rw [YM];exact wpAny_pure ⟨H,I,h⟩
theorem CH {Y:Cx} {c:Expr} {t:TT} (hc:PT Y c t):PTs Y [c] t:=fun pins s σ H Q I h=>by
 unfold pL;rw [Xz];simp only [if_true,YM];refine wpAny_bind (wpAny_bind (thn (hc pins s σ H Q I h) fun b s1 q=>wpAny_pure ?_));exact wpAny_pure q
noncomputable def PTl (Y:Cx) (elt:Expr) (gens:List Comprehension) (scope:Scope) (pos:Pos) (acc:Addr) (d:Nat) (t:TS):Prop:=
 ∀ (pins:List (Addr × Obj)) (s:Shared) (σ:St) (H:Hp) (D:Ends),Inv Y pins σ H s->t D σ H ->
  match gens[d+1]? with
  | none=>wpAny (model Y.prog Y.w) Y.A (eval elt Y.env) (fun x s5=>wpAny (model Y.prog Y.w) Y.A (call (.builtin "list.append") [.ref acc,x]) (fun _ s6=>∃ σ' H',Inv Y pins σ' H' s6/\D.nx σ' H') (fun _ _=>False) s5) (fun _ _=>False) s
  | some g'=>g'.is_async=0/\wpAny (model Y.prog Y.w) Y.A (eval g'.iter Y.env) (fun x s5=>wpAny (model Y.prog Y.w) Y.A (foldedSetIterable g'.iter Y.env x) (fun x' s6=>wpAny (model Y.prog Y.w) Y.A (pyIter x') (fun it' s7=>
    wpAny (model Y.prog Y.w) Y.A (runOwn (.compStart (.ListComp elt gens scope pos) (d+1) it' (.ref acc) Y.env) Y.env) (fun _ s8=>∃ σ' H',Inv Y pins σ' H' s8/\D.nx σ' H') (fun _ _=>False) s7) (fun _ _=>False) s6) (fun _ _=>False) s5) (fun _ _=>False) s
noncomputable def fD (ti:TT) (t:TS):TS:=fun D σ H=>ti σ H fun c H'=>if c=true then t D σ H' else D.nx σ H'
noncomputable def FT (acc:Addr) (te:TE):TS:=fun D σ H=>te σ H fun x H1=>∃ xs,H1 acc=some (.lst xs)/\xs.length < sizeLine/\D.nx σ (upd H1 acc (.lst (xs++[x])))
section
variable {Y:Cx} {elt:Expr} {gens:List Comprehension} {scope:Scope} {pos:Pos} {acc:Addr} {d:Nat}
theorem ze {te:TE} (hx:Y.xe=fun _ _=>False) (hn:gens[d+1]?=none) (he:PE Y elt te):PTl Y elt gens scope pos acc d (FT acc te):=by
 intro pins s σ H D I h;rw [hn];have hE:=he pins s σ H _ I h;rw [hx] at hE;refine thn hE fun x s5 ⟨v,H5,I5,r5,xs,h1,h2,q⟩=>?_;have z:=oo pins s5 σ H5 (.ref acc) [v] (.ref acc) [x] (fun y H'=>y = .non/\D.nx σ H') I5 rfl (.cons r5 .nil) ⟨acc,xs,v,rfl,rfl,h1,h2,rfl,q⟩;rw [hx] at z;exact thn z fun y s6 ⟨v6,H6,I6,r6,e6,q6⟩=>⟨σ,H6,I6,q6⟩
theorem l5 {A:Around} {R:Result->Shared->Prop} {prog:Program} {w:World} {s:Shared} {tg iter:Expr} {ifs:List Expr} {it acc:Value} {env:Env} (hg:gens[d]?=some ⟨tg,iter,ifs,0⟩)
  (h0:codeAny (model prog w) A (.compLoop (.ListComp elt gens scope pos) d it acc env) R s)
  (h:wpAny (model prog w) A (pyIter it) (fun it' s'=>codeAny (model prog w) A (.compLoop (.ListComp elt gens scope pos) d it' acc env) R s') (notedBy (model prog w) A env fun x s'=>R (.error x) s') s) :
  codeAny (model prog w) A (.compStart (.ListComp elt gens scope pos) d it acc env) R s:=by
 refine codeAny_of_tree ?_;show wpAny _ _ ((compStart (.ListComp elt gens scope pos) d it acc env).onRaise (fun x=>do noteFrame x env;standAt theWindowsPlace)) _ _ s;refine wpAny_notedAt ?_;unfold compStart;have hcl:(clausesOf (.ListComp elt gens scope pos))[d]?=some ⟨tg,iter,ifs,0⟩:=hg;simp only [hcl,Option.elim];show wpAny _ _ (ask >>= _) _ _ s;refine wpAny_bind (wpAny_askSetting (wpAny_ite ?_));split
 ·first
   | exact wpAny_bind (wpAny_pure (wpAny_pure (And.intro rfl h0)))
   | exact wpAny_pure (And.intro rfl h0)
 ·first
   | exact wpAny_bind (wpAny_rule (wpAny_bind (wpAny_standAt (wpAny_bind (wpAny_mono h (fun it' s' h'=>wpAny_pure (And.intro rfl h')) fun _ _ x=>x)))))
   | (refine wpAny_bind (wpAny_rule ?_);show wpAny _ _ (standAt iter.pos >>= _) _ _ s;exact wpAny_bind (wpAny_standAt (wpAny_bind (wpAny_mono h (fun it' s' h'=>wpAny_pure (And.intro rfl h')) fun _ _ x=>x))))
theorem ou {tg iter:Expr} {ifs:List Expr} {J:It} {fp:List Addr} {it:Addr} {tn:Nat->Heap->Prop} {pins:List (Addr × Obj)} {σ:St} {H:Hp} {s:Shared} {g:TG} {ti:TT} {t:TS} {D:Ends}
  (hx:Y.xe=fun _ _=>False) (hc:Y.calm=true) (hg:gens[d]?=some ⟨tg,iter,ifs,0⟩) (T:Turn Y.prog Y.w Y.K tg J fp it tn) (I2:Inv Y pins σ H s) (st2:tn 0 s.heap) (f2:∀ b ∈ fp,gX Y pins H b)
  (hgt:PG Y tg g) (hts:PTs Y ifs ti) (htl:PTl Y elt gens scope pos acc d t) (hW:q8 J g (fD ti t) D σ H) :
  codeAny (model Y.prog Y.w) Y.A (.compLoop (.ListComp elt gens scope pos) d (.ref it) (.ref acc) Y.env) (fun r s'=>r = .ok .next/\∃ σ' H',Inv Y pins σ' H' s'/\D.nx σ' H') s:=by
 obtain ⟨W,⟨m0,w0⟩,turn⟩:=hW;have stat:∀ {H':Hp},(∀ b ∈ fp,H' b=none)->∀ b ∈ fp,gX Y pins H' b:=fun hn b hb=>⟨hn b hb,(f2 b hb).2⟩;refine codeAny_loop rfl (fun n s'=>∃ i σ' H',Inv Y pins σ' H' s'/\tn i s'.heap/\(∀ b ∈ fp,H' b=none)/\W i n σ' H') (fun n s3 hI=>?_) m0 ⟨0,σ,H,I2,st2,fun b hb=>(f2 b hb).1,w0⟩;obtain ⟨i,σ3,H3,I3,st3,fr3,w3⟩:=hI;show wpAny _ _ ((compTurn (.ListComp elt gens scope pos) d (.ref it) (.ref acc) Y.env).onRaise (fun x=>do noteFrame x Y.env;theTreesLotGoes x)) _ _ s3;refine wpAny_noted (wpAny_mono (E:=fun _ _=>False) ?_ (fun _ _ q=>q) fun _ _ z=>z.elim);refine CC hg ?_;rcases turn i n σ3 H3 w3 with ⟨stop,qn⟩ | ⟨go,N,hN,step⟩
 ·refine thn (T.done Y rfl rfl rfl hc i pins s3 σ3 H3 _ I3 (stat fr3) st3 stop) fun r s4 ⟨hr,I4⟩=>?_;subst hr;exact ⟨rfl,σ3,H3,I4,qn⟩
 ·refine thn (T.item Y rfl rfl rfl hc i pins s3 σ3 H3 _ I3 (stat fr3) st3 go) fun r s4 ⟨u,hr,h4⟩=>?_;subst hr;refine thn h4 fun _ s5 ⟨x,H5,I5,r5,y5,st5,fr5⟩=>?_;have I5':=I5.pinned (stat fr5) (T.obj _ _ st5)
  have again:∀ {σ7:St} {H7:Hp} {s7:Shared},Inv Y (pins++lV fp s5.heap) σ7 H7 s7->N σ7 H7->∃ m,m < n/\∃ i σ' H',Inv Y pins σ' H' s7/\tn i s7.heap/\(∀ b ∈ fp,H' b=none)/\W i m σ' H':=fun {σ7 H7 s7} I7 n7=>by
   obtain ⟨m',hm,w7⟩:=hN σ7 H7 n7;refine ⟨m',hm,i+1,σ7,H7,I7.unpinned,T.keep _ _ _ st5 fun b hb o e=>(I7.pin (b,o) (ZE _ (ZE _ (eN hb e)))).1,fun b hb=>?_,w7⟩;obtain ⟨o,e,dd⟩:=T.obj _ _ st5 b hb;exact (I7.pin (b,o) (ZE _ (ZE _ (eN hb e)))).2.1
  have hG:=hgt _ s5 σ3 H5 x u _ I5' r5 (step x H5 y5);rw [hx] at hG;refine thn hG fun _ s6 ⟨σ6,H6,I6,q6⟩=>?_;have hT:=hts _ s6 σ6 H6 _ I6 q6;rw [hx] at hT;refine thn hT fun ok s7 ⟨H7,I7,q7⟩=>?_;cases ok with
  | false=>
   simp only [Z3,if_false] at q7 ⊢;exact ⟨by trivial,again I7 q7⟩
  | true=>
   simp only [if_true] at q7 ⊢;have hL:=htl _ s7 σ6 H7 _ I7 q7;cases hn:gens[d+1]? with
   | none=>
    rw [hn] at hL;exact thn hL fun x s8 h8=>thn h8 fun _ s9 ⟨σ9,H9,I9,q9⟩=>⟨by trivial,again I9 q9⟩
   | some g'=>
    rw [hn] at hL;obtain ⟨ha,hL⟩:=hL;exact ⟨ha,thn hL fun x s8 h8=>thn h8 fun x' s9 h9=>thn h9 fun it' s10 h10=>thn h10 fun _ s11 ⟨σ9,H9,I9,q9⟩=>⟨by trivial,again I9 q9⟩⟩
noncomputable def zf (wi:TI) (g:TG) (ti:TT) (t:TS):TS:=fun D σ H=>wi σ H fun J H1=>q8 J g (fD ti t) D σ H1
theorem CJ {tg iter:Expr} {ifs:List Expr} {wi:TI} {g:TG} {ti:TT} {t:TS} (hn:gens[d+1]?=some ⟨tg,iter,ifs,0⟩)
  (hi:PI Y tg iter wi) (hgt:PG Y tg g) (hts:PTs Y ifs ti) (htl:PTl Y elt gens scope pos acc (d+1) t) (hx:Y.xe=fun _ _=>False:=by rfl) (hc:Y.calm=true:=by rfl) (hs:∀ x,foldedSetIterable iter Y.env x=pure x:=by intro _;rfl) :
  PTl Y elt gens scope pos acc d (zf wi g ti t):=by
 intro pins s σ H D I h;rw [hn];refine ⟨rfl,?_⟩;have hI:=hi pins s σ H _ I h;rw [hx] at hI;refine thn hI fun v s5 h5=>wpAny_of_eq (hs v) (thn h5 fun itv s6 h6=>?_);obtain ⟨it,fp,tn,J,H6,e,I6,T,st6,f6,W⟩:=h6;subst e;have L:=ou (elt:=elt) (gens:=gens) (scope:=scope) (pos:=pos) (acc:=acc) hx hc hn T I6 st6 f6 hgt hts htl W;refine wpAny_runOwn (codeAny_mono (l5 hn L (T.self _ 0 s6 _ _ st6 L)) fun r s8 hr=>?_);obtain ⟨rfl,q⟩:=hr;exact q
end
noncomputable def zg (own:Nat) (wi:TI) (g:TG) (tb:Addr->TS):TE:=fun σ H Q=>wi σ H fun J H1=>∀ acc,H1 acc=none ->
 q8 J g (tb acc) { nx:=fun _ H'=>Q (.ref acc) H',rt:=fun _ _=>False } (σ++Zo own none) (upd H1 acc (.lst []))
section
variable {X:Cx} {elt tg iter:Expr} {ifs:List Expr} {rest:List Comprehension} {scope:Scope} {pos:Pos} {own:List Str} {hs:List Nat} {wi:TI} {g:TG} {ti:TT} {t:Addr->TS}
theorem l9 {pins:List (Addr × Obj)} {σ:St} {Q:VK} {itv:Value} {s2:Shared} {E:Value->Shared->Prop} (hc:X.calm=true) (S:CmScope own hs X.N scope X.env.scope)
  (hgt:∀ C ex s H,PG (cxC X own hs scope C ex s H) tg g) (hts:∀ C ex s H,PTs (cxC X own hs scope C ex s H) ifs ti)
  (htl:∀ C ex s H acc,PTl (cxC X own hs scope C ex s H) elt (⟨tg,iter,ifs,0⟩::rest) scope pos acc 0 (t acc))
  (h2:PIE X pins σ tg (fun J H1=>∀ acc,H1 acc=none->q8 J g (fD ti (t acc)) { nx:=fun _ H'=>Q (.ref acc) H',rt:=fun _ _=>False } (σ++Zo own.length none) (upd H1 acc (.lst []))) itv s2)
  {RR:Value->Addr->Result->Shared->Prop} (hRR:∀ acc C H' s',Inv X pins σ H' s'->gX X pins H' C->(∃ m,s'.heap.Ns C m)->Q (.ref acc) H'->RR (.ref acc) C (.ok .next) s') :
  wpAny (model X.prog X.w) X.A (newList []) (fun acc s3=>wpAny (model X.prog X.w) X.A (newFunctionEnv scope X.env.globals (bW X.env.cells scope.names []) [] X.env.qual none .none (some X.env)) (fun cenv s4=>
   codeAny (model X.prog X.w) X.A (.compStart (.ListComp elt (⟨tg,iter,ifs,0⟩::rest) scope pos) 0 itv acc { cenv with scope:=relabel scope X.env }) (RR acc cenv.locals) s4) E s3) E s2:=by
 obtain ⟨it,fp,tn,J,H2,e,I2,T,st2,f2,R⟩:=h2;subst e;refine wpAny_newObj_type ?_;have I3:Inv X pins σ (upd H2 s2.heap.objs.size (.lst [])) { s2 with heap:=s2.heap.push { cls:=.type "list", dict:=none,data:=.seq ([]:List Value).toArray } }:=I2.lnew (its:=[]) (t':=s2.toks) .nil (Xx _);have W:=R s2.heap.objs.size (I2.hok.fresh (Zd _));generalize hs3:({ s2 with heap:=s2.heap.push { cls:=.type "list", dict:=none,data:=.seq ([]:List Value).toArray } }:Shared)=s3 at I3 ⊢;have e3:s3.heap=s2.heap.push { cls:=.type "list", dict:=none,data:=.seq ([]:List Value).toArray }:=by rw [<-hs3]
 have k3:∀ b o,s2.heap.get? b=some o->s3.heap.get? b=some o:=fun b o e=>by rw [e3];exact Zh _ e
 have st3:tn 0 s3.heap:=T.keep _ _ _ st2 fun b _ o e=>k3 b o e;have fne:∀ b ∈ fp,b < s2.heap.objs.size:=fun b hb=>let ⟨o,e,_⟩:=T.obj _ _ st2 b hb;Zs e;have f3:∀ b ∈ fp,gX X pins (upd H2 s2.heap.objs.size (.lst [])) b:=fun b hb=>⟨by rw [aG (ZC (fne b hb))];exact (f2 b hb).1,(f2 b hb).2⟩;have fo3:∀ b ∈ fp,b < s3.heap.objs.size:=fun b hb=>let ⟨o,e,_⟩:=T.obj _ _ st3 b hb;Zs e;refine xn ?_;have I4:=I3.compStart S f3 fo3;generalize hH3:upd H2 s2.heap.objs.size (.lst [])=H3 at I3 I4 f3 W
 have eE:({ scope:=relabel scope X.env,locals:=s3.heap.objs.size,globals:=X.env.globals,cells:=cellsFrom (s3.heap.objs.size+1) scope.names (bW X.env.cells scope.names []),qual:=X.env.qual,func:=none,code:=X.env.code,frame:=X.env.frame,builtins:=X.env.builtins }:Env)=tS scope s3.heap.objs.size X.env:=by
  unfold tS;rw [CD]
 generalize hs4:({ s3 with heap:=pushCells (s3.heap.push { cls:=.type "dict", data:=.dict #[] }) scope.names }:Shared)=s4 at I4 ⊢;have k4:∀ b o,s3.heap.get? b=some o->s4.heap.get? b=some o:=fun b o e=>by rw [<-hs4];exact pushCells_keeps _ _ b o (Zh _ e)
 have st4:tn 0 s4.heap:=T.keep _ _ _ st3 fun b _ o e=>k4 b o e
 have f4:∀ b ∈ fp,gX (cxC X own hs scope s3.heap.objs.size fp s3 H3) [] H3 b:=fun b hb=>by
  refine ⟨(f3 b hb).1,ZC (fo3 b hb),I4.ok.exfs b hb,.inl hb,fun x c hl=>(I4.ok.exf b hb).2 x c hl,fun p hp=>absurd (show p ∈ ([]:List (Addr × Obj)) from hp) (by simp)⟩
 have L:=ou (Y:=cxC X own hs scope s3.heap.objs.size fp s3 H3) (elt:=elt) (gens:=⟨tg,iter,ifs,0⟩::rest) (d:=0) (scope:=scope) (pos:=pos) (acc:=s2.heap.objs.size) rfl hc rfl T I4 st4 f4 (hgt _ _ _ _) (hts _ _ _ _) (htl _ _ _ _ _) W;have C:=l5 (elt:=elt) (gens:=⟨tg,iter,ifs,0⟩::rest) (d:=0) (scope:=scope) (pos:=pos) rfl L (T.self _ 0 s4 _ _ st4 L);show codeAny (model X.prog X.w) X.A (.compStart (.ListComp elt (⟨tg,iter,ifs,0⟩::rest) scope pos) 0 (.ref it) (.ref s2.heap.objs.size) { scope:=relabel scope X.env,locals:=s3.heap.objs.size,globals:=X.env.globals,cells:=cellsFrom (s3.heap.objs.size+1) scope.names (bW X.env.cells scope.names []),qual:=X.env.qual,func:=none,code:=X.env.code,frame:=X.env.frame,builtins:=X.env.builtins }) (RR (.ref s2.heap.objs.size) s3.heap.objs.size) s4;rw [eE];refine codeAny_mono C fun r s' hr=>?_;obtain ⟨rfl,σ',H',I',q⟩:=hr;obtain ⟨mC,nC,_⟩:=id I'.loc;have freeC:H' s3.heap.objs.size=none:=I'.free;refine hRR _ _ H' s' ?_ (I3.fpOk (Zd _) freeC) ⟨mC,nC⟩ q;exact I3.call' (ch:=fp) I'.os I'.base I'.hok I'.bare fun b hb=>⟨(f3 b hb).2.2.2.1,(f3 b hb).2.1,(f3 b hb).2.2.2.2.1,(f3 b hb).2.2.2.2.2⟩
theorem CK (hc:X.calm=true) (S:CmScope own hs X.N scope X.env.scope) (hi:PI X tg iter wi)
  (hgt:∀ C ex s H,PG (cxC X own hs scope C ex s H) tg g) (hts:∀ C ex s H,PTs (cxC X own hs scope C ex s H) ifs ti)
  (htl:∀ C ex s H acc,PTl (cxC X own hs scope C ex s H) elt (⟨tg,iter,ifs,0⟩::rest) scope pos acc 0 (t acc))
  (hs:∀ x,foldedSetIterable iter X.env x=pure x:=by intro _;rfl) :
  PE X (.ListComp elt (⟨tg,iter,ifs,0⟩::rest) scope pos) (zg own.length wi g fun acc=>fD ti (t acc)):=by
 intro pins s σ H Q I h;rw [eval_ListComp];refine wpAny_comprehension_free (use:=none) (cl:=bW X.env.cells scope.names []) rfl hs (vC fun y hy hk=>I.ok.has y.1 (S.fr y hy hk)) S.kind (fun y hy hk=>cQ S.uniq (by rw [<-hk];exact hy)) ?_;refine thn (hi pins s σ H _ I h) fun v s1 h1=>thn h1 fun itv s2 h2=>?_;refine l9 hc S hgt hts htl h2 (RR:=fun acc C=>compPost (model X.prog X.w) X.A X.xe none (EP X pins σ Q) acc C) fun acc C H' s' I' f' m' q=>?_;obtain ⟨m,nm⟩:=m';refine ⟨m,nm,fun h' sb=>⟨.ref acc,H',?_,rfl,q⟩⟩;exact I'.turned (t':=s'.toks) (fun b o hb e=>(sb.2 b hb).trans e) f'.1 f'.2.1 f'.2.2.2.1 f'.2.2.2.2.1 f'.2.2.2.2.2
theorem CL {i:Nat} {x:Str} {pos' spos:Pos} (hc:X.calm=true) (S:CmScope own hs X.N scope X.env.scope) (hN:X.N.Nodup) (hix:X.N[i]?=some x) (hx:X.env.scope.names.lookup x=some .local) (hi:PI X tg iter wi)
  (hgt:∀ C ex s H,PG (cxC X own hs scope C ex s H) tg g) (hts:∀ C ex s H,PTs (cxC X own hs scope C ex s H) ifs ti)
  (htl:∀ C ex s H acc,PTl (cxC X own hs scope C ex s H) elt (⟨tg,iter,ifs,0⟩::rest) scope pos acc 0 (t acc))
  (hsw:swapsWith (.ListComp elt (⟨tg,iter,ifs,0⟩::rest) scope pos) (some (.Name x pos')) spos.line X.env=pure true:=by rfl)
  (hs:∀ x,foldedSetIterable iter X.env x=pure x:=by intro _;rfl) :
  PS X (.Assign [.Name x pos'] (.ListComp elt (⟨tg,iter,ifs,0⟩::rest) scope pos) spos) (wW (zg own.length wi g fun acc=>fD ti (t acc)) (qU i)):=by
 intro pins s σ H D I h;rw [exec_Assign_Name_used _ _ _ _ hsw];refine wpAny_bind (wpAny_standAt (wpAny_bind ?_));show wpAny _ X.A (do let _ <-comprehension (.ListComp elt (⟨tg,iter,ifs,0⟩::rest) scope pos) scope X.env _ (newList []) false (eval iter X.env) (some (assign (.Name x pos') X.env))) _ _ s
 refine wpAny_bind (wpAny_mono (wpAny_comprehension_free (use:=some (assign (.Name x pos') X.env)) (Q:=fun _ s'=>SP X pins D .next s') (cl:=bW X.env.cells scope.names []) rfl hs (vC fun y hy hk=>I.ok.has y.1 (S.fr y hy hk)) S.kind (fun y hy hk=>cQ S.uniq (by rw [<-hk];exact hy))
  ?_) (fun _ s' hq=>wpAny_pure (wpAny_pure hq)) fun _ _ e=>e)
 refine thn (hi pins s σ H _ I h) fun v s1 h1=>thn h1 fun itv s2 h2=>?_;refine l9 (Q:=fun y H'=>qU i y σ H' D.nx) hc S hgt hts htl h2 (RR:=fun acc C=>compPost (model X.prog X.w) X.A X.xe (some (assign (.Name x pos') X.env)) (fun _ s'=>SP X pins D .next s') acc C) fun acc C H' s' I' f' m' q=>?_;obtain ⟨m,nm⟩:=m';show wpAny _ X.A (assign (.Name x pos') X.env (.ref acc)) _ _ _;refine wpAny_assign_Name (n8 (v:=.ref acc) I' hN hix (.inl hx) rfl (fun s'' I'' hch=>?_) (.inr hx));obtain ⟨a,sb1,ha⟩:=hch
 have ne:C ≠ a:=by
  rcases ha with e | e
  ·rw [e];exact f'.2.1
  ·exact fun z=>f'.2.2.2.2.1 x a e z.symm
 refine ⟨m,nm.sameBut sb1 ne,fun h' sb=>⟨_,H',?_,q⟩⟩;exact I''.turned (t':=s''.toks) (fun b o hb e=>(sb.2 b hb).trans e) f'.1 f'.2.1 f'.2.2.2.1 f'.2.2.2.2.1 f'.2.2.2.2.2
end
end L2
namespace HT
open PySem PyProof.Rows
section
variable {prog:Program} {w:World} {A:Around} {E:Value->Shared->Prop} {s:Shared}
theorem zh {t b:Addr} {ws:List Value} {Q:Value->Shared->Prop} (ht:IsTup s.heap t ([]:List Value).toArray) (hb:IsTup s.heap b ws.toArray) (h:Q (.ref b) s):wpAny (model prog w) A (binaryOp .Add (.ref t) (.ref b)) Q E s:=by
 obtain ⟨⟨cls,dd,data,sl⟩,ho,hc,n,hd⟩:=id ht;obtain ⟨⟨cls2,dd2,data2,sl2⟩,ho2,hc2,n2,hd2⟩:=id hb;simp only at hc hd hc2 hd2;subst hc hd hc2 hd2
 exact concat_meets ⟨_,ho,rfl⟩ ⟨_,ho2,rfl⟩ noFill_tuple_add seq_tuple_add PySem.F.slot_tuple_add PySem.F.entry_tuple_add (PySem.F.args_tuple_add_2 _ _)
   (tuple_addW0 t b _ ws.toArray n n2 dd dd2 sl sl2 (by simp)) ⟨ho,ho2,h⟩
theorem gY {t sl:Addr} {items:Array Value} {vl vu:Value} {lo hi:Option Int} {Q:Value->Shared->Prop} (ht:IsTup s.heap t items) (hs:s.heap.IsSliceOf sl vl vu .none) (pl:IsPart vl lo) (pu:IsPart vu hi)
  (hw:sIx items.size 0 lo=0/\sIx items.size items.size hi=items.size) (h:Q (.ref t) s):wpAny (model prog w) A (getItem (.ref t) (.ref sl)) Q E s:=by
 obtain ⟨os,hos,hcs,hds⟩:=id hs;have hTs:s.TypeIs (.ref sl) "slice" := ⟨os,hos,hcs⟩;obtain ⟨o,ho,hc,n,hd⟩:=id ht;unfold getItem
 try with_reducible refine wpAny_holding ?_
 first | refine wpAny_bind (wpAny_pure ?_) | skip
 refine wpAny_bind (wpAny_sequenceKey ht.typeIs (by decide) ?_)
 refine wpAny_bind (wpAny_callSpecial?_slot (name:=Str.ofString "__getitem__") ht.typeIs PyProof.Rows.slot_tuple_getitem
  (wpAny_call_entry PyProof.Rows.slot_tuple_getitem ht.typeIs entry_tuple_getitem ?_ (args_tuple_getitem _ _)))
 show wpAny _ _ (Builtin.Tuple.tupleItemsOf (.ref t) >>= _) _ _ s;refine wpAny_bind (tupleItemsOf_ ht ?_);refine wpAny_bind (wpAny_typeOf hTs ?_);rw [if_pos (by decide)];refine wpAny_bind (et hs pl pu ?_)
 have hyes:((((sIx items.size 0 lo:Nat):Int) == 0 && (1:Int) == 1 && (sIx items.size items.size hi - sIx items.size 0 lo) == items.size)=true):=by
  rw [hw.1,hw.2];simp
 show wpAny _ _ (if (((sIx items.size 0 lo:Nat):Int) == 0 && (1:Int) == 1 && (sIx items.size items.size hi - sIx items.size 0 lo) == items.size)=true then _ else _) _ _ s;rw [if_pos hyes];have hT:s.TypeIs (.ref t) "tuple" := ht.typeIs
 first
  | (refine wpAny_bind (m:=Builtin.Tuple.tupleIsExact _) ?_
     unfold Builtin.Tuple.tupleIsExact;refine wpAny_bind (wpAny_typeOf hT (wpAny_pure ?_));rw [if_pos (by decide)];exact wpAny_bind (wpAny_rule (wpAny_pure ⟨_,rfl,wpAny_pure h⟩)))
end
end HT
namespace L2
open PySem PySem.Spec PyProof.Rows
theorem rb {s:Shared} {h':Heap} {o:Obj} (hk:∀ b x,b ∉ [s.heap.objs.size]->(s.heap.push o).get? b=some x->h'.get? b=some x):∀ b x,s.heap.get? b=some x->h'.get? b=some x:=
 fun b x e=>hk b x (fun hm=>by rw [ZM.mp hm] at e;exact ZQ _ (Zs e)) (Zh _ e)
section
variable {X:Cx}
noncomputable def L3 (K:PySem.W.Frag):R2:=fun x y H Q=>∃ a b xs ys,x = .ref a/\y = .ref b/\SqT K H a xs/\SqT K H b ys/\xs.length+ys.length<=sizeLine ∧
 (xs=[]->Q (.ref b) H)/\(xs ≠ []->ys=[]->Q (.ref a) H)/\(xs ≠ []->ys ≠ []->∀ p,H p=none->Q (.ref p) (upd H p (.tup (xs++ys))))
theorem CM:OpR X (binaryOp .Add) (L3 X.K):=by
 intro pins s σ H x y v u Q I rx ry h;obtain ⟨a,b,xs,ys,rfl,rfl,ha,hb,hz,q0,q1,q2⟩:=h;by_cases hx:xs=[]
 ·subst hx;cases rx;cases ry;obtain ⟨its,r1,p1,_⟩:=I.tuple ha;obtain ⟨its2,r2,p2,_⟩:=I.tuple hb;cases r1;exact HT.zh p1 p2 ⟨.ref b,H,I,rfl,q0 rfl⟩
 ·exact Cu pins s σ H _ _ v u Q I rx ry ⟨a,b,xs,ys,rfl,rfl,ha,hb,hx,hz,q1 hx,q2 hx⟩
noncomputable def Oo (K:PySem.W.Frag):V->Option Int->Option Int->Hp->VK->Prop:=fun x lo hi H Q=>∃ a xs,x = .ref a/\SqT K H a xs ∧
 ((HT.sIx xs.length 0 lo=0/\HT.sIx xs.length xs.length hi=xs.length)->Q (.ref a) H) ∧
 (¬ (HT.sIx xs.length 0 lo=0/\HT.sIx xs.length xs.length hi=xs.length)->∀ p,H p=none->Q (.ref p) (upd H p (.tup (lY xs lo hi))))
theorem CN:SlR X (Oo X.K):=by
 intro pins s σ H x v vl vu lo hi sl Q I rx hs pl pu h;obtain ⟨a,xs,rfl,hx,q1,q2⟩:=h;by_cases hw:(HT.sIx xs.length 0 lo=0/\HT.sIx xs.length xs.length hi=xs.length)
 ·cases rx;obtain ⟨its,r,ht,hz⟩:=I.tuple hx;have hlen:its.toArray.size=xs.length:=by rw [Zi];exact r.length.symm
  refine ⟨"tuple", _,PyProof.Rows.slot_tuple_getitem.lookup,ht.typeIs,?_⟩;exact HT.gY ht hs pl pu (by rw [hlen];exact hw) ⟨.ref a,H,I,rfl,q1 hw⟩
 ·exact He pins s σ H _ v vl vu lo hi sl Q I rx hs pl pu ⟨a,xs,rfl,hx,hw,q2 hw⟩
theorem rd:aR X (.builtin "isinstance") (fun xs H Q=>∃ x n t b,xs=[x,.ty n]/\TyOf X.K H x t/\PySem.W.kitOne X.K t (.type n)=some b/\Q (.bl b) H):=by
 intro pins s σ H xs us Q I r h;obtain ⟨x,n,t,b,rfl,ty,e,q⟩:=h;obtain ⟨u,w',rfl,rx,ry⟩:=vp r;cases ry;exact xh I rx ty e fun tk=>⟨.bl b,H,I.tok tk,rfl,q⟩
theorem iB:∀ {bs:List Bool} {us:List Value},aP (bs.map V.bl) us->us=bs.map Value.bool
 | [],_,.nil=>rfl
 | _::_,_,.cons r t=>by rw [Zt,iB t];cases r;rfl
theorem xo (hc:X.calm=true):aR X (.builtin "all") (fun xs H Q=>∃ (l:Addr) (bs:List Bool),xs=[.ref l]/\SqL X.K H l (bs.map V.bl)/\Q (.bl (bs.all id)) H):=by
 intro pins s σ H xs us Q I r h;obtain ⟨l,bs,rfl,hl,q⟩:=h;obtain ⟨u,rfl,ru⟩:=cJ r;cases ru;obtain ⟨its,rv,p,hz⟩:=I.list hl;have e:=iB rv;subst e;have hL:=p.isList;have hlt:l < s.heap.objs.size:=by obtain ⟨_,e,_⟩:=hL;exact Zs e
 refine call_all_walk (wpAny_pyIter_list hL ?_)
 refine ⟨s.heap.objs.size,[s.heap.objs.size,l],[s.heap.objs.size],_,_,_,fun i=>(bs[i]?).getD true,rfl,Walks.list (A:=X.A.in1) (I.ok.hd hc) _ l (ZC hlt) _,
  ⟨⟨_,ZH _ rfl,rfl,rfl⟩,hL.push _⟩,fun i v s' Q' E' hP hQ=>?_,fun h' tk hk=>?_⟩
 ·have hP':(bs.map Value.bool)[i]?=some v:=by simpa using hP
  rw [Zl] at hP';cases hb:bs[i]? with
  | none=>rw [hb] at hP';cases hP'
  | some b=>
   rw [hb] at hP';have ev:Value.bool b=v:=Option.some.inj hP';subst ev;simp only [hb,ZO] at hQ;exact wpAny_truthy_bool hQ
 ·have e:((Zj (bs.map Value.bool).toArray.size).all fun i=>(bs[i]?).getD true)=bs.all id:=by
   rw [Zi,Za,Z0];simp only [Zx,ZW,id];constructor
   ·intro h b hb;obtain ⟨i,hi,rfl⟩:=Y9.mp hb;have:=h i hi
    rwa [gEG hi,ZO] at this
   ·intro h i hi;rw [gEG hi,ZO];exact h _ (ZG hi)
  rw [e];exact ⟨.bl (bs.all id),H,I.kept (t':=tk) (rb hk),rfl,q⟩
theorem xq (hc:X.calm=true):aR X (.builtin "any") (fun xs H Q=>∃ (l:Addr) (bs:List Bool),xs=[.ref l]/\SqL X.K H l (bs.map V.bl)/\Q (.bl (bs.any id)) H):=by
 intro pins s σ H xs us Q I r h;obtain ⟨l,bs,rfl,hl,q⟩:=h;obtain ⟨u,rfl,ru⟩:=cJ r;cases ru;obtain ⟨its,rv,p,hz⟩:=I.list hl;have e:=iB rv;subst e;have hL:=p.isList;have hlt:l < s.heap.objs.size:=by obtain ⟨_,e,_⟩:=hL;exact Zs e
 refine call_any_walk (wpAny_pyIter_list hL ?_)
 refine ⟨s.heap.objs.size,[s.heap.objs.size,l],[s.heap.objs.size],_,_,_,fun i=>(bs[i]?).getD false,rfl,Walks.list (A:=X.A.in1) (I.ok.hd hc) _ l (ZC hlt) _,
  ⟨⟨_,ZH _ rfl,rfl,rfl⟩,hL.push _⟩,fun i v s' Q' E' hP hQ=>?_,fun h' tk hk=>?_⟩
 ·have hP':(bs.map Value.bool)[i]?=some v:=by simpa using hP
  rw [Zl] at hP';cases hb:bs[i]? with
  | none=>rw [hb] at hP';cases hP'
  | some b=>
   rw [hb] at hP';have ev:Value.bool b=v:=Option.some.inj hP';subst ev;simp only [hb,ZO] at hQ;exact wpAny_truthy_bool hQ
 ·have e:((Zj (bs.map Value.bool).toArray.size).any fun i=>(bs[i]?).getD false)=bs.any id:=by
   rw [Zi,Za,Z0];simp only [YE,ZW,id];constructor
   ·rintro ⟨i,hi,h⟩;rw [gEG hi,ZO] at h;exact ⟨_,ZG hi,h⟩
   ·rintro ⟨b,hb,h⟩;obtain ⟨i,hi,rfl⟩:=Y9.mp hb;exact ⟨i,hi,by rw [gEG hi,ZO];exact h⟩
  rw [e];exact ⟨.bl (bs.any id),H,I.kept (t':=tk) (rb hk),rfl,q⟩
theorem Ho:OpR X (compareOp .Is) (fun x y H Q=>∃ b c,x = .bl b/\y = .bl c/\Q (.bl (b == c)) H):=by
 intro pins s σ H x y v u Q I rx ry h;obtain ⟨b,c,rfl,rfl,q⟩:=h;cases rx;cases ry;exact is_bool ⟨.bl _,H,I,rfl,q⟩
theorem xr:OpR X (compareOp .IsNot) (fun x y H Q=>∃ b c,x = .bl b/\y = .bl c/\Q (.bl (b != c)) H):=by
 intro pins s σ H x y v u Q I rx ry h;obtain ⟨b,c,rfl,rfl,q⟩:=h;cases rx;cases ry;exact isnot_bool ⟨.bl _,H,I,rfl,q⟩
theorem ma (hc:X.calm=true):∀ {pins:List (Addr × Obj)} {s:Shared} {σ:St} {H:Hp} {Q:VK} {r:Addr} {n:Nat} {t u v:Tok},Inv X pins σ H s->IsRange s.heap r 0 n 1 t u v->n<=1000->(∀ l,H l=none->Q (.ref l) (upd H l (.lst ((Zj n).map fun (i:Nat)=>V.int i)))) ->
  wpAny (model X.prog X.w) X.A (call (.type "list") [.ref r]) (EP X pins σ Q) X.xe s:=by
 intro pins s σ H Q r n t u v I hr hn q;have hsm:Builtin.Range.small 0 n 1=true:=small_one (by omega) (by omega) (by omega) (by omega);refine call_list_range (n:=n) (I.ok.hd hc) hr hsm (by rw [rangeSize_one];split <;> omega) (by omega) fun h' tk acc' c' hk hS' hacc=>?_;refine ⟨.ref s.heap.objs.size,_,I.laid (t':=tk) (o:=.lst ((Zj n).map fun (i:Nat)=>V.int i)) hk (Zd _) ?_,rfl,q _ (I.hok.fresh (Zd _))⟩;have hsz:acc'.size=n:=hacc.1;refine ⟨by rw [Za,ZL];exact YY (xm hn),acc'.toList,c',?_,by simpa using hS'⟩
 have go:∀ (m:Nat) (k:Nat) (l:List Value),l.length=m->(∀ j x,l[j]?=some x->∃ tk,x=Value.int (((k+j:Nat):Nat):Int) tk)->aP ((List.range' k m).map fun (i:Nat)=>V.int i) l:=by
  intro m
  induction m with
  | zero=>intro k l hl _;cases l with | nil=>exact .nil | cons _ _=>cases hl
  | succ m ih=>
   intro k l hl hx;cases l with
   | nil=>cases hl
   | cons x l=>
    rw [List.range'_succ,Zt];obtain ⟨t,e⟩:=hx 0 x rfl;refine .cons ⟨t,by simpa using e⟩ (ih (k+1) l (by simpa using hl) fun j y hy=>?_);obtain ⟨t',e'⟩:=hx (j+1) y (by simpa using hy);exact ⟨t',by rw [e',show ((k+(j+1):Nat):Int)=((k+1+j:Nat):Int) from by omega]⟩
 rw [List.range_eq_range'];refine go n 0 acc'.toList (by simpa using hsz) fun j x hx=>?_;obtain ⟨tk',e⟩:=hacc.2 j x (by simpa using hx);exact ⟨tk',by rw [e,show (0:Int)+(j:Nat) * 1=((0+j:Nat):Int) from by omega]⟩
end
end L2
namespace HT
open PySem PyProof.Rows
open AutoSeq1 (wpAny_loadPart')
section
variable {prog:Program} {w:World} {A:Around} {E:Value->Shared->Prop} {s:Shared}
theorem kZ {it t:Addr} {i:Nat} {items:Array Value} {x:Value} {Q:Value->Shared->Prop} (hit:s.heap.IsTupleIter it t i) (ht:s.heap.IsTuple t items) (hx:items[i]?=some x)
  (hQ:∀ h',h'.IsTupleIter it t (i+1)->Heap.SameBut it s.heap h'->Q x { s with heap:=h' }):wpAny (model prog w) A (Builtin.SmallTypes.nextOf (.ref it)) Q E s:=by
 obtain ⟨o,ho,hc,hd⟩:=id hit;obtain ⟨ol,hol,_,nl,hdl⟩:=ht;unfold Builtin.SmallTypes.nextOf
 refine wpAny_bind (wpAny_callSpecial?_slot (name:=Str.ofString "__next__") hit.typeIs PySem.F.slot_tuple_iterator_next
  (wpAny_call_entry PySem.F.slot_tuple_iterator_next hit.typeIs PySem.F.entry_tuple_iterator_next ?_ (PySem.F.args_tuple_iterator_next_1 _)))
 show wpAny _ _ (field (.ref it) 0 >>= _) _ _ s;refine wpAny_bind (wpAny_field ho hd (x:=.ref t) rfl ?_);show wpAny _ _ (if (Value.ref t == Value.none)=true then _ else _) _ _ s;rw [if_neg (show ¬ ((Value.ref t == Value.none)=true) from Zf)];show wpAny _ _ (field (.ref it) 1 >>= _) _ _ s;refine wpAny_bind (wpAny_field ho hd (x:=.int i 0) rfl ?_);show wpAny _ _ (seqItems? (.ref t) >>= _) _ _ s;refine wpAny_bind (wpAny_seqItems hol hdl ?_);simp only [Zn,hx];refine wpAny_bind (wpAny_setField ho hd (by simp) (wpAny_pure ⟨x,rfl,wpAny_pure (hQ _ ?_ (Heap.SameBut.update ..))⟩))
 exact ⟨_,Y6 _ ho (Obj.isFreed_of_fields (Obj.data_mapFields hd _)),(Obj.cls_mapFields ..).trans hc,by
  rw [Obj.data_mapFields hd];simp [rawInt]⟩
theorem md {it t:Addr} {i:Nat} {items:Array Value} {Q:Value->Shared->Prop} (hh:A.handled=none) (hit:s.heap.IsTupleIter it t i) (ht:s.heap.IsTuple t items) (hx:items[i]?=none)
  (hE:∀ h' e,Heap.ExtBut it s.heap h'->(∃ o,h'.get? e=some o/\o.cls = .type "StopIteration")->E (.ref e) { s with heap:=h' }):wpAny (model prog w) A (Builtin.SmallTypes.nextOf (.ref it)) Q E s:=by
 obtain ⟨o,ho,hc,hd⟩:=id hit;obtain ⟨ol,hol,_,nl,hdl⟩:=ht;unfold Builtin.SmallTypes.nextOf
 refine wpAny_bind (wpAny_callSpecial?_slot (name:=Str.ofString "__next__") hit.typeIs PySem.F.slot_tuple_iterator_next
  (wpAny_call_entry PySem.F.slot_tuple_iterator_next hit.typeIs PySem.F.entry_tuple_iterator_next ?_ (PySem.F.args_tuple_iterator_next_1 _)))
 show wpAny _ _ (field (.ref it) 0 >>= _) _ _ s;refine wpAny_bind (wpAny_field ho hd (x:=.ref t) rfl ?_);show wpAny _ _ (if (Value.ref t == Value.none)=true then _ else _) _ _ s;rw [if_neg (show ¬ ((Value.ref t == Value.none)=true) from Zf)];show wpAny _ _ (field (.ref it) 1 >>= _) _ _ s;refine wpAny_bind (wpAny_field ho hd (x:=.int i 0) rfl ?_);show wpAny _ _ (seqItems? (.ref t) >>= _) _ _ s;refine wpAny_bind (wpAny_seqItems hol hdl ?_);simp only [Zn,hx];refine wpAny_bind (wpAny_rule (wpAny_bind (wpAny_setField ho hd (by simp) ?_)));show wpAny _ _ (newExc (.type "StopIteration") [] >>= _) _ _ _;refine wpAny_bind ?_;simp only [newExc,newTuple];refine wpAny_bind (wpAny_newObj_type ?_ (by size_fits));refine wpAny_bind (m:=firstArgMember _ _) (wpAny_of_eq (a:=Value.none) (by first | rfl | (simp only [firstArgMember];rfl)) ?_);refine wpAny_newObj_type ?_ (by size_fits);simp only [raiseNew];refine wpAny_bind (wpAny_handled ?_)
 first | rw [show A.in1.handled=none from hh] | rw [hh]
 refine wpAny_bind (wpAny_pure (wpAny_throw ?_));exact hE _ _ (((Heap.SameBut.update ..).extBut.push _).push _) ⟨_,ZH _ rfl,rfl⟩
end
theorem zi {prog:Program} {w:World} {A:Around} (hh:A.handled=none) (it l:Addr) (hne:l ≠ it) (items:Array Value) :
  Draws prog w A it [it,l] items.size (fun i v=>items[i]?=some v) (fun i h=>h.IsTupleIter it l i/\h.IsTuple l items) where
 live:=fun _ _ st=>let ⟨o,ho,_⟩:=st.1;⟨o,ho⟩
 frame:=fun _ _ _ st hk=>⟨st.1.at fun o e=>hk it (by simp) o e,let ⟨o,e,r⟩:=st.2;⟨o,hk l (by simp) o e,r⟩⟩
 item:=fun i s Q E hi st hQ=>by
  refine kZ st.1 st.2 (x:=items[i]) (by simp [hi]) fun h' hit' hs'=>?_;exact hQ _ h' s.toks (by simp [hi]) ⟨hit',let ⟨o,e,r⟩:=st.2;⟨o,hs'.extBut l o hne e,r⟩⟩ hs'
 done:=fun s Q E st hE=>md hh st.1 st.2 (by simp) hE
theorem re (l:Addr) (items:Array Value) (n:Nat) (dct:Option Addr) (sl:Array (Option Value)) :
  Meets (Builtin.«enumerate.__new__» ⟨[.type "enumerate", .ref l],[]⟩) (fun _ R s=>s.heap.get? l=some { cls:=.type "tuple", dict:=dct,data:=.seq items n,slots:=sl } ∧
   R (.ok (.ret (.ref (s.heap.push { cls:=.type "tuple_iterator", data:=.fields #[.ref l,.int 0 0] }).objs.size)))
    { s with heap:=(s.heap.push { cls:=.type "tuple_iterator", data:=.fields #[.ref l,.int 0 0] }).push { cls:=.type "enumerate", data:=.fields #[.none,.bool false,.ref s.heap.objs.size,rawInt 0,.none,.none] } }):=
 .of_wp fun prog w A R s h=>by
  obtain ⟨hp,g,d,tk,os⟩:=s;obtain ⟨hl,h⟩:=h;have hsub:=sub_enumerate;have hL:Heap.IsTuple (Shared.heap ⟨hp,g,d,tk,os⟩) l items:=⟨_,hl,rfl,n,rfl⟩
  wp_walk using wpAny_loadPart' hl
  refine wpAny_stack_any fun st=>wpAny_pure ?_;split
  ·rename_i c _ _ _ _ _;cases (c == Value.type "enumerate")
   ·wp_walk using wpAny_loadPart' hl,wpAny_pyIter_tuple hL
    exact ⟨_,rfl,h⟩
   ·wp_walk using wpAny_loadPart' hl,wpAny_pyIter_tuple hL
    exact ⟨_,rfl,h⟩
  ·wp_walk using wpAny_loadPart' hl,wpAny_pyIter_tuple hL
   exact ⟨_,rfl,h⟩
theorem tU {prog:Program} {w:World} {A:Around} {E:Value->Shared->Prop} {s:Shared} {l:Addr} {items:Array Value} {Q:Value->Shared->Prop} (hL:IsTup s.heap l items)
  (h:∀ h',IsEnum h' (s.heap.objs.size+1) s.heap.objs.size 0 .none->h'.IsTupleIter s.heap.objs.size l 0->h'.objs.size=s.heap.objs.size+2 ->
   (∀ b o,s.heap.get? b=some o->h'.get? b=some o)->Q (.ref (s.heap.objs.size+1)) { s with heap:=h' }) :
  wpAny (model prog w) A (call (.type "enumerate") [.ref l]) Q E s:=by
 obtain ⟨⟨c,dct,dt,sl⟩,hl,hc,n,hd⟩:=hL;replace hc:c = .type "tuple" := hc;replace hd:dt = .seq items n:=hd;subst hc hd
 refine callType_new PySem.F.called_enumerate (by decide) (PySem.F.typeCall_enumerate_1 _) (PySem.F.newCall_enumerate_1 _) (fun obj=>PySem.F.args_object_init_2 obj _) PySem.F.entry_enumerate_new
  (re l items n dct sl) ⟨hl,?_⟩
 have hz:(s.heap.push { cls:=.type "tuple_iterator", data:=.fields #[.ref l,.int 0 0] }).objs.size=s.heap.objs.size+1:=Yw ..;show _/\_;rw [hz]
 have he:IsEnum ((s.heap.push { cls:=.type "tuple_iterator", data:=.fields #[.ref l,.int 0 0] }).push
   { cls:=.type "enumerate", data:=.fields #[.none,.bool false,.ref s.heap.objs.size,rawInt 0,.none,.none] }) (s.heap.objs.size+1) s.heap.objs.size 0 .none:=by
  have:=ZH (s.heap.push { cls:=.type "tuple_iterator", data:=.fields #[.ref l,.int 0 0] })
   (o:={ cls:=.type "enumerate", data:=.fields #[.none,.bool false,.ref s.heap.objs.size,rawInt 0,.none,.none] }) rfl
  rw [hz] at this;exact this
 exact ⟨⟨_,he,rfl⟩,h _ he ⟨_,Zh _ (ZH _ rfl),rfl,rfl⟩ (by rw [Yw,hz]) fun b o x=>Zh _ (Zh _ x)⟩
end HT
namespace L2
open PySem PySem.Spec PyProof.Rows
noncomputable def Ite (K:PySem.W.Frag) (a:Addr) (sq:PySem.W.Frag->Hp->Addr->List V->Prop):It:=
 ⟨fun i H=>∃ xs x,sq K H a xs/\xs[i]?=some x,fun i H x H'=>∃ T,H T=none/\x = .ref T/\∀ xs v,sq K H a xs->xs[i]?=some v->H'=upd H T (.tup [.int i,v]),fun i H=>∃ xs,sq K H a xs/\xs.length=i⟩
theorem Inv.turnedLaid {X:Cx} {pins:List (Addr × Obj)} {σ:St} {H:Hp} {s:Shared} {h':Heap} {T:Addr} {o:HO} {t':Nat} {ch:List Addr} (I:Inv X pins σ H s) (hf:∀ b ∈ ch,gX X pins H b)
  (k:∀ b ob,b ∉ ch->s.heap.get? b=some ob->h'.get? b=some ob) (hp:s.heap.objs.size<=T) (new:bw X.prog X.w (upd H T o) h' T o):Inv X pins σ (upd H T o) { s with heap:=h',toks:=t' }:=by
 have fr:=I.hok.fresh hp;have neT:∀ b ob,s.heap.get? b=some ob->b ≠ T:=fun b ob e=>ZC (Zu (Zs e) hp)
 refine I.step (g':=s.gens) (d':=s.drawn) (ch:=ch) (fun b hb=>⟨(hf b hb).2.2.2.1,(hf b hb).2.1,(hf b hb).2.2.2.2.1,(hf b hb).2.2.2.2.2⟩) (fun b ob _ _ hc e _=>k b ob hc e) (fun b ob _ _ hc e _=>⟨ob.slots,k b ob hc e⟩)
  (fun b ob _ e n=>by rw [aG (neT b ob e)];exact n) (fun b ob hc e=>⟨ob,k b ob hc e⟩) (fun b xs q=>by rw [aG (aS q fr)];exact q) (fun b u xs q=>by rw [aG (aS q fr)];exact q)
  (fun b ps q=>⟨#[],by rw [aG (aS q fr),q];simp⟩) (fun m hm=>?_) (fun b u q=>?_) I.bare
 ·obtain ⟨ob,es,ep,ho',r'⟩:=hm;exact ⟨ob,es,ep,k _ ob (fun z=>(hf _ z).2.1 rfl) ho',r'⟩
 ·by_cases hb:b=T
  ·subst hb;rw [bf] at q;cases q;exact new
  ·rw [aG hb] at q;refine (I.hok b u q).stay (fun c v hc q'=>k c v (fun z=>?_) q') (fun c q=>by rw [aG (aS q fr)];exact q) fun c xs q=>by rw [aG (aS q fr)];exact q
   have n:=(hf c z).1;rcases hc with w | w
   ·rw [w,q] at n;cases n
   ·rw [w] at n;cases n
theorem Inv.turnedAll {X:Cx} {pins:List (Addr × Obj)} {σ:St} {H:Hp} {s:Shared} {h':Heap} {t':Nat} {ch:List Addr} (I:Inv X pins σ H s) (hf:∀ b ∈ ch,gX X pins H b)
  (k:∀ b ob,b ∉ ch->s.heap.get? b=some ob->h'.get? b=some ob):Inv X pins σ H { s with heap:=h',toks:=t' }:=by
 refine I.step (g':=s.gens) (d':=s.drawn) (ch:=ch) (fun b hb=>⟨(hf b hb).2.2.2.1,(hf b hb).2.1,(hf b hb).2.2.2.2.1,(hf b hb).2.2.2.2.2⟩) (fun b ob _ _ hc e _=>k b ob hc e) (fun b ob _ _ hc e _=>⟨ob.slots,k b ob hc e⟩)
  (fun b ob _ e n=>n) (fun b ob hc e=>⟨ob,k b ob hc e⟩) (fun b xs q=>q) (fun b u xs q=>q)
  (fun b ps q=>⟨#[],by rw [q];simp⟩) (fun m hm=>?_) (fun b u q=>?_) I.bare
 ·obtain ⟨ob,es,ep,ho',r'⟩:=hm;exact ⟨ob,es,ep,k _ ob (fun z=>(hf _ z).2.1 rfl) ho',r'⟩
 ·refine (I.hok b u q).stay (fun c v hc q'=>k c v (fun z=>?_) q') (fun c q=>q) fun c xs q=>q;have n:=(hf c z).1;rcases hc with w | w
  ·rw [w,q] at n;cases n
  ·rw [w] at n;cases n
theorem tV {P:Program} {w:World} {K:PySem.W.Frag} {elts:List Expr} {x1:Nat} {tp:Pos} (a e it:Addr) (hei:e ≠ it) :
  Turn P w K (.Tuple elts x1 tp) (Ite K a SqL) [e,it] e (fun i h=>(∃ old,IsEnum h e it i old)/\h.IsListIter it a i) where
 mem:=by simp
 obj:=fun i h st b hb=>by
  obtain ⟨⟨old,he⟩,o,eo,c,d⟩:=st;rcases Zk.mp hb with z | z
  ·subst z;exact ⟨_,he,fun v z=>by have z':Data.fields _=Data.cell v:=z;cases z'⟩
  ·have z':=ZM.mp z;subst z';exact ⟨o,eo,fun v z=>by rw [d] at z;cases z⟩
 keep:=fun i h h' st k=>⟨let ⟨old,he⟩:=st.1;⟨old,k e (by simp) _ he⟩,st.2.at fun o eo=>k it (by simp) o eo⟩
 item:=by
  intro X hP hw hK hc i pins s σ H E I hf st hg;subst hP hw hK;obtain ⟨xs,x,hq,hx⟩:=hg;obtain ⟨its,rv,p,hz⟩:=I.list hq;obtain ⟨u,hu,ru⟩:=rv.get hx;obtain ⟨⟨old,he⟩,hit⟩:=st;have hL:s.heap.IsList a its.toArray:=p.isList
  have hae:e ≠ a:=fun z=>by
   subst z;obtain ⟨o,ho,hc',n,hd'⟩:=id hL;rw [he] at ho;cases ho;have z':Data.fields _=Data.seq its.toArray n:=hd';cases z'
  have hai:a ≠ it:=fun z=>by
   subst z;obtain ⟨o,ho,hc',n,hd'⟩:=id hL;obtain ⟨o',ho',c',d'⟩:=id hit;rw [ho'] at ho;cases ho;rw [d'] at hd';cases hd'
  have hi:i < its.toArray.size:=by
   have:=(Zc.mp hu).1
   simpa using this
  refine wpAny_pyNext_enum_itemD (Draws.list (A:=X.A.in1) (I.ok.hd hc) it a hai its.toArray) he ⟨hit,hL⟩ hi hei (by simp [hei,hae]) fun y h' tk hP ho hs' hT hsz hk=>?_
  have ey:y=u:=by
   have z:its.toArray[i]?=some u:=by simpa using hu
   rw [z] at hP;exact (Option.some.inj hP).symm
  subst ey;refine ⟨_,rfl,?_⟩;refine wpAny_letOwnedTupleGo_enum ho fun h2 he2 hs2=>?_;have helt:e < s.heap.objs.size:=Zs he;have hilt:it < s.heap.objs.size:=by obtain ⟨o,eo,_⟩:=hit;exact Zs eo
  have hT2:h2.get? s.heap.objs.size=some { cls:=.type "tuple", data:=.seq #[.int i tk,y] }:=(hs2.2 _ (Xj helt)).trans hT;have fresh:=I.hok.fresh (Zd s.heap.objs.size);refine ⟨.ref s.heap.objs.size,upd H s.heap.objs.size (.tup [.int i,x]),?_,rfl,⟨_,fresh,rfl,fun ys v hy hv=>?_⟩,⟨⟨y,by simpa using he2⟩,hs'.1.at fun o eo=>(hs2.2 it (Ne.symm hei)).trans eo⟩,fun b hb=>?_⟩
  ·exact I.turnedLaid (t':=tk+1) hf (fun b ob hb eb=>(hs2.2 b fun z=>hb (by simp [z])).trans (hk b ob (fun z=>hb (by simp [z])) (fun z=>hb (by simp [z])) eb)) (Zd _)
    ⟨by show 2<=sizeLine;decide,[.int i tk,y],.cons ⟨tk,rfl⟩ (.cons ru .nil),⟨_,hT2,rfl,_,rfl,rfl⟩⟩
  ·rw [I.list_inj hy hq,hx] at hv;cases hv;rfl
  ·rcases Zk.mp hb with z | z
   ·rw [z,aG (ZC helt)];exact (hf e (by simp)).1
   ·rw [ZM.mp z,aG (ZC hilt)];exact (hf it (by simp)).1
 done:=by
  intro X hP hw hK hc i pins s σ H E I hf st hg;subst hP hw hK;obtain ⟨xs,hq,hx⟩:=hg;obtain ⟨its,rv,p,hz⟩:=I.list hq;obtain ⟨⟨old,he⟩,hit⟩:=st;have hL:s.heap.IsList a its.toArray:=p.isList
  have hai:a ≠ it:=fun z=>by
   subst z;obtain ⟨o,ho,hc',n,hd'⟩:=id hL;obtain ⟨o',ho',c',d'⟩:=id hit;rw [ho'] at ho;cases ho;rw [d'] at hd';cases hd'
  have hn:its.toArray.size=i:=by rw [Zi,<-rv.length,hx]
  subst hn;refine wpAny_pyNext_enum_endD (Draws.list (A:=X.A.in1) (I.ok.hd hc) it a hai its.toArray) he ⟨hit,hL⟩ fun h' eb=>⟨rfl,?_⟩;exact I.turnedAll (t':=s.toks) hf fun b ob hb q=>eb b ob (fun z=>hb (by simp [z])) q
 self:=fun _ _ _ _ _ st h=>let ⟨⟨old,he⟩,_⟩:=st;wpAny_pyIter_enum he h
theorem tW {P:Program} {w:World} {K:PySem.W.Frag} {elts:List Expr} {x1:Nat} {tp:Pos} (a e it:Addr) (hei:e ≠ it) :
  Turn P w K (.Tuple elts x1 tp) (Ite K a SqT) [e,it] e (fun i h=>(∃ old,IsEnum h e it i old)/\h.IsTupleIter it a i) where
 mem:=by simp
 obj:=fun i h st b hb=>by
  obtain ⟨⟨old,he⟩,o,eo,c,d⟩:=st;rcases Zk.mp hb with z | z
  ·subst z;exact ⟨_,he,fun v z=>by have z':Data.fields _=Data.cell v:=z;cases z'⟩
  ·have z':=ZM.mp z;subst z';exact ⟨o,eo,fun v z=>by rw [d] at z;cases z⟩
 keep:=fun i h h' st k=>⟨let ⟨old,he⟩:=st.1;⟨old,k e (by simp) _ he⟩,st.2.at fun o eo=>k it (by simp) o eo⟩
 item:=by
  intro X hP hw hK hc i pins s σ H E I hf st hg;subst hP hw hK;obtain ⟨xs,x,hq,hx⟩:=hg;obtain ⟨its,rv,p,hz⟩:=I.tuple hq;obtain ⟨u,hu,ru⟩:=rv.get hx;obtain ⟨⟨old,he⟩,hit⟩:=st;have hL:s.heap.IsTuple a its.toArray:=p
  have hae:e ≠ a:=fun z=>by
   subst z;obtain ⟨o,ho,hc',n,hd'⟩:=id hL;rw [he] at ho;cases ho;have z':Data.fields _=Data.seq its.toArray n:=hd';cases z'
  have hai:a ≠ it:=fun z=>by
   subst z;obtain ⟨o,ho,hc',n,hd'⟩:=id hL;obtain ⟨o',ho',c',d'⟩:=id hit;rw [ho'] at ho;cases ho;rw [d'] at hd';cases hd'
  have hi:i < its.toArray.size:=by
   have:=(Zc.mp hu).1
   simpa using this
  refine wpAny_pyNext_enum_itemD (HT.zi (A:=X.A.in1) (I.ok.hd hc) it a hai its.toArray) he ⟨hit,hL⟩ hi hei (by simp [hei,hae]) fun y h' tk hP ho hs' hT hsz hk=>?_
  have ey:y=u:=by
   have z:its.toArray[i]?=some u:=by simpa using hu
   rw [z] at hP;exact (Option.some.inj hP).symm
  subst ey;refine ⟨_,rfl,?_⟩;refine wpAny_letOwnedTupleGo_enum ho fun h2 he2 hs2=>?_;have helt:e < s.heap.objs.size:=Zs he;have hilt:it < s.heap.objs.size:=by obtain ⟨o,eo,_⟩:=hit;exact Zs eo
  have hT2:h2.get? s.heap.objs.size=some { cls:=.type "tuple", data:=.seq #[.int i tk,y] }:=(hs2.2 _ (Xj helt)).trans hT;have fresh:=I.hok.fresh (Zd s.heap.objs.size);refine ⟨.ref s.heap.objs.size,upd H s.heap.objs.size (.tup [.int i,x]),?_,rfl,⟨_,fresh,rfl,fun ys v hy hv=>?_⟩,⟨⟨y,by simpa using he2⟩,hs'.1.at fun o eo=>(hs2.2 it (Ne.symm hei)).trans eo⟩,fun b hb=>?_⟩
  ·exact I.turnedLaid (t':=tk+1) hf (fun b ob hb eb=>(hs2.2 b fun z=>hb (by simp [z])).trans (hk b ob (fun z=>hb (by simp [z])) (fun z=>hb (by simp [z])) eb)) (Zd _)
    ⟨by show 2<=sizeLine;decide,[.int i tk,y],.cons ⟨tk,rfl⟩ (.cons ru .nil),⟨_,hT2,rfl,_,rfl,rfl⟩⟩
  ·rw [I.tuple_inj hy hq,hx] at hv;cases hv;rfl
  ·rcases Zk.mp hb with z | z
   ·rw [z,aG (ZC helt)];exact (hf e (by simp)).1
   ·rw [ZM.mp z,aG (ZC hilt)];exact (hf it (by simp)).1
 done:=by
  intro X hP hw hK hc i pins s σ H E I hf st hg;subst hP hw hK;obtain ⟨xs,hq,hx⟩:=hg;obtain ⟨its,rv,p,hz⟩:=I.tuple hq;obtain ⟨⟨old,he⟩,hit⟩:=st;have hL:s.heap.IsTuple a its.toArray:=p
  have hai:a ≠ it:=fun z=>by
   subst z;obtain ⟨o,ho,hc',n,hd'⟩:=id hL;obtain ⟨o',ho',c',d'⟩:=id hit;rw [ho'] at ho;cases ho;rw [d'] at hd';cases hd'
  have hn:its.toArray.size=i:=by rw [Zi,<-rv.length,hx]
  subst hn;refine wpAny_pyNext_enum_endD (HT.zi (A:=X.A.in1) (I.ok.hd hc) it a hai its.toArray) he ⟨hit,hL⟩ fun h' eb=>⟨rfl,?_⟩;exact I.turnedAll (t':=s.toks) hf fun b ob hb q=>eb b ob (fun z=>hb (by simp [z])) q
 self:=fun _ _ _ _ _ st h=>let ⟨⟨old,he⟩,_⟩:=st;wpAny_pyIter_enum he h
noncomputable def Hq (K:PySem.W.Frag) (ta:TA):TI:=fun σ H R=>ta σ H fun vs H1=>∃ a xs,vs=[.ref a]/\SqL K H1 a xs/\R (Ite K a SqL) H1
noncomputable def L4 (K:PySem.W.Frag) (ta:TA):TI:=fun σ H R=>ta σ H fun vs H1=>∃ a xs,vs=[.ref a]/\SqT K H1 a xs/\R (Ite K a SqT) H1
section
variable {X:Cx} {elts:List Expr} {x1:Nat} {tp:Pos}
theorem zj {a:Expr} {ta:TA} {p pos:Pos} (hg:Gl X "enumerate") (hm:X.mg "enumerate" = none) (ha:PA X [a] ta) (hs:starEach [a] X.env=[(false,eval a X.env)]:=by rfl):PI X (.Tuple elts x1 tp) (.Call (.Name "enumerate" p) [a] [] pos) (Hq X.K ta):=by
 intro pins s σ H R I h;refine Call_ (iz I hg hm PyProof.Rows.boot_enumerate (PyProof.Rows.callWith_type1 (thn (ha pos pins s σ H _ I h) fun us s1 ⟨vs,H1,I1,r1,q1⟩=>?_) hs rfl));obtain ⟨l,xs,e,hl,q⟩:=q1;subst e;obtain ⟨u,rfl,ru⟩:=cJ r1;cases ru;obtain ⟨its,rv,pl,hz⟩:=I1.list hl;refine call_enumerate_list pl.isList fun h' he hit hsz hk=>wpAny_pyIter_enum he ?_;have I2:Inv X pins σ H1 { s1 with heap:=h' }:=I1.kept (t':=s1.toks) hk;have fr:∀ b,s1.heap.objs.size<=b->gX X pins H1 b:=fun b hb=>I1.fpOk hb (I1.hok.fresh hb);refine ⟨_,[s1.heap.objs.size+1,s1.heap.objs.size],_,_,H1,rfl,I2,tV l _ _ (Xs _),⟨⟨_,he⟩,hit⟩,fun b hb=>?_,q⟩;rcases Zk.mp hb with z | z
 ·rw [z];exact fr _ (Yq _)
 ·rw [ZM.mp z];exact fr _ (Zd _)
theorem Hr {a:Expr} {ta:TA} {p pos:Pos} (hg:Gl X "enumerate") (hm:X.mg "enumerate" = none) (ha:PA X [a] ta) (hs:starEach [a] X.env=[(false,eval a X.env)]:=by rfl):PI X (.Tuple elts x1 tp) (.Call (.Name "enumerate" p) [a] [] pos) (L4 X.K ta):=by
 intro pins s σ H R I h;refine Call_ (iz I hg hm PyProof.Rows.boot_enumerate (PyProof.Rows.callWith_type1 (thn (ha pos pins s σ H _ I h) fun us s1 ⟨vs,H1,I1,r1,q1⟩=>?_) hs rfl));obtain ⟨l,xs,e,hl,q⟩:=q1;subst e;obtain ⟨u,rfl,ru⟩:=cJ r1;cases ru;obtain ⟨its,rv,pl,hz⟩:=I1.tuple hl;refine HT.tU pl fun h' he hit hsz hk=>wpAny_pyIter_enum he ?_;have I2:Inv X pins σ H1 { s1 with heap:=h' }:=I1.kept (t':=s1.toks) hk;have fr:∀ b,s1.heap.objs.size<=b->gX X pins H1 b:=fun b hb=>I1.fpOk hb (I1.hok.fresh hb);refine ⟨_,[s1.heap.objs.size+1,s1.heap.objs.size],_,_,H1,rfl,I2,tW l _ _ (Xs _),⟨⟨_,he⟩,hit⟩,fun b hb=>?_,q⟩;rcases Zk.mp hb with z | z
 ·rw [z];exact fr _ (Yq _)
 ·rw [ZM.mp z];exact fr _ (Zd _)
end
section
variable {X:Cx}
theorem rf:aR X (.type "range") (fun xs H Q=>∃ j:Int,xs=[.int j]/\∀ p,H p=none->Q (.ref p) (upd H p (.rng 0 j))):=by
 intro pins s σ H xs us Q I r h;obtain ⟨j,rfl,q⟩:=h;obtain ⟨u,rfl,ru⟩:=cJ r;obtain ⟨t,rfl⟩:=ru;exact call_range_1 ⟨.ref s.heap.objs.size,_,I.laid (t':=s.toks+1+1) (o:=.rng 0 j) (fun b o e=>Zh _ e) (Zd _) ⟨_,_,_,ZH _ rfl⟩,rfl,q _ (I.hok.fresh (Zd _))⟩
theorem pM (hc:X.calm=true):aR X (.type "list") (fun xs H Q=>∃ (p:Addr) (n:Nat),xs=[.ref p]/\H p=some (.rng 0 n)/\n<=1000/\∀ l,H l=none->Q (.ref l) (upd H l (.lst ((Zj n).map fun (i:Nat)=>V.int i)))):=by
 intro pins s σ H xs us Q I r h;obtain ⟨p,n,rfl,hp,hn,q⟩:=h;obtain ⟨u,rfl,ru⟩:=cJ r;cases ru;obtain ⟨t,u,v,e⟩:=(show bw X.prog X.w H s.heap p (.rng 0 n) from I.hok p _ hp);exact ma hc I e hn q
end
end L2
namespace L2
open PySem PySem.Spec PyProof.Rows
section
variable {X:Cx}
noncomputable def FV (i j k:Nat) (ta:TA):TS:=fun D σ H=>ta σ H fun vs H1=>∃ v w z,vs=[v,w,z]/\D.nx (((σ.set i (some v)).set j (some w)).set k (some z)) H1
theorem CO {i j k:Nat} {x y z:Str} {a b c:Expr} {ta:TA} {px py pz pt pos:Pos} {kt k2 pt2} (hc:X.calm=true) (hN:X.N.Nodup) (hi:X.N[i]?=some x) (hj:X.N[j]?=some y) (hk:X.N[k]?=some z) (hij:i ≠ j) (hik:i ≠ k) (hjk:j ≠ k)
  (hx:X.env.scope.names.lookup x=some .local) (hy:X.env.scope.names.lookup y=some .local) (hz:X.env.scope.names.lookup z=some .local) (ha:PA X [a,b,c] ta)
  (hw:swappedStores [.Tuple [.Name x px,.Name y py,.Name z pz] kt pt] (.Tuple [a,b,c] k2 pt2) X.env=pure (some [x,y,z]))
  (hs:swapsWithSole [.Tuple [.Name x px,.Name y py,.Name z pz] kt pt] (.Tuple [a,b,c] k2 pt2) pos.line X.env=pure false:=by rfl) :
  PS X (.Assign [.Tuple [.Name x px,.Name y py,.Name z pz] kt pt] (.Tuple [a,b,c] k2 pt2) pos) (FV i j k ta):=by
 intro pins s σ H D I h;rw [exec_Assign_arm];refine wpAny_bind (wpAny_standAt ?_);rw [hs];refine wpAny_bind (wpAny_pure ?_);rw [if_neg (by decide)];refine wpAny_bind (Tuple_ (thn (ha _ pins s σ H _ I h) fun us s1 ⟨vs,H1,I1,r1,q1⟩=>?_));obtain ⟨v,w,z',e1,q1⟩:=q1;subst e1
 obtain ⟨u1,u2,u3,rfl,rv,rw',rz⟩:∃ u1 u2 u3,us=[u1,u2,u3]/\aM v u1/\aM w u2/\aM z' u3:=by
  cases r1 with
  | cons p q=>
   cases q with
   | cons p' q'=>
    cases q' with
    | cons p'' q''=>
     cases q'';exact ⟨_,_,_,rfl,p,p',p''⟩
 refine wpAny_newObj_type ?_ (by show 3<=sizeLine;decide);have I2:Inv X pins σ H1 { s1 with heap:=s1.heap.push { cls:=.type "tuple", data:=.seq [u1,u2,u3].toArray } }:=I1.kept (t':=s1.toks) fun b o e=>Zh _ e;rw [hw];refine wpAny_bind (wpAny_pure ?_);show wpAny (model X.prog X.w) X.A (do rule "assign.swapped-stores"; let items <-unpackItems (.ref s1.heap.objs.size) 3 none;assignInOrder [fun v=>bindName X.env z v,fun v=>bindName X.env y v,fun v=>bindName X.env x v] items.reverse;pure Flow.next) _ _ _;refine wpAny_bind (wpAny_rule (wpAny_bind (unpackItems_tuple (items:=#[u1,u2,u3]) (I.ok.hd hc) (IsTup.new s1.heap _) fun h' hx'=>?_)));have I3:=I2.kept (h':=h') (t':=s1.toks) fun b o e=>hx' b o (ZC (Zs e)) e;show wpAny _ _ (assignInOrder [fun v=>bindName X.env z v,fun v=>bindName X.env y v,fun v=>bindName X.env x v] [u3,u2,u1] >>= fun _=>pure Flow.next) _ _ _;refine wpAny_bind (assignInOrder_cons (wpAny_bindName (cS I3 hN hk (.inl hz) rz (fun s2 I4=>?_) (.inr hz))));refine assignInOrder_cons (wpAny_bindName (cS I4 hN hj (.inl hy) rw' (fun s3 I5=>?_) (.inr hy)));refine assignInOrder_cons (wpAny_bindName (cS I5 hN hi (.inl hx) rv (fun s4 I6=>assignInOrder_nil (wpAny_pure ?_)) (.inr hx)));refine ⟨_,H1,?_,q1⟩;rw [YT _ _ (Ne.symm hjk),YT _ _ (Ne.symm hik),YT (some w) (some v) (Ne.symm hij)] at I6;exact I6
end
noncomputable def jP:List Str->Bool
 | []=>true
 | x::r=>!r.contains x && jP r
theorem i6:∀ {l:List Str},jP l=true->l.Nodup
 | [],_=>List.nodup_nil
 | x::r,h=>by
  unfold jP at h;rw [bAE] at h;refine Yt.mpr ⟨fun m=>?_,i6 h.2⟩;have:=h.1;simp [m] at this
noncomputable def cmB (own:List Str) (hs:List Nat) (N:List Str) (scope sc:Scope):Bool:=
 (scope.kind == .function) && jP (cT hs N++own) && jP (scope.names.map (·.1)) && ((cT hs N).all fun x=>scope.names.lookup x != some .local && scope.names.lookup x != some .cell) &&
 (scope.names.all fun y=>y.2 != .free || (sc.names.lookup y.1 == some .cell || sc.names.lookup y.1 == some .free)) && hs.all fun i=>(scope.names.lookup (zd i)).isNone
theorem zk {own:List Str} (hs:List Nat) {N:List Str} {scope sc:Scope} (h:cmB own hs N scope sc=true):CmScope own hs N scope sc:=by
 unfold cmB at h;simp only [bAE,Zx] at h;obtain ⟨⟨⟨⟨⟨h1,h2⟩,h3⟩,h4⟩,h5⟩,h6⟩:=h;refine ⟨by simpa using h1,i6 h2,i6 h3,fun x hx=>?_,fun y hy hk=>?_,fun i hi=>by simpa using h6 i hi⟩
 ·have:=h4 x hx
  simpa using this
 ·have:=h5 y hy;rw [hk] at this
  simpa using this
end L2
namespace L2
open PySem PySem.Spec PyProof.Rows
section
variable {X:Cx} {tg l a:Expr} {tl:TE} {ta:TA} {es:List Expr} {t:TGs} {p pos:Pos} {n k:Nat} {elts:List Expr} {x1:Nat} {tp:Pos} {o e:Expr} {to:TE} {tt:TA} {name:Str} {apos cpos:Pos}
noncomputable def FW (K:PySem.W.Frag):List V->Hp->VK->Prop:=fun xs H Q=>∃ x n t b,xs=[x,.ty n]/\TyOf K H x t/\PySem.W.kitOne K t (.type n)=some b/\Q (.bl b) H
theorem pN (K:PySem.W.Frag) (hK:X.K=K:=by rfl):aR X (.builtin "isinstance") (FW K):=hK ▸ rd
end
end L2
namespace L2
open PySem PySem.Spec PyProof.Rows
theorem zl {X:Cx} {k v:Expr} {tk tv:TE} {pos:Pos} (hk:PE X k tk) (hv:PE X v tv):PE X (.Dict [some k] [v] pos) (zc [(tk,tv)]):=CB (y9 hk hv CA) rfl rfl (by simp) (by simp)
end L2
namespace L2
open PySem PySem.Spec PyProof.Rows
theorem mf {x:V}:∀ {xs:List V} {us:List Value},aP xs us->xs.all eu=true->us.countP (eqU x)=xs.countP fun y=>eqV y x
 | _,_,.nil,_=>rfl
 | y::xs,u::us,.cons r t,f=>by
  rw [ZS,bAE] at f;rw [YF,YF,tQ r f.1,mf t f.2]
section
variable {X:Cx}
noncomputable def CP (K:PySem.W.Frag):V->List V->Hp->VK->Prop:=fun x vs H Q=>∃ p xs y,x = .ref p/\vs=[y]/\SqT K H p xs/\eu y=true/\xs.all eu=true/\Q (.int ((xs.countP fun z=>eqV z y:Nat):Int)) H
theorem xt (K:PySem.W.Frag) (hK:X.K=K:=by rfl):MtR X "tuple.count" (CP K):=by
 subst hK;intro pins s σ H x vs v us Q I rx rv h;obtain ⟨p,xs,y,rfl,rfl,hq,fy,fs,q⟩:=h;cases rx;obtain ⟨u,rfl,ru⟩:=rv.one;obtain ⟨its,r,⟨⟨cls,dd,data,sl⟩,e,hc,n,hd⟩,hz⟩:=I.tuple hq;simp only at hc hd;subst hc hd;refine call_meets F.slot_tuple_count ⟨_,e,rfl⟩ F.entry_tuple_count (F.args_tuple_count_2 _ _) (SeqAt.tuple_countAt p its.toArray n dd sl u (eqU y)) ⟨e,fun w hw=>eA ru fy r fs w (by simpa using hw),?_⟩;refine ⟨.int _,H,I.tok _,⟨_,rfl⟩,?_⟩
 have z:(its.toArray.toList.countP (eqU y))=xs.countP fun z=>eqV z y:=by
  rw [List.toList_toArray];exact mf r fs
 rw [z];exact q
end
end L2
namespace Dw
open PySem PySem.Spec PyProof.Rows L2
inductive D where
 | non | bl (b:Bool) | int (i:Int) | str (x:Str) | tup (ds:List D) | lst (ds:List D) | dic (ks:List Key) (ds:List D)
mutual
noncomputable def Br (N:List Addr) (H:Hp):D->V->Prop
 | .non,v=>v = .non
 | .bl b,v=>v = .bl b
 | .int i,v=>v = .int i
 | .str x,v=>v = .str x
 | .tup ds,v=>∃ a xs,v = .ref a/\H a=some (.tup xs)/\BrL N H ds xs
 | .lst ds,v=>∃ a xs,v = .ref a/\a ∉ N/\H a=some (.lst xs)/\BrL N H ds xs
 | .dic ks ds,v=>∃ a xs,v = .ref a/\a ∉ N/\H a=some (.dK (ks.zip xs))/\ks.length=ds.length/\BrL N H ds xs
noncomputable def BrL (N:List Addr) (H:Hp):List D->List V->Prop
 | [],xs=>xs=[]
 | d::ds,xs=>∃ x r,xs=x::r/\Br N H d x/\BrL N H ds r
end
mutual
noncomputable def dep:D->Nat
 | .tup ds=>i7 ds+1
 | .lst ds=>i7 ds+1
 | .dic _ ds=>i7 ds+1
 | _=>0
noncomputable def i7:List D->Nat
 | []=>0
 | d::ds=>max (dep d) (i7 ds)
end
mutual
noncomputable def wid:D->Nat
 | .tup ds=>max ds.length (pO ds)
 | .lst ds=>max ds.length (pO ds)
 | .dic _ ds=>max ds.length (pO ds)
 | _=>0
noncomputable def pO:List D->Nat
 | []=>0
 | d::ds=>max (wid d) (pO ds)
end
theorem BrL.len {N:List Addr} {H:Hp}:∀ {ds:List D} {xs:List V},BrL N H ds xs->xs.length=ds.length
 | [],_,h=>by simp only [BrL] at h;rw [h];rfl
 | d::ds,_,h=>by
  simp only [BrL] at h;obtain ⟨x,r,rfl,_,h2⟩:=h;rw [ZA,ZA,BrL.len h2]
noncomputable def isB:D->Bool | .bl _=>true | _=>false
end Dw
namespace Dw
open PySem PySem.Spec PyProof.Rows L2
noncomputable def isW (d:D):Bool:=match d with | .int _=>true | _=>false
noncomputable def az (d:D) (a b:Int):Bool:=match d with | .int i=>decide (a<=i) && decide (i<=b) | _=>false
noncomputable def isT (d:D) (a b:Int):Bool:=match d with | .tup ds=>decide (a<=(ds.length:Int)) && decide ((ds.length:Int)<=b) | _=>false
noncomputable def hV (n:Nat) (d:D):Bool:=match d with | .tup ds=>decide (ds.length=n) && ds.all (fun e=>az e 1 99) | _=>false
noncomputable def mh (rows:List D) (a b:Nat):Int:=match rows[a]? with
 | some (.tup r)=>(match r[b]? with | some (.int i)=>i | _=>0)
 | _=>0
noncomputable def tX (rows:List D) (a b c:Nat):Bool:=decide (mh rows a b<=mh rows a c+mh rows c b)
noncomputable def xu (rows:List D) (n:Nat):List Bool:=(Zj n).flatMap fun a=>(Zj n).flatMap fun b=>(Zj n).map fun c=>tX rows a b c
noncomputable def bX (d:D):Bool:=match d with
 | .tup rows=>(decide (1<=rows.length) && decide (rows.length<=4)) && (rows.all (hV rows.length) && (xu rows rows.length).all id)
 | _=>false
noncomputable def ltD (x y:D):Bool:=match x,y with | .int i,.int j=>decide (i < j) | _,_=>false
noncomputable def a8 (d:D):Bool:=match d with | .tup [b,e]=>az b 0 9999 && (az e 0 9999 && ltD b e) | _=>false
noncomputable def kq (ds:List D) (i:Nat):Int:=match ds[i]? with | some (.tup [.int b,_])=>b | _=>0
noncomputable def kr (ds:List D) (i:Nat):Int:=match ds[i]? with | some (.tup [_,.int e])=>e | _=>0
noncomputable def pP (ds:List D):List Bool:=(Zj (ds.length - 1)).map fun i=>decide (kr ds i < kq ds (i+1))
noncomputable def bH (d:D):Bool:=match d with | .tup ds=>decide (ds.length<=4) && (ds.all a8 && (pP ds).all id) | _=>false
noncomputable def bP (d:D):Bool:=match d with
 | .tup [r,s,g,h]=>az r 0 8 && (az s 0 60 && (bX g && bH h))
 | _=>false
theorem pQ (ds:List D) (n:Nat):isT (.tup ds) n n=decide (ds.length=n):=by
 unfold isT;rw [Z0];simp;omega
theorem aD {d:D} {a b:Int} (h:az d a b=true):∃ i,d = .int i/\a<=i/\i<=b:=by
 cases d with
 | int i=>simp [az] at h;exact ⟨i,rfl,h.1,h.2⟩
 | _=>simp [az] at h
theorem pR {rows:List D} {n a b:Nat} (h:rows.all (hV n)=true) (ha:a < rows.length) (hb:b < n):∃ r i,rows[a]?=some (.tup r)/\r[b]?=some (.int i)/\mh rows a b=i/\1<=i/\i<=99:=by
 have h1:=Zx.mp h rows[a] (ZG ha);have e1:rows[a]?=some rows[a]:=gEG ha;generalize hd:rows[a]=d at h1 e1;cases d with
 | tup r=>
  simp only [hV,bAE,decide_eq_true_eq] at h1;have hb':b < r.length:=by omega
  obtain ⟨i,e2,l,u⟩:=aD (Zx.mp h1.2 r[b] (ZG hb'));have e3:r[b]?=some (.int i):=by rw [gEG hb',e2]
  exact ⟨r,i,e1,e3,by unfold mh;rw [e1];dsimp only;rw [e3],l,u⟩
 | _=>simp [hV] at h1
theorem ow {α:Type} (n:Nat) (f:Nat->List α):(Zj (n+1)).flatMap f=(Zj n).flatMap f++f n:=by
 rw [YI,Xc];simp
theorem vD {α:Type} {n m:Nat} {f:Nat->List α} (h:∀ i,i < n->(f i).length<=m):((Zj n).flatMap f).length<=n * m:=by
 induction n with
 | zero=>simp
 | succ n ih=>
  rw [ow,Zr];have:=ih fun i hi=>h i (by omega);have:=h n (by omega);rw [Xl];omega
theorem Ht (ds:List D):isT (.tup ds) 1 4=(decide (1<=ds.length) && decide (ds.length<=4)):=by
 unfold isT;rw [Z0];simp;omega
theorem Hu (ds:List D):isT (.tup ds) 0 4=decide (ds.length<=4):=by
 unfold isT;rw [Z0];simp;omega
theorem tY (ds:List D):isT (.tup ds) 2 2=decide (ds.length=2):=pQ ds 2
theorem zm (ds:List D):isT (.tup ds) 4 4=decide (ds.length=4):=pQ ds 4
theorem pS {ds:List D} (h:ds.length=2):∃ b e,ds=[b,e]:=by
 match ds,h with
 | [b,e],_=>exact ⟨b,e,rfl⟩
theorem vE {ds:List D} (h:ds.length=4):∃ a b c d,ds=[a,b,c,d]:=by
 match ds,h with
 | [a,b,c,d],_=>exact ⟨a,b,c,d,rfl⟩
theorem tZ {d:D} (h:a8 d=true):∃ b e,d = .tup [.int b,.int e]/\0<=b/\b<=9999/\0<=e/\e<=9999/\b < e:=by
 unfold a8 at h;split at h
 ·rename_i b e;simp only [bAE] at h;obtain ⟨h1,h2,h3⟩:=h;obtain ⟨i,rfl,l1,u1⟩:=aD h1;obtain ⟨j,rfl,l2,u2⟩:=aD h2;simp [ltD] at h3;exact ⟨i,j,rfl,l1,u1,l2,u2,h3⟩
 ·cases h
theorem vF {ds:List D} {i:Nat} (h:ds.all a8=true) (hi:i < ds.length):∃ b e,ds[i]?=some (.tup [.int b,.int e])/\kq ds i=b/\kr ds i=e:=by
 obtain ⟨b,e,q,_⟩:=tZ (Zx.mp h ds[i] (ZG hi));have e1:ds[i]?=some (.tup [.int b,.int e]):=by rw [gEG hi,q]
 exact ⟨b,e,e1,by unfold kq;rw [e1],by unfold kr;rw [e1]⟩
noncomputable def gZ (ds:List D) (lo hi:Option Int):List D:=(ds.drop (HT.sIx ds.length 0 lo)).take (HT.sIx ds.length ds.length hi - HT.sIx ds.length 0 lo)
theorem rh {d:D}:∀ {ds:List D},d ∈ ds->dep d<=i7 ds
 | e::ds,h=>by
  rw [i7];rcases Zk.mp h with z | z
  ·rw [z];omega
  ·have:=rh z;omega
theorem rj {d:D}:∀ {ds:List D},d ∈ ds->wid d<=pO ds
 | e::ds,h=>by
  rw [pO];rcases Zk.mp h with z | z
  ·rw [z];omega
  ·have:=rj z;omega
theorem vG {n:Nat}:∀ {ds:List D},(∀ d ∈ ds,dep d<=n)->i7 ds<=n
 | [],_=>by rw [i7];omega
 | e::ds,h=>by
  rw [i7];have:=h e Zg;have:=vG (ds:=ds) fun d hd=>h d (Ze _ hd);omega
theorem vH {n:Nat}:∀ {ds:List D},(∀ d ∈ ds,wid d<=n)->pO ds<=n
 | [],_=>by rw [pO];omega
 | e::ds,h=>by
  rw [pO];have:=h e Zg;have:=vH (ds:=ds) fun d hd=>h d (Ze _ hd);omega
structure Fit (n m:Nat) (d:D):Prop where
 de:dep d<=n
 wi:wid d<=m
theorem Fit.tup {n m:Nat} {ds:List D} (hl:ds.length<=m) (h:∀ d ∈ ds,Fit n m d):Fit (n+1) m (.tup ds):=by
 refine ⟨?_,?_⟩
 ·rw [dep];have:=vG (n:=n) fun d hd=>(h d hd).de;omega
 ·rw [wid];have:=vH (n:=m) fun d hd=>(h d hd).wi;omega
theorem Fit.len {n m:Nat} {ds:List D} (h:Fit n m (.tup ds)):ds.length<=m:=by have:=h.wi;rw [wid] at this;omega
theorem Fit.mem {n m:Nat} {ds:List D} {d:D} (h:Fit (n+1) m (.tup ds)) (hd:d ∈ ds):Fit n m d:=by
 have h1:=h.de;have h2:=h.wi;rw [dep] at h1;rw [wid] at h2;have:=rh hd;have:=rj hd;exact ⟨by omega,by omega⟩
theorem Hv (n:Nat) (a:Int) (h0:0<=a):HT.sIx n 0 (some a)=min a.toNat n:=by
 show (if a < 0 then (a+(n:Int)).toNat else min a.toNat n)=_;rw [if_neg (by omega)]
theorem zn (n:Nat) (a:Int) (h0:0<=a):HT.sIx n n (some a)=min a.toNat n:=by
 show (if a < 0 then (a+(n:Int)).toNat else min a.toNat n)=_;rw [if_neg (by omega)]
noncomputable def aX (q:Int × Int):D:=.tup [.int q.1,.int q.2]
structure FA (es:List (Int × Int)) (b:Int):Prop where
 each:∀ q ∈ es,0<=q.1/\q.1 < q.2/\q.2<=b
 rise:∀ (i:Nat) q q',es[i]?=some q->es[i+1]?=some q'->q.2 < q'.1
theorem FA.shuts {es:List (Int × Int)} {b:Int} (h:FA es b) (hb:b<=9999) (hl:es.length<=4):bH (.tup (es.map aX))=true:=by
 have hs:(es.map aX).all a8=true:=by
  rw [ZP,Zx];intro q hq;have:=h.each q hq;show a8 (aX q)=true;simp only [aX,a8,az,ltD,bAE,decide_eq_true_eq];omega
 unfold bH;rw [bAE,bAE];refine ⟨decide_eq_true (by rw [Za];exact hl),hs,?_⟩;rw [Zx];intro x hx;unfold pP at hx;obtain ⟨i,hi,rfl⟩:=ZD.mp hx;rw [ZW,Za] at hi;have e1:es[i]?=some es[i]:=gEG (by omega);have e2:es[i+1]?=some es[i+1]:=gEG (by omega);have r:=h.rise i _ _ e1 e2;have f1:kr (es.map aX) i=es[i].2:=by unfold kr;rw [Zl,e1];rfl
 have f2:kq (es.map aX) (i+1)=es[i+1].1:=by unfold kq;rw [Zl,e2];rfl
 show decide (kr (es.map aX) i < kq (es.map aX) (i+1))=true;rw [f1,f2];exact decide_eq_true r
noncomputable def mg2 (M:List (List Int)) (i j:Nat):Int:=(((M[i]?).getD [])[j]?).getD 0
structure Mat (n:Nat) (M:List (List Int)):Prop where
 len:M.length=n
 row:∀ r ∈ M,r.length=n
 ent:∀ r ∈ M,∀ x ∈ r,1<=x/\x<=99
theorem Mat.at {n:Nat} {M:List (List Int)} (h:Mat n M) {i j:Nat} (hi:i < n) (hj:j < n):∃ r,M[i]?=some r/\r.length=n/\r[j]?=some (mg2 M i j)/\1<=mg2 M i j/\mg2 M i j<=99:=by
 have hi':i < M.length:=by rw [h.len];exact hi
 have e1:M[i]?=some M[i]:=gEG hi';have hr:=h.row _ (ZG hi');have hj':j < M[i].length:=by omega
 have e2:mg2 M i j=M[i][j]:=by unfold mg2;rw [e1,ZO,gEG hj',ZO]
 have:=h.ent _ (ZG hi') _ (ZG hj');exact ⟨M[i],e1,hr,by rw [e2,gEG hj'],by omega,by omega⟩
noncomputable def mi (n k:Nat) (M:List (List Int)):Prop:=∀ a b q,a < n->b < n->q < k->mg2 M a b<=mg2 M a q+mg2 M q b
theorem zo {n k:Nat} {M M':List (List Int)} (h:Mat n M) (hk:k < n) (ht:mi n k M) (hm:∀ i j,i < n->j < n->mg2 M' i j=min (mg2 M i j) (mg2 M i k+mg2 M k j)):mi n (k+1) M':=by
 intro a b q ha hb hq;have hqn:q < n:=by omega
 obtain ⟨_,_,_,_,p1,_⟩:=h.at ha hb;obtain ⟨_,_,_,_,p2,_⟩:=h.at ha hk;obtain ⟨_,_,_,_,p3,_⟩:=h.at hk hb;obtain ⟨_,_,_,_,p4,_⟩:=h.at hk hk;obtain ⟨_,_,_,_,p5,_⟩:=h.at ha hqn;obtain ⟨_,_,_,_,p6,_⟩:=h.at hqn hb;obtain ⟨_,_,_,_,p7,_⟩:=h.at hk hqn;obtain ⟨_,_,_,_,p8,_⟩:=h.at hqn hk;rw [hm a b ha hb,hm a q ha hqn,hm q b hqn hb];by_cases e:q=k
 ·subst e;omega
 ·have hq':q < k:=by omega
  have t1:=ht a b q ha hb hq';have t2:=ht k b q hk hb hq';have t3:=ht a k q ha hk hq';omega
noncomputable def cx (M:List (List Int)):List D:=M.map fun r=>.tup (r.map .int)
theorem pT {n:Nat} {M:List (List Int)} (h:Mat n M) {i j:Nat} (hi:i < n) (hj:j < n):mh (cx M) i j=mg2 M i j:=by
 obtain ⟨r,e1,_,e2,_,_⟩:=h.at hi hj;unfold mh cx;rw [Zl,e1];show (match (r.map D.int)[j]? with | some (.int i)=>i | _=>0)=_;rw [Zl,e2];rfl
theorem zp {n:Nat} {M:List (List Int)} (h:Mat n M) (h1:1<=n) (h4:n<=4) (ht:mi n n M):bX (.tup (cx M))=true:=by
 have hl:(cx M).length=n:=by unfold cx;rw [Za,h.len]
 unfold bX;dsimp only;rw [hl];simp only [bAE,decide_eq_true_eq];refine ⟨⟨h1,h4⟩,?_,?_⟩
 ·rw [Zx];intro d hd;obtain ⟨r,hr,rfl⟩:=ZD.mp hd;unfold hV;dsimp only;rw [bAE];refine ⟨decide_eq_true (by rw [Za];exact h.row r hr),?_⟩;rw [ZP,Zx];intro x hx;have:=h.ent r hr x hx;show az (.int x) 1 99=true;simp only [az,bAE,decide_eq_true_eq];omega
 ·rw [Zx];intro x hx;unfold xu at hx;obtain ⟨a,ha,hx⟩:=Ym.mp hx;obtain ⟨b,hb,hx⟩:=Ym.mp hx;obtain ⟨c,hc,rfl⟩:=ZD.mp hx;rw [ZW] at ha hb hc;show tX (cx M) a b c=true;unfold tX;rw [pT h ha hb,pT h ha hc,pT h hc hb];exact decide_eq_true (ht a b c ha hb hc)
noncomputable def bD (M:List (List Int)) (n c i:Nat):List Int:=(Zj n).map fun j=>if mg2 M i c+mg2 M c j < mg2 M i j then mg2 M i c+mg2 M c j else mg2 M i j
theorem mj (M:List (List Int)) (n c i:Nat):(bD M n c i).length=n:=by unfold bD;rw [Za,ZL]
theorem rl (M:List (List Int)) {n c i j:Nat} (hj:j < n):(bD M n c i)[j]?=some (if mg2 M i c+mg2 M c j < mg2 M i j then mg2 M i c+mg2 M c j else mg2 M i j):=by
 unfold bD;rw [Zl,Yy hj];rfl
theorem CQ {n c:Nat} {M:List (List Int)} (h:Mat n M) (hc:c < n):∀ i j,i < n->j < n->mg2 ((Zj n).map (bD M n c)) i j=min (mg2 M i j) (mg2 M i c+mg2 M c j):=fun i j hi hj=>by
 have e:mg2 ((Zj n).map (bD M n c)) i j=if mg2 M i c+mg2 M c j < mg2 M i j then mg2 M i c+mg2 M c j else mg2 M i j:=by
  show ((((Zj n).map (bD M n c))[i]?.getD [])[j]?).getD 0=_;rw [Zl,Yy hi];show ((bD M n c i)[j]?).getD 0=_;rw [rl M hj];rfl
 rw [e];split <;> omega
theorem zq {n c:Nat} {M:List (List Int)} (h:Mat n M) (hc:c < n):Mat n ((Zj n).map (bD M n c)):=by
 refine ⟨by rw [Za,ZL],fun r hr=>?_,fun r hr x hx=>?_⟩
 ·obtain ⟨u,_,rfl⟩:=ZD.mp hr;exact mj M n c u
 ·obtain ⟨u,hu,rfl⟩:=ZD.mp hr;rw [ZW] at hu;unfold bD at hx;obtain ⟨j,hj,rfl⟩:=ZD.mp hx;rw [ZW] at hj;obtain ⟨_,_,_,_,p1,q1⟩:=h.at hu hj;obtain ⟨_,_,_,_,p2,q2⟩:=h.at hu hc;obtain ⟨_,_,_,_,p3,q3⟩:=h.at hc hj;split <;> omega
theorem FX (r s g h:D):bP (.tup [r,s,g,h])=(az r 0 8 && (az s 0 60 && (bX g && bH h))):=rfl
theorem t5 {ds:List D} (h:¬ ds.length=2):a8 (.tup ds)=false:=by
 unfold a8;split
 ·rename_i b e heq;cases heq;exact absurd rfl h
 ·rfl
end Dw
namespace Dw
open PySem PySem.Spec PyProof.Rows L2
noncomputable def intOf (d:D):Int:=match d with | .int i=>i | _=>0
noncomputable def bI (fs:List D):List Int:=fs.map intOf
theorem t6 (fs:List D):(bI fs).length=fs.length:=by unfold bI;rw [Za]
theorem cr:∀ (n:Nat) (l:List Int),l.Nodup->(∀ x ∈ l,0<=x/\x < (n:Int))->l.length<=n
 | 0,l,_,h=>by
  cases l with
  | nil=>exact Zd _
  | cons x l=>have:=h x Zg;omega
 | n+1,l,nd,h=>by
  by_cases hm:(n:Int) ∈ l
  ·have ih:=cr n (l.erase n) (nd.erase _) fun x hx=>by
    have h1:=h x (List.mem_of_mem_erase hx);have h2:x ≠ (n:Int):=fun e=>(List.Nodup.not_mem_erase nd) (e ▸ hx);omega
   rw [List.length_erase_of_mem hm] at ih;have:=List.length_pos_of_mem hm;omega
  ·have ih:=cr n l nd fun x hx=>by
    have h1:=h x hx;have h2:x ≠ (n:Int):=fun e=>hm (e ▸ hx);omega
   omega
noncomputable def i8 (is:List Int):Bool:=decide is.Nodup
theorem rm (is:List Int):(is.map fun i=>decide (((is.count i:Nat):Int)=1)).all id=i8 is:=by
 rw [Z0,ZP];unfold i8;rw [Zx,decide_eq_true_eq,List.nodup_iff_count];constructor
 ·intro h a;by_cases hm:a ∈ is
  ·have:=of_decide_eq_true (h a hm);omega
  ·rw [List.count_eq_zero_of_not_mem hm];omega
 ·intro h a ha;have h1:=h a;have h2:=List.count_pos_iff.mpr ha;exact decide_eq_true (by omega)
noncomputable def cU (n:Nat) (d:D):Bool:=match d with
 | .tup fs=>decide (fs.length<=n) && (fs.all (fun e=>az e 0 ((n:Int) - 1)) && i8 (bI fs))
 | _=>false
noncomputable def cL (n:Nat) (d:D):Bool:=match d with
 | .non=>true
 | .tup [k,m]=>az k 0 ((n:Int) - 1) && az m 0 9999
 | _=>false
noncomputable def leD (j:D) (s:Int) (f:D):Bool:=match j,f with | .int a,.int b=>decide (a+s<=b) | _,_=>false
noncomputable def bp (n:Nat) (r s:Int) (d:D):Bool:=match d with
 | .tup [k,j,f,l,u,w,g]=>[j,f,l,u].all (fun e=>az e 0 9999) && ((leD j s f && leD f 0 l) && (az k 0 ((n:Int) - 1) && (az w 0 99 && az g 0 r)))
 | _=>false
noncomputable def bt (n:Nat) (r s:Int) (d:D):Bool:=match d with
 | .tup gs=>decide (gs.length<=7) && gs.all (bp n r s)
 | _=>false
noncomputable def Hw (d:D):Int:=match d with | .tup [_,_,_,_,_,_,.int g]=>g | _=>0
noncomputable def fT (gs:List D) (i:Nat):Int:=match gs[i]? with | some d=>Hw d | _=>0
noncomputable def CT (gs:List D) (is:List Int):List Bool:=(Zj gs.length).map fun (i:Nat)=>decide (fT gs i=0) || decide (((i:Nat):Int) ∈ is)
noncomputable def cV (gs:List D) (d:D):Bool:=match d with
 | .tup fs=>cU gs.length (.tup fs) && (CT gs (bI fs)).all id
 | _=>false
noncomputable def tupOf (d:D):List D:=match d with | .tup ds=>ds | _=>[]
noncomputable def gF (m:D):Nat:=match m with | .tup [_,_,.tup rows,_]=>rows.length | _=>0
noncomputable def lc (m:D):Int:=match m with | .tup [.int r,_,_,_]=>r | _=>0
noncomputable def pU (m:D):Int:=match m with | .tup [_,.int s,_,_]=>s | _=>0
noncomputable def oz (d:D):Bool:=match d with
 | .tup [m,a,g,f]=>bP m && (cL (gF m) a && (bt (gF m) (lc m) (pU m) g && cV (tupOf g) f))
 | _=>false
theorem xv {m:D} (h:bP m=true):∃ r s rows hs,m = .tup [.int r,.int s,.tup rows,.tup hs]/\0<=r/\r<=8/\0<=s/\s<=60/\bX (.tup rows)=true/\bH (.tup hs)=true:=by
 unfold bP at h;split at h
 ·rename_i r s g hh;simp only [bAE] at h;obtain ⟨h1,h2,h3,h4⟩:=h;obtain ⟨r,rfl,r0,r1⟩:=aD h1;obtain ⟨s,rfl,s0,s1⟩:=aD h2;cases g with
  | tup rows=>
   cases hh with
   | tup hs=>exact ⟨r,s,rows,hs,rfl,r0,r1,s0,s1,h3,h4⟩
   | _=>simp [bH] at h4
  | _=>simp [bX] at h3
 ·cases h
theorem zr {ds:List D} (h:ds.length=7):∃ a b c d e f g,ds=[a,b,c,d,e,f,g]:=by
 match ds,h with
 | [a,b,c,d,e,f,g],_=>exact ⟨a,b,c,d,e,f,g,rfl⟩
theorem xw {n:Nat} {r s:Int} {d:D} (h:bp n r s d=true):∃ k j f l u w g:Int,d = .tup [.int k,.int j,.int f,.int l,.int u,.int w,.int g]/\0<=k/\k < n/\0<=j/\j<=9999/\0<=f/\f<=9999/\0<=l/\l<=9999/\0<=u/\u<=9999/\j+s<=f/\f<=l/\0<=w/\w<=99/\0<=g/\g<=r:=by
 unfold bp at h;split at h
 ·rename_i k j f l u w g;simp only [bAE,ZS,Xm,Yz] at h;obtain ⟨⟨a1,a2,a3,a4⟩,⟨b1,b2⟩,c1,c2,c3⟩:=h;obtain ⟨j,rfl,j0,j1⟩:=aD a1;obtain ⟨f,rfl,f0,f1⟩:=aD a2;obtain ⟨l,rfl,l0,l1⟩:=aD a3;obtain ⟨u,rfl,u0,u1⟩:=aD a4;obtain ⟨k,rfl,k0,k1⟩:=aD c1;obtain ⟨w,rfl,w0,w1⟩:=aD c2;obtain ⟨g,rfl,g0,g1⟩:=aD c3;simp only [leD,decide_eq_true_eq] at b1 b2;exact ⟨k,j,f,l,u,w,g,rfl,k0,by omega,j0,j1,f0,f1,l0,l1,u0,u1,b1,by omega,w0,w1,g0,g1⟩
 ·cases h
theorem xy {n:Nat} {r s:Int} {ds:List D} (h:¬ ds.length=7):bp n r s (.tup ds)=false:=by
 unfold bp;split
 ·rename_i heq;cases heq;exact absurd rfl h
 ·rfl
theorem zt {n:Nat} {ds:List D} (h:¬ ds.length=2):cL n (.tup ds)=false:=by
 unfold cL;split
 ·rename_i heq;cases heq
 ·rename_i heq;cases heq;exact absurd rfl h
 ·rfl
theorem Hx {ds:List D} (h:¬ ds.length=4):oz (.tup ds)=false:=by
 unfold oz;split
 ·rename_i heq;cases heq;exact absurd rfl h
 ·rfl
theorem Hy (ds:List D):isT (.tup ds) 7 7=decide (ds.length=7):=pQ ds 7
theorem zu (ds:List D) (n:Nat):isT (.tup ds) 0 n=decide (ds.length<=n):=by
 unfold isT;rw [Z0];simp
theorem zv (m a g f:D):oz (.tup [m,a,g,f])=(bP m && (cL (gF m) a && (bt (gF m) (lc m) (pU m) g && cV (tupOf g) f))):=rfl
end Dw
namespace Dw
open PySem PySem.Spec PyProof.Rows L2
theorem xz {n:Nat} {d:D}:az d 0 ((n:Int) - 1)=true->∃ i,d = .int i/\0<=i/\i < n:=fun h=>by
 obtain ⟨i,e,h0,h1⟩:=aD h;exact ⟨i,e,h0,by omega⟩
theorem rn {n:Nat} {fs:List D} (h:fs.all (fun e=>az e 0 ((n:Int) - 1))=true) (nd:(bI fs).Nodup):cU n (.tup fs)=true:=by
 have hl:fs.length<=n:=by
  have:=cr n (bI fs) nd fun x hx=>by
   obtain ⟨d,hd,rfl⟩:=ZD.mp hx;obtain ⟨i,rfl,h0,h1⟩:=xz (Zx.mp h d hd);exact ⟨h0,h1⟩
  rwa [t6] at this
 have:i8 (bI fs)=true:=decide_eq_true nd;simp only [cU,this,h,decide_eq_true hl,Yz]
theorem CU {n:Nat} {r s:Int} {gs:List D} (h:gs.all (bp n r s)=true) {i:Nat} {d:D} (hi:gs[i]?=some d):∃ k j f l u w g:Int,d = .tup [.int k,.int j,.int f,.int l,.int u,.int w,.int g]/\fT gs i=g/\0<=g:=by
 obtain ⟨k,j,f,l,u,w,g,rfl,h1⟩:=xw (Zx.mp h d (Zm hi));exact ⟨k,j,f,l,u,w,g,rfl,by unfold fT;rw [hi];rfl,by omega⟩
end Dw
namespace Dw
open PySem PySem.Spec PyProof.Rows L2
noncomputable def aY:Key->PyData
 | .inl i=>.int i
 | .inr x=>.str x
mutual
noncomputable def aQ:D->PyData
 | .non=>.none
 | .bl b=>.bool b
 | .int i=>.int i
 | .str x=>.str x
 | .tup ds=>.tuple (aK ds)
 | .lst ds=>.list (aK ds)
 | .dic ks ds=>.dict ((ks.map aY).zip (aK ds))
noncomputable def aK:List D->List PyData
 | []=>[]
 | d::ds=>aQ d::aK ds
end
theorem cb:∀ ds:List D,(aK ds).length=ds.length
 | []=>by simp [aK]
 | d::ds=>by simp [aK,cb ds]
theorem gG {α β:Type}:∀ (ks:List α) (ds:List β),ks.length=ds.length->(ks.zip ds).map (·.1)=ks
 | [],[],_=>rfl
 | k::ks,d::ds,h=>by simp [gG ks ds (by simpa using h)]
 | [],_::_,h=>by simp at h
 | _::_,[],h=>by simp at h
theorem gH {α β:Type}:∀ (ks:List α) (ds:List β),ks.length=ds.length->(ks.zip ds).map (·.2)=ds
 | [],[],_=>rfl
 | k::ks,d::ds,h=>by simp [gH ks ds (by simpa using h)]
 | [],_::_,h=>by simp at h
 | _::_,[],h=>by simp at h
mutual
noncomputable def shw:D->Prop
 | .int i=>i.natAbs.log2 < 1920
 | .tup ds=>pV ds
 | .lst ds=>pV ds
 | .dic ks ds=>(∀ k ∈ ks,∀ i,k=Sum.inl i->i.natAbs.log2 < 1920)/\pV ds
 | _=>True
noncomputable def pV:List D->Prop
 | []=>True
 | d::ds=>shw d/\pV ds
end
section
variable {P:Program} {w:World} {N:List Addr} {H:Hp} {h:Heap}
theorem oB:∀ {ks:List Key} {kvs:List (Key × Value)} {es:List DictEntry},Pairs (bC P w) es kvs->kvs.map (·.1)=ks->ReadsAll h (es.map (·.key)) (ks.map aY) []
 | [],[],_,.nil,_=>.nil
 | k::ks,_::_,_,.cons (e:=e) hk hv r,eq=>by
  simp only [Zt,List.cons.injEq] at eq;obtain ⟨e1,e2⟩:=eq;have z:=oB (ks:=ks) r e2;have hk':km k e.key=true:=by rw [<-e1];exact hk
  have one:Reads h e.key (aY k) []:=by
   rcases aU hk' with ⟨i,t,rfl,q⟩ | ⟨x,t,rfl,q⟩
   ·rw [q];exact .int _ _
   ·rw [q];exact .str _ _
  exact ReadsAll.cons one z
theorem cp:∀ {kvs:List (Key × Value)} {es:List DictEntry},Pairs (bC P w) es kvs->es.map (·.val)=kvs.map (·.2)
 | [],_,.nil=>rfl
 | _::_,_,.cons _ hv r=>by rw [Zt,Zt,hv,cp r]
theorem lg:∀ {ks:List Key} {xs:List V} {kvs:List (Key × Value)},ks.length=xs.length->KV (ks.zip xs) kvs->aP xs (kvs.map (·.2))/\kvs.map (·.1)=ks
 | [],[],_,_,.nil=>⟨.nil,rfl⟩
 | k::ks,x::xs,_,hl,.cons r t=>by
  obtain ⟨h1,h2⟩:=lg (ks:=ks) (xs:=xs) (by simpa using hl) t;exact ⟨.cons r.2 h1,by rw [Zt,h2,<-r.1]⟩
 | [],_::_,_,hl,_=>by simp at hl
 | _::_,[],_,hl,_=>by simp at hl
mutual
theorem cW (ok:HOk P w H h):∀ (d:D) {v:V} {u:Value},Br N H d v->aM v u->∃ as,Reads h u (aQ d) as
 | .non,v,u,b,r=>by simp only [Br] at b;subst b;cases r;exact ⟨_,by simp only [aQ];exact .none⟩
 | .bl x,v,u,b,r=>by simp only [Br] at b;subst b;cases r;exact ⟨_,by simp only [aQ];exact .bool _⟩
 | .int i,v,u,b,r=>by simp only [Br] at b;subst b;obtain ⟨t,rfl⟩:=r;exact ⟨_,by simp only [aQ];exact .int _ _⟩
 | .str x,v,u,b,r=>by simp only [Br] at b;subst b;obtain ⟨t,rfl⟩:=r;exact ⟨_,by simp only [aQ];exact .str _ _⟩
 | .tup ds,v,u,b,r=>by
  simp only [Br] at b;obtain ⟨a,xs,rfl,ha,hx⟩:=b;cases r;obtain ⟨_,its,rv,o,e,c,n,q,_⟩:=ok a _ ha;obtain ⟨as,z⟩:=gI ok ds hx rv;simp only [aQ];exact ⟨_,.tuple e c q (by simpa using z)⟩
 | .lst ds,v,u,b,r=>by
  simp only [Br] at b;obtain ⟨a,xs,rfl,_,ha,hx⟩:=b;cases r;obtain ⟨_,its,n,rv,e⟩:=ok a _ ha;obtain ⟨as,z⟩:=gI ok ds hx rv;simp only [aQ];exact ⟨_,.list e rfl rfl (by simpa using z)⟩
 | .dic ks ds,v,u,b,r=>by
  simp only [Br] at b;obtain ⟨a,xs,rfl,_,ha,hl,hx⟩:=b;cases r;obtain ⟨_,_,kvs,rk,o,es,ep,e,ex,q,_,pr,_⟩:=ok a _ ha;obtain ⟨rv,k1⟩:=lg (by rw [hl,hx.len]) rk;obtain ⟨as,z⟩:=gI ok ds hx rv;simp only [aQ];refine ⟨_,.dict e ex.1 q (kvs:=(ks.map aY).zip (aK ds)) (as:=[]) (bs:=as) ?_ ?_⟩
  ·rw [gG _ _ (by rw [Za,cb,hl])];exact oB pr k1
  ·rw [gH _ _ (by rw [Za,cb,hl]),cp pr];exact z
theorem gI (ok:HOk P w H h):∀ (ds:List D) {xs:List V} {us:List Value},BrL N H ds xs->aP xs us->∃ as,ReadsAll h us (aK ds) as
 | [],xs,us,b,r=>by simp only [BrL] at b;subst b;cases r;exact ⟨_,by simp only [aK];exact .nil⟩
 | d::ds,xs,us,b,r=>by
  simp only [BrL] at b;obtain ⟨x,l,rfl,h1,h2⟩:=b;cases r with
  | cons r1 r2=>
   obtain ⟨as,z1⟩:=cW ok d h1 r1;obtain ⟨bs,z2⟩:=gI ok ds h2 r2;simp only [aK];exact ⟨_,.cons z1 z2⟩
end
theorem ml {es:List DictEntry}:∀ {ks:List Key} {kvs:List (Key × Value)} {es:List DictEntry} {d:Nat} {bs:List Addr},Pairs (bC P w) es kvs->kvs.map (·.1)=ks->(∀ k ∈ ks,∀ i,k=Sum.inl i->i.natAbs.log2 < 1920)->(∀ t ∈ PyData.shownAll (ks.map aY),t.length<=sizeLine)->ReprAllK P w bs h d (es.map (·.key)) (PyData.shownAll (ks.map aY))
 | [],[],_,_,_,.nil,_,_,_=>by simp only [ZZ,PyData.shownAll];exact .nil
 | k::ks,_::_,_,d,bs,.cons (e:=e) hk hv r,eq,hi,hz=>by
  simp only [Zt,List.cons.injEq] at eq;obtain ⟨e1,e2⟩:=eq;have hk':km k e.key=true:=by rw [<-e1];exact hk
  simp only [Zt,PyData.shownAll] at hz ⊢;refine .cons ?_ (ml (es:=[]) r e2 (fun k' m=>hi k' (Ze _ m)) fun t m=>hz t (Ze _ m));rcases aU hk' with ⟨i,t,rfl,q⟩ | ⟨x,t,rfl,q⟩
  ·rw [q];simp only [aY,PyData.shown];exact .of_is (ReprIs.int t (hi _ Zg i rfl)) _ _ _
  ·rw [q];have hs:=hz _ Zg;simp only [aY,PyData.shown] at hs ⊢;exact .of_is (ReprIs.str x t hs) _ _ _
mutual
theorem CV (ok:HOk P w H h):∀ (d:D) {v:V} {u:Value},Br N H d v->aM v u->shw d->(aQ d).shown.length<=sizeLine->∃ bs,ReadAtMost h (aQ d).depth bs/\ReprK P w bs h (aQ d).depth u (aQ d).shown
 | .non,v,u,b,r,_,_=>by simp only [Br] at b;subst b;cases r;exact ⟨[],(fun _ m=>nomatch m),by simp only [aQ,PyData.shown];exact .of_is ReprIs.none _ _ _⟩
 | .bl x,v,u,b,r,_,_=>by simp only [Br] at b;subst b;cases r;exact ⟨[],(fun _ m=>nomatch m),by simp only [aQ,PyData.shown];exact .of_is (ReprIs.bool _) _ _ _⟩
 | .int i,v,u,b,r,hs,_=>by simp only [Br] at b;subst b;obtain ⟨t,rfl⟩:=r;exact ⟨[],(fun _ m=>nomatch m),by simp only [aQ,PyData.shown];exact .of_is (ReprIs.int t (by simpa only [shw] using hs)) _ _ _⟩
 | .str x,v,u,b,r,_,hz=>by simp only [Br] at b;subst b;obtain ⟨t,rfl⟩:=r;exact ⟨[],(fun _ m=>nomatch m),by simp only [aQ,PyData.shown] at hz ⊢;exact .of_is (ReprIs.str x t hz) _ _ _⟩
 | .tup ds,v,u,b,r,hs,hz=>by
  obtain ⟨as,whole⟩:=cW ok (.tup ds) b r;simp only [Br] at b;obtain ⟨a,xs,rfl,ha,hx⟩:=b;cases r;obtain ⟨_,its,rv,o,e,c,n,q,_⟩:=ok a _ ha;simp only [aQ,PyData.shown,PyData.depth] at hz whole ⊢;obtain ⟨bs,m,k⟩:=cX ok ds hx rv (by simpa only [shw] using hs) fun t ht=>Zv (tupleText_mem_le ht) hz;have out:a ∉ bs:=not_mem_of_deeper whole (by simp only [PyData.depth];omega) m;have mm:=ReadAtMost.cons whole (by simp only [PyData.depth];omega) m;simp only [PyData.depth] at mm;exact ⟨a::bs,mm,ReprK.tuple e c q out (by simpa using k)⟩
 | .lst ds,v,u,b,r,hs,hz=>by
  obtain ⟨as,whole⟩:=cW ok (.lst ds) b r;simp only [Br] at b;obtain ⟨a,xs,rfl,_,ha,hx⟩:=b;cases r;obtain ⟨_,its,n,rv,e⟩:=ok a _ ha;simp only [aQ,PyData.shown,PyData.depth] at hz whole ⊢;obtain ⟨bs,m,k⟩:=cX ok ds hx rv (by simpa only [shw] using hs) fun t ht=>Zv (listText_mem_le ht) hz;have out:a ∉ bs:=not_mem_of_deeper whole (by simp only [PyData.depth];omega) m;have mm:=ReadAtMost.cons whole (by simp only [PyData.depth];omega) m;simp only [PyData.depth] at mm;refine ⟨a::bs,mm,?_⟩;cases its with
  | nil=>
   cases k':PyData.shownAll (aK ds) with
   | nil=>simp only [listText_nil];exact ReprK.listEmpty e rfl rfl
   | cons _ _=>rw [k'] at k;cases k
  | cons y l=>exact ReprK.list e rfl rfl out (by simpa using k.length_eq) (fun i y' q'=>k.item i y' (by simpa using q'))
 | .dic ks ds,v,u,b,r,hs,hz=>by
  obtain ⟨as,whole⟩:=cW ok (.dic ks ds) b r;simp only [Br] at b;obtain ⟨a,xs,rfl,_,ha,hl,hx⟩:=b;cases r;obtain ⟨_,sys,kvs,rk,o,es,ep,e,ex,q,_,pr,_⟩:=ok a _ ha;obtain ⟨rv,k1⟩:=lg (by rw [hl,hx.len]) rk;simp only [shw] at hs;have lz:(ks.map aY).length=(aK ds).length:=by rw [Za,cb,hl]
  simp only [aQ,PyData.shown,PyData.depth] at hz whole ⊢;have f1:=gG (ks.map aY) (aK ds) lz;have f2:=gH (ks.map aY) (aK ds) lz;have dk:=PyData.depthAll_keys_le ((ks.map aY).zip (aK ds));have dv:=PyData.depthAll_vals_le ((ks.map aY).zip (aK ds));rw [f1] at dk;rw [f2] at dv
  obtain ⟨bs,m,k⟩:=cX ok ds hx rv hs.2 fun t ht=>by
   obtain ⟨p,hp,hlen⟩:=PyData.shownKv_val_le ((ks.map aY).zip (aK ds)) t (by rw [f2];exact ht);exact Zv hlen (Zv (dictText_mem_le hp) hz)
  have kk:=ml (h:=h) (es:=[]) (d:=PyData.depthAll (ks.map aY)) (bs:=bs) pr k1 hs.1 fun t ht=>by
   obtain ⟨p,hp,hlen⟩:=PyData.shownKv_key_le ((ks.map aY).zip (aK ds)) t (by rw [f1];exact ht);exact Zv hlen (Zv (dictText_mem_le hp) hz)
  have m':=m.mono dv;have out:a ∉ bs:=not_mem_of_deeper whole (by simp only [PyData.depth];omega) m';have mm:=ReadAtMost.cons whole (by simp only [PyData.depth];omega) m';simp only [PyData.depth] at mm;refine ⟨a::bs,mm,?_⟩;rw [PyData.shownKv_eq,f1,f2];refine ReprK.dict e ex.1 q sys out (ReprEntriesK.of_two es.toList _ _ (kk.more_le (fun _ z=>z) dk) ?_);rw [cp pr];exact k.more_le (fun _ z=>z) dv
theorem cX (ok:HOk P w H h):∀ (ds:List D) {xs:List V} {us:List Value},BrL N H ds xs->aP xs us->pV ds->(∀ t ∈ PyData.shownAll (aK ds),t.length<=sizeLine)->∃ bs,ReadAtMost h (PyData.depthAll (aK ds)) bs/\ReprAllK P w bs h (PyData.depthAll (aK ds)) us (PyData.shownAll (aK ds))
 | [],xs,us,b,r,_,_=>by simp only [BrL] at b;subst b;cases r;exact ⟨[],(fun _ m=>nomatch m),by simp only [aK,PyData.shownAll];exact .nil⟩
 | d::ds,xs,us,b,r,hs,hz=>by
  simp only [BrL] at b;obtain ⟨x,l,rfl,h1,h2⟩:=b;cases r with
  | cons r1 r2=>
   simp only [aK,PyData.shownAll,PyData.depthAll,pV] at hz hs ⊢;obtain ⟨b1,m1,k1⟩:=CV ok d h1 r1 hs.1 (hz _ Zg);obtain ⟨b2,m2,k2⟩:=cX ok ds h2 r2 hs.2 fun t ht=>hz t (Ze _ ht);refine ⟨b1++b2,(m1.mono (XB _ _)).append (m2.mono (Xu _ _)),?_⟩;exact .cons ((k1.more fun b z=>YH _ z).level_le (XB _ _)) (k2.more_le (fun b z=>ZE _ z) (Xu _ _))
end
end
end Dw
namespace Dw
open PySem PySem.Spec PyProof.Rows L2
section
variable {X:Cx}
structure Shn (d:D):Prop where
 sh:shw d
 sz:(aQ d).shown.length<=sizeLine
 dp:(aQ d).depth<=100
noncomputable def Hz:List V->Hp->VK->Prop:=fun xs H Q=>∃ x N d,xs=[x]/\Br N H d x/\Shn d/\Q (.str (aQ d).shown) H
theorem t7 {k:Nat} (hr:Room k X.A):aR X (.builtin "repr") Hz:=by
 intro pins s σ H xs us Q I r h;obtain ⟨x,N,d,rfl,b,⟨hs,hz,hd⟩,q⟩:=h;obtain ⟨u,rfl,ru⟩:=cJ r;have hun:=hr.un;have hu1:X.A.units+1 < cLine:=by omega
 have gd1:X.A.in1.guards=some []:=hr.gd;have fin:∀ h' t tk,(∀ b o,s.heap.get? b=some o->h'.get? b=some o)->∃ x' t',Value.str (aQ d).shown t=Value.str x' t'/\EP X pins σ Q (Value.str (aQ d).shown t) { s with heap:=h',toks:=tk }:=fun h' t tk hk=>⟨_,_,rfl,.str _,H,I.kept (t':=tk) hk,⟨t,rfl⟩,q⟩;cases d with
 | non=>
  simp only [Br] at b;subst b;cases ru;exact P.repr_of_none ⟨.str _,H,I.tok _,⟨_,rfl⟩,by simpa only [aQ,PyData.shown] using q⟩
 | bl y=>
  simp only [Br] at b;subst b;cases ru;exact P.repr_of_bool ⟨.str _,H,I.tok _,⟨_,rfl⟩,by simpa only [aQ,PyData.shown] using q⟩
 | int i=>
  simp only [Br] at b;subst b;obtain ⟨t,rfl⟩:=ru;exact P.repr_of_int (by simpa only [shw] using hs) ⟨.str _,H,I.tok _,⟨_,rfl⟩,by simpa only [aQ,PyData.shown] using q⟩
 | str y=>
  simp only [Br] at b;subst b;obtain ⟨t,rfl⟩:=ru;exact P.repr_of_str ⟨.str _,H,I.tok _,⟨_,rfl⟩,by simpa only [aQ,PyData.shown] using q⟩ (by simpa only [aQ,PyData.shown] using hz)
 | tup ds=>
  obtain ⟨as,whole⟩:=cW I.hok (.tup ds) b ru;simp only [Br] at b;obtain ⟨a,ys,rfl,ha,hx⟩:=b;cases ru;obtain ⟨_,its,rv,o,e,c,n,q',_⟩:=I.hok a _ ha;simp only [aQ,PyData.shown,PyData.depth] at hz whole hd fin;obtain ⟨bs,m,k'⟩:=cX I.hok ds hx rv (by simpa only [shw] using hs) fun t ht=>Zv (tupleText_mem_le ht) hz;have out:a ∉ bs:=not_mem_of_deeper whole (by simp only [PyData.depth];omega) m;refine call_repr_slot hu1 ⟨o,e,c⟩ F.slot_tuple_repr ?_;exact call_tuple_reprK e c q' out (by simpa using k') gd1 (fun b _=>Clear.nil b) (by show X.A.units+1+(_+1) < cLine;omega) (fun _ _ z=>z) (fun h' t tk hk=>fin h' t tk hk) hz
 | lst ds=>
  obtain ⟨as,whole⟩:=cW I.hok (.lst ds) b ru;simp only [Br] at b;obtain ⟨a,ys,rfl,_,ha,hx⟩:=b;cases ru;obtain ⟨_,its,n,rv,e⟩:=I.hok a _ ha;simp only [aQ,PyData.shown,PyData.depth] at hz whole hd fin;obtain ⟨bs,m,k'⟩:=cX I.hok ds hx rv (by simpa only [shw] using hs) fun t ht=>Zv (listText_mem_le ht) hz;have out:a ∉ bs:=not_mem_of_deeper whole (by simp only [PyData.depth];omega) m;refine call_repr_slot hu1 ⟨_,e,rfl⟩ F.slot_list_repr.toG ?_;cases its with
  | nil=>
   cases k2:PyData.shownAll (aK ds) with
   | nil=>
    rw [k2] at fin;simp only [listText_nil] at fin;exact call_list_repr_empty ⟨_,e,rfl⟩ e rfl (fin s.heap _ _ fun _ _ z=>z)
   | cons _ _=>rw [k2] at k';cases k'
  | cons y l=>
   exact call_list_reprK e rfl rfl out (by simpa using k'.length_eq) (fun i y' q2=>k'.item i y' (by simpa using q2)) gd1 (fun b _=>Clear.nil b) (by show X.A.units+1+(_+1) < cLine;omega) (fun _ _ z=>z) (fun h' t tk hk=>fin h' t tk hk) hz
 | dic ks ds=>
  have bb:=b;obtain ⟨as,whole⟩:=cW I.hok (.dic ks ds) b ru;simp only [Br] at b;obtain ⟨a,ys,rfl,_,ha,hl,hx⟩:=b;cases ru;obtain ⟨_,sys,kvs,rk,o,es,ep,e,ex,q',_,pr,_⟩:=I.hok a _ ha;obtain ⟨rv,k1⟩:=lg (by rw [hl,hx.len]) rk;simp only [shw] at hs;have lz:(ks.map aY).length=(aK ds).length:=by rw [Za,cb,hl]
  simp only [aQ,PyData.shown,PyData.depth] at hz whole hd fin;have f1:=gG (ks.map aY) (aK ds) lz;have f2:=gH (ks.map aY) (aK ds) lz;have dk:=PyData.depthAll_keys_le ((ks.map aY).zip (aK ds));have dv:=PyData.depthAll_vals_le ((ks.map aY).zip (aK ds));rw [f1] at dk;rw [f2] at dv
  obtain ⟨bs,m,k'⟩:=cX I.hok ds hx rv hs.2 fun t ht=>by
   obtain ⟨p,hp,hlen⟩:=PyData.shownKv_val_le ((ks.map aY).zip (aK ds)) t (by rw [f2];exact ht);exact Zv hlen (Zv (dictText_mem_le hp) hz)
  have kk:=ml (h:=s.heap) (es:=[]) (d:=PyData.depthAll (ks.map aY)) (bs:=bs) pr k1 hs.1 fun t ht=>by
   obtain ⟨p,hp,hlen⟩:=PyData.shownKv_key_le ((ks.map aY).zip (aK ds)) t (by rw [f1];exact ht);exact Zv hlen (Zv (dictText_mem_le hp) hz)
  have m':=m.mono dv;have out:a ∉ bs:=not_mem_of_deeper whole (by simp only [PyData.depth];omega) m';refine call_repr_slot hu1 ⟨o,e,ex.1⟩ F.slot_dict_repr ?_
  have hE:ReprEntriesK X.prog X.w bs s.heap (PyData.depthKv ((ks.map aY).zip (aK ds))) es.toList (PyData.shownKv ((ks.map aY).zip (aK ds))):=by
   rw [PyData.shownKv_eq,f1,f2];refine ReprEntriesK.of_two es.toList _ _ (kk.more_le (fun _ z=>z) dk) ?_;rw [cp pr];exact k'.more_le (fun _ z=>z) dv
  exact call_dict_reprK e ex.1 q' sys out hE gd1 (fun b _=>Clear.nil b) (by show X.A.units+1+(_+1) < cLine;omega) (fun _ _ z=>z) (fun h' t tk hk=>fin h' t tk hk) hz
end
mutual
noncomputable def sz:D->Nat
 | .non=>10
 | .bl _=>10
 | .int _=>60
 | .str x=>(reprText x).length
 | .tup ds=>szL ds+4
 | .lst ds=>szL ds+4
 | .dic ks ds=>szL ds+62 * ks.length+4
noncomputable def szL:List D->Nat
 | []=>0
 | d::ds=>sz d+2+szL ds
end
mutual
noncomputable def bnd (B:Nat):D->Prop
 | .int i=>i.natAbs < B
 | .tup ds=>iC B ds
 | .lst ds=>iC B ds
 | .dic ks ds=>(∀ k ∈ ks,∃ i,k=Sum.inl i/\i.natAbs < B)/\ks.length=ds.length/\iC B ds
 | _=>True
noncomputable def iC (B:Nat):List D->Prop
 | []=>True
 | d::ds=>bnd B d/\iC B ds
end
theorem zw {i:Int} (h:i.natAbs < 10 ^ 50):i.natAbs.log2 < 1920:=by
 by_cases z:i.natAbs=0
 ·rw [z];decide
 ·have:i.natAbs.log2 < 167:=(Nat.log2_lt z).mpr (Zu h (by decide));omega
mutual
theorem vI:∀ (d:D),bnd (10 ^ 50) d->shw d
 | .non,_=>by simp only [shw]
 | .bl _,_=>by simp only [shw]
 | .str _,_=>by simp only [shw]
 | .int i,h=>by simp only [shw,bnd] at h ⊢;exact zw h
 | .tup ds,h=>by simp only [shw,bnd] at h ⊢;exact i9 ds h
 | .lst ds,h=>by simp only [shw,bnd] at h ⊢;exact i9 ds h
 | .dic ks ds,h=>by
  simp only [shw,bnd] at h ⊢;refine ⟨fun k hk i e=>?_,i9 ds h.2.2⟩;obtain ⟨j,e2,hj⟩:=h.1 k hk;rw [e] at e2;cases e2;exact zw hj
theorem i9:∀ (ds:List D),iC (10 ^ 50) ds->pV ds
 | [],_=>by simp only [pV]
 | d::ds,h=>by simp only [pV,iC] at h ⊢;exact ⟨vI d h.1,i9 ds h.2⟩
end
end Dw
namespace Dw
open PySem PySem.Spec PyProof.Rows L2
theorem vJ:∀ (ts:List Str) (k:Nat) (acc:Str),(textFrom k acc ts).length<=acc.length+piled ts
 | [],k,acc=>by show acc.length<=_;omega
 | t::r,k,acc=>by
  have ih:=vJ r (k+1) (acc++(if k > 0 then ", " else "" : String)++t);show (textFrom (k+1) (acc++(if k > 0 then ", " else "" : String)++t) r).length<=_;rw [piled_cons]
  have e:(acc++(if k > 0 then ", " else "" : String)++t).length<=acc.length+2+t.length:=by
   rw [strLen_append,strLen_append];have:(Str.ofString (if k > 0 then ", " else "" : String)).length<=2:=by split <;> decide
   omega
  omega
theorem vK (ts:List Str):(Str.join ", " ts).length<=piled ts:=by
 cases ts with
 | nil=>decide
 | cons t r=>have:=join_length_add (t::r) (by simp);omega
theorem CW (ts:List Str):(listText ts).length<=piled ts+4:=by
 unfold listText;rw [strLen_append];have h1:=vJ ts 0 "[";have h2:(Str.ofString "[").length=1:=by decide
 have h3:(Str.ofString "]").length=1:=by decide
 have h1':(textFrom 0 (Str.ofString "[") ts).length<=(Str.ofString "[").length+piled ts:=h1;show (textFrom 0 (Str.ofString "[") ts).length+(Str.ofString "]").length<=_;omega
theorem zx (ts:List Str):(tupleText ts).length<=piled ts+4:=by
 unfold tupleText;rw [strLen_append,strLen_append];have h1:=vK ts;have h2:(Str.ofString "(").length=1:=by decide
 have h3:(Str.ofString (if ts.length == 1 then ",)" else ")" : String)).length<=2:=by split <;> decide
 show (Str.ofString "(").length+_+(Str.ofString (if ts.length == 1 then ",)" else ")" : String)).length<=_;omega
theorem CY (ts:List Str):(dictText ts).length<=piled ts+4:=by
 unfold dictText;rw [strLen_append,strLen_append];have h1:=vK ts;have h2:(Str.ofString "{").length=1:=by decide
 have h3:(Str.ofString "}").length=1:=by decide
 show (Str.ofString "{").length+_+(Str.ofString "}").length<=_;omega
theorem zy {i:Int} (h:i.natAbs < 10 ^ 50):(Str.ofString (toString i)).length<=51:=by
 rw [ofString_len];exact int_text_length_le10 (by decide) h
theorem FY:∀ (ks:List Key) (ts:List Str) (hk:∀ k ∈ ks,∃ i,k=Sum.inl i/\i.natAbs < 10 ^ 50),ks.length=ts.length->piled (List.zipWith (fun k v:Str=>k ++ ": " ++ v) (PyData.shownAll (ks.map aY)) ts)<=piled ts+53 * ks.length
 | [],[],_,_=>by simp [PyData.shownAll,piled]
 | k::ks,t::ts,hk,hl=>by
  have ih:=FY ks ts (fun k' m=>hk k' (Ze _ m)) (by simpa using hl);obtain ⟨i,rfl,hi⟩:=hk _ Zg;simp only [Zt,PyData.shownAll,List.zipWith_cons_cons,piled_cons,ZA,aY,PyData.shown];have h1:=zy hi;rw [strLen_append,strLen_append];have h2:(Str.ofString ": ").length=2:=by decide
  show (Str.ofString (toString i)).length+(Str.ofString ": ").length+t.length+2+_<=_;omega
 | [],_::_,_,hl=>by simp at hl
 | _::_,[],_,hl=>by simp at hl
theorem ja:∀ ds:List PyData,(PyData.shownAll ds).length=ds.length
 | []=>by simp [PyData.shownAll]
 | d::ds=>by simp [PyData.shownAll,ja ds]
mutual
theorem rp:∀ (d:D),bnd (10 ^ 50) d->(aQ d).shown.length<=sz d
 | .non,_=>by simp only [aQ,PyData.shown,sz];decide
 | .bl b,_=>by simp only [aQ,PyData.shown,sz];cases b <;> decide
 | .int i,h=>by
  simp only [aQ,PyData.shown,sz,bnd] at h ⊢;have:=zy h;show (Str.ofString (toString i)).length<=60;omega
 | .str x,_=>by simp only [aQ,PyData.shown,sz];exact Zd _
 | .tup ds,h=>by
  simp only [aQ,PyData.shown,sz,bnd] at h ⊢;have:=gJ ds h;have:=zx (PyData.shownAll (aK ds));omega
 | .lst ds,h=>by
  simp only [aQ,PyData.shown,sz,bnd] at h ⊢;have:=gJ ds h;have:=CW (PyData.shownAll (aK ds));omega
 | .dic ks ds,h=>by
  simp only [aQ,PyData.shown,sz,bnd] at h ⊢;have h1:=gJ ds h.2.2;have lz:(ks.map aY).length=(aK ds).length:=by rw [Za,cb,h.2.1]
  have h2:=CY (PyData.shownKv ((ks.map aY).zip (aK ds)));rw [PyData.shownKv_eq,gG _ _ lz,gH _ _ lz] at h2;have h3:=FY ks (PyData.shownAll (aK ds)) h.1 (by rw [ja,cb,h.2.1]);rw [PyData.shownKv_eq,gG _ _ lz,gH _ _ lz];omega
theorem gJ:∀ (ds:List D),iC (10 ^ 50) ds->piled (PyData.shownAll (aK ds))<=szL ds
 | [],_=>by simp [aK,PyData.shownAll,piled,szL]
 | d::ds,h=>by
  simp only [aK,PyData.shownAll,szL,iC,piled_cons] at h ⊢;have h1:=rp d h.1;have h2:=gJ ds h.2;omega
end
theorem rq:∀ (ks:List Key) (ds:List PyData),PyData.depthKv ((ks.map aY).zip ds)<=PyData.depthAll ds
 | [],ds=>by simp [PyData.depthKv]
 | k::ks,[]=>by simp [PyData.depthKv]
 | k::ks,d::ds=>by
  have ih:=rq ks ds;simp only [Zt,List.zip_cons_cons,PyData.depthKv,PyData.depthAll];have:(aY k).depth=0:=by cases k <;> simp [aY,PyData.depth]
  rw [this];omega
mutual
theorem rA:∀ (d:D),(aQ d).depth<=dep d
 | .non=>by simp [aQ,PyData.depth]
 | .bl _=>by simp [aQ,PyData.depth]
 | .int _=>by simp [aQ,PyData.depth]
 | .str _=>by simp [aQ,PyData.depth]
 | .tup ds=>by simp only [aQ,PyData.depth,dep];have:=gK ds;omega
 | .lst ds=>by simp only [aQ,PyData.depth,dep];have:=gK ds;omega
 | .dic ks ds=>by
  simp only [aQ,PyData.depth,dep];have:=gK ds;have:=rq ks (aK ds);omega
theorem gK:∀ (ds:List D),PyData.depthAll (aK ds)<=i7 ds
 | []=>by simp [aK,PyData.depthAll,i7]
 | d::ds=>by
  simp only [aK,PyData.depthAll,i7];have:=rA d;have:=gK ds;omega
end
structure Bd (B s:Nat) (d:D):Prop where
 bn:bnd B d
 sz:sz d<=s
mutual
theorem zz {B B':Nat} (h:B<=B'):∀ (d:D),bnd B d->bnd B' d
 | .non,_=>by simp only [bnd]
 | .bl _,_=>by simp only [bnd]
 | .str _,_=>by simp only [bnd]
 | .int i,z=>by simp only [bnd] at z ⊢;omega
 | .tup ds,z=>by simp only [bnd] at z ⊢;exact lh h ds z
 | .lst ds,z=>by simp only [bnd] at z ⊢;exact lh h ds z
 | .dic ks ds,z=>by
  simp only [bnd] at z ⊢;exact ⟨fun k hk=>let ⟨i,e,q⟩:=z.1 k hk;⟨i,e,by omega⟩,z.2.1,lh h ds z.2.2⟩
theorem lh {B B':Nat} (h:B<=B'):∀ (ds:List D),iC B ds->iC B' ds
 | [],_=>by simp only [iC]
 | d::ds,z=>by simp only [iC] at z ⊢;exact ⟨zz h d z.1,lh h ds z.2⟩
end
theorem Bd.shn {B s:Nat} {d:D} (h:Bd B s d) (hB:B<=10 ^ 50) (hs:s<=sizeLine) (hd:dep d<=100):Shn d:=
 have b:=zz hB d h.bn
 ⟨vI d b,Zv (rp d b) (Zv h.sz hs),Zv (rA d) hd⟩
theorem vL {B:Nat}:∀ {ds:List D},(∀ d ∈ ds,bnd B d)->iC B ds
 | [],_=>by simp only [iC]
 | d::ds,h=>by simp only [iC];exact ⟨h d Zg,vL fun e m=>h e (Ze _ m)⟩
end Dw
namespace Dw
open PySem PySem.Spec PyProof.Rows L2
theorem HA {B s:Nat} {ds:List D} (h:∀ d ∈ ds,bnd B d) (hs:szL ds+4<=s):Bd B s (.tup ds):=⟨by simp only [bnd];exact vL h,by simp only [sz];exact hs⟩
end Dw
namespace Ev
open PySem PySem.Spec PyProof.Rows L2
inductive D where
 | non | bl (b:Bool) | int (i:Int) | str (x:Str) | tup (ds:List D) | ref (n:Nat)
inductive Ob where
 | lst (ds:List D) | frz (ds:List D) | dic (ks:List Key) (ds:List D)
noncomputable abbrev Sto:=List Ob
noncomputable abbrev Rho:=List (Option D)
mutual
noncomputable def VD (K:PySem.W.Frag) (m:List Addr) (H:Hp):D->V->Prop
 | .non,v=>v = .non
 | .bl b,v=>v = .bl b
 | .int i,v=>v = .int i
 | .str x,v=>v = .str x
 | .tup ds,v=>∃ a xs,v = .ref a/\H a=some (.tup xs)/\VDs K m H ds xs
 | .ref n,v=>∃ a,m[n]?=some a/\v = .ref a
noncomputable def VDs (K:PySem.W.Frag) (m:List Addr) (H:Hp):List D->List V->Prop
 | [],xs=>xs=[]
 | d::ds,xs=>∃ x r,xs=x::r/\VD K m H d x/\VDs K m H ds r
end
structure Ext (m:List Addr) (H:Hp) (m':List Addr) (H':Hp):Prop where
 pre:m <+: m'
 keep:∀ a o,H a=some o->a ∉ m->H' a=some o
 new:∀ a,a ∈ m'->a ∉ m->H a=none
noncomputable def ObR (K:PySem.W.Frag) (m:List Addr) (H:Hp) (a:Addr):Ob->Prop
 | .lst ds=>∃ vs,H a=some (.lst vs)/\VDs K m H ds vs
 | .frz ds=>∃ o vs,H a=some (.frz o (.lst vs))/\VDs K m H ds vs
 | .dic ks ds=>∃ vs,H a=some (.dK (ks.zip vs))/\ks.length=ds.length/\VDs K m H ds vs
structure Rel (K:PySem.W.Frag) (m:List Addr) (S:Sto) (H:Hp):Prop where
 len:m.length=S.length
 nd:m.Nodup
 ob:∀ (i:Nat) (o:Ob),S[i]?=some o->∃ a,m[i]?=some a/\ObR K m H a o
structure EnvR (K:PySem.W.Frag) (m:List Addr) (H:Hp) (ρ:Rho) (σ:L2.St):Prop where
 len:ρ.length=σ.length
 at_:∀ (i:Nat) (d:D),ρ[i]?=some (some d)->∃ v,σ[i]?=some (some v)/\VD K m H d v
theorem Ext.refl (m:List Addr) (H:Hp):Ext m H m H:=⟨Z9 m,fun _ _ h _=>h,fun _ h n=>absurd h n⟩
theorem Ext.trans {m m1 m2:List Addr} {H H1 H2:Hp} (x:Ext m H m1 H1) (y:Ext m1 H1 m2 H2):Ext m H m2 H2:=by
 refine ⟨x.pre.trans y.pre,fun a o h n=>?_,fun a h n=>?_⟩
 ·have n1:a ∉ m1:=fun z=>by have:=x.new a z n;rw [this] at h;cases h
  exact y.keep a o (x.keep a o h n) n1
 ·by_cases h1:a ∈ m1
  ·exact x.new a h1 n
  ·cases e:H a with
   | none=>rfl
   | some o=>
    have:=x.keep a o e n;rw [y.new a h h1] at this;cases this
section
variable {K:PySem.W.Frag} {m m':List Addr} {S S':Sto} {H H':Hp} {a:Addr}
theorem Rel.ex (R:Rel K m S H) (ha:a ∈ m):∃ o ob,H a=some o/\ObR K m H a ob:=by
 obtain ⟨i,hi,e⟩:=List.getElem_of_mem ha;have hi':i < S.length:=by rw [<-R.len];exact hi
 obtain ⟨b,hb,r⟩:=R.ob i S[i] (gEG hi');have:b=a:=by rw [gEG hi] at hb;rw [<-e];exact (Option.some.inj hb).symm
 subst this;cases hS:S[i] with
 | lst ds=>rw [hS] at r;obtain ⟨vs,h,q⟩:=r;exact ⟨_,.lst ds,h,vs,h,q⟩
 | frz ds=>rw [hS] at r;obtain ⟨o,vs,h,q⟩:=r;exact ⟨_,.frz ds,h,o,vs,h,q⟩
 | dic ks ds=>rw [hS] at r;obtain ⟨vs,h,q⟩:=r;exact ⟨_,.dic ks ds,h,vs,h,q⟩
theorem Rel.no (R:Rel K m S H) (h:H a=none):a ∉ m:=fun z=>by
 obtain ⟨o,_,e,_⟩:=R.ex z;rw [h] at e;cases e
theorem Rel.notTup (R:Rel K m S H) {xs:List V} (h:H a=some (.tup xs)):a ∉ m:=fun z=>by
 obtain ⟨o,ob,e,r⟩:=R.ex z;cases ob with
 | lst ds=>obtain ⟨vs,q,_⟩:=r;rw [q] at h;cases h
 | frz ds=>obtain ⟨o,vs,q,_⟩:=r;rw [q] at h;cases h
 | dic ks ds=>obtain ⟨vs,q,_⟩:=r;rw [q] at h;cases h
theorem Tup.ext {xs:List V} (R:Rel K m S H) (x:Ext m H m' H') (h:H a=some (.tup xs)):H' a=some (.tup xs):=x.keep _ _ h (R.notTup h)
theorem lp {i:Nat} (h:m <+: m') (e:m[i]?=some a):m'[i]?=some a:=by
 obtain ⟨t,rfl⟩:=h;have hi:i < m.length:=(Zc.mp e).1;rw [Zw hi];exact e
mutual
theorem VD.mono0 (pre:m <+: m') (tk:∀ a xs,H a=some (.tup xs)->H' a=some (.tup xs)):∀ {d:D} {v:V},VD K m H d v->VD K m' H' d v
 | .non,v,h=>by rw [VD] at h ⊢;exact h
 | .bl _,v,h=>by rw [VD] at h ⊢;exact h
 | .int _,v,h=>by rw [VD] at h ⊢;exact h
 | .str _,v,h=>by rw [VD] at h ⊢;exact h
 | .tup ds,v,h=>by
  rw [VD] at h ⊢;obtain ⟨a,xs,e,q,r⟩:=h;exact ⟨a,xs,e,tk a xs q,VDs.mono0 pre tk r⟩
 | .ref n,v,h=>by
  rw [VD] at h ⊢;obtain ⟨a,q,e⟩:=h;exact ⟨a,lp pre q,e⟩
theorem VDs.mono0 (pre:m <+: m') (tk:∀ a xs,H a=some (.tup xs)->H' a=some (.tup xs)):∀ {ds:List D} {vs:List V},VDs K m H ds vs->VDs K m' H' ds vs
 | [],vs,h=>by rw [VDs] at h ⊢;exact h
 | d::ds,vs,h=>by
  rw [VDs] at h ⊢;obtain ⟨y,r,e,p,q⟩:=h;exact ⟨y,r,e,VD.mono0 pre tk p,VDs.mono0 pre tk q⟩
end
theorem VD.mono (R:Rel K m S H) (x:Ext m H m' H') {d:D} {v:V} (h:VD K m H d v):VD K m' H' d v:=VD.mono0 x.pre (fun _ _=>Tup.ext R x) h
theorem VDs.mono (R:Rel K m S H) (x:Ext m H m' H') {ds:List D} {vs:List V} (h:VDs K m H ds vs):VDs K m' H' ds vs:=VDs.mono0 x.pre (fun _ _=>Tup.ext R x) h
theorem EnvR.mono {ρ:Rho} {σ:L2.St} (R:Rel K m S H) (x:Ext m H m' H') (h:EnvR K m H ρ σ):EnvR K m' H' ρ σ:=
 ⟨h.len,fun i d e=>let ⟨v,p,q⟩:=h.at_ i d e;⟨v,p,VD.mono R x q⟩⟩
theorem VDs.length:∀ {ds:List D} {vs:List V},VDs K m H ds vs->ds.length=vs.length
 | [],vs,h=>by rw [VDs] at h;rw [h];rfl
 | d::ds,vs,h=>by
  rw [VDs] at h;obtain ⟨y,r,e,_,q⟩:=h;rw [e,ZA,ZA,VDs.length q]
theorem VDs.nil:VDs K m H [] []:=by rw [VDs]
theorem VDs.cons {d:D} {v:V} {ds:List D} {vs:List V} (h:VD K m H d v) (t:VDs K m H ds vs):VDs K m H (d::ds) (v::vs):=by rw [VDs];exact ⟨v,vs,rfl,h,t⟩
theorem VDs.get:∀ {ds:List D} {vs:List V} {i:Nat} {d:D},VDs K m H ds vs->ds[i]?=some d->∃ v,vs[i]?=some v/\VD K m H d v
 | [],_,_,_,_,e=>by simp at e
 | d::ds,vs,0,d',h,e=>by
  rw [VDs] at h;obtain ⟨y,r,rfl,p,q⟩:=h;simp at e;subst e;exact ⟨y,rfl,p⟩
 | d::ds,vs,i+1,d',h,e=>by
  rw [VDs] at h;obtain ⟨y,r,rfl,p,q⟩:=h;obtain ⟨v,p1,p2⟩:=VDs.get (i:=i) q (by simpa using e);exact ⟨v,by simpa using p1,p2⟩
theorem VDs.append:∀ {ds es:List D} {vs ws:List V},VDs K m H ds vs->VDs K m H es ws->VDs K m H (ds++es) (vs++ws)
 | [],_,vs,_,h,t=>by rw [VDs] at h;subst h;exact t
 | d::ds,es,vs,ws,h,t=>by
  rw [VDs] at h;obtain ⟨y,r,rfl,p,q⟩:=h;exact .cons p (VDs.append q t)
theorem VDs.drop:∀ {ds:List D} {vs:List V} (n:Nat),VDs K m H ds vs->VDs K m H (ds.drop n) (vs.drop n)
 | ds,vs,0,h=>h
 | [],vs,n+1,h=>by rw [VDs] at h;subst h;exact .nil
 | d::ds,vs,n+1,h=>by
  rw [VDs] at h;obtain ⟨y,r,rfl,p,q⟩:=h;exact VDs.drop n q
theorem VDs.take:∀ {ds:List D} {vs:List V} (n:Nat),VDs K m H ds vs->VDs K m H (ds.take n) (vs.take n)
 | ds,vs,0,h=>by simp only [List.take_zero];exact .nil
 | [],vs,n+1,h=>by rw [VDs] at h;subst h;exact .nil
 | d::ds,vs,n+1,h=>by
  rw [VDs] at h;obtain ⟨y,r,rfl,p,q⟩:=h;exact .cons p (VDs.take n q)
theorem VDs.set:∀ {ds:List D} {vs:List V} {i:Nat} {d:D} {v:V},VDs K m H ds vs->VD K m H d v->VDs K m H (ds.set i d) (vs.set i v)
 | [],vs,_,_,_,h,_=>by rw [VDs] at h;subst h;exact .nil
 | _::ds,vs,0,d,v,h,p=>by
  rw [VDs] at h;obtain ⟨y,r,rfl,_,q⟩:=h;exact .cons p q
 | _::ds,vs,i+1,d,v,h,p=>by
  rw [VDs] at h;obtain ⟨y,r,rfl,p',q⟩:=h;exact .cons p' (VDs.set q p)
theorem Ext.beside (R:Rel K m S H) (h:H a=none) (o:HO):Ext m H m (upd H a o):=
 ⟨Z9 m,fun b u e _=>by rw [aG (aS e h)];exact e,fun b z n=>absurd z n⟩
theorem Rel.ext_keep (R:Rel K m S H) (x:Ext m H m H') (k:∀ b ∈ m,H' b=H b):Rel K m S H':=by
 refine ⟨R.len,R.nd,fun i o e=>?_⟩;obtain ⟨b,hb,r⟩:=R.ob i o e;have hm:b ∈ m:=Zm hb;refine ⟨b,hb,?_⟩;cases o with
 | lst ds=>obtain ⟨vs,p,q⟩:=r;exact ⟨vs,(k b hm).trans p,VDs.mono R x q⟩
 | frz ds=>obtain ⟨o,vs,p,q⟩:=r;exact ⟨o,vs,(k b hm).trans p,VDs.mono R x q⟩
 | dic ks ds=>obtain ⟨vs,p,l,q⟩:=r;exact ⟨vs,(k b hm).trans p,l,VDs.mono R x q⟩
theorem Rel.beside (R:Rel K m S H) (h:H a=none) (o:HO):Rel K m S (upd H a o):=
 R.ext_keep (Ext.beside R h o) fun b hb=>aG fun z=>R.no h (z ▸ hb)
theorem Rel.adopt (R:Rel K m S H) (n:a ∉ m) {vs:List V} {ds:List D} (h:H a=some (.lst vs)) (q:VDs K m H ds vs):Rel K (m++[a]) (S++[.lst ds]) H:=by
 have p:=Yr m [a];have g:∀ {es:List D} {ws:List V},VDs K m H es ws->VDs K (m++[a]) H es ws:=fun z=>VDs.mono0 p (fun _ _ t=>t) z;refine ⟨by simp [R.len],Xn.mpr ⟨R.nd,by simp,fun x hx y hy=>by simp at hy;subst hy;exact fun z=>n (z ▸ hx)⟩,fun i o e=>?_⟩;by_cases hi:i < S.length
 ·rw [Zw hi] at e;obtain ⟨b,hb,r⟩:=R.ob i o e;refine ⟨b,lp p hb,?_⟩;cases o with
  | lst ds=>obtain ⟨vs,p,q⟩:=r;exact ⟨vs,p,g q⟩
  | frz ds=>obtain ⟨o,vs,p,q⟩:=r;exact ⟨o,vs,p,g q⟩
  | dic ks ds=>obtain ⟨vs,p,l,q⟩:=r;exact ⟨vs,p,l,g q⟩
 ·rw [Zq (by omega)] at e
  have hz:i - S.length=0:=by
   have:=(Zc.mp e).1;simp at this;omega
  rw [hz] at e;have e':Ob.lst ds=o:=by simpa using e
  subst e';refine ⟨a,?_,vs,h,g q⟩;rw [Zq (by rw [R.len];omega),R.len,hz];rfl
theorem Ext.adopt (x:Ext m H m H') (h:H a=none):Ext m H (m++[a]) H':=
 ⟨Yr m [a],x.keep,fun b hb nb=>by
  rcases ZK.mp hb with z | z
  ·exact absurd z nb
  ·simp at z;subst z;exact h⟩
theorem Rel.write (R:Rel K m S H) {i:Nat} (hi:m[i]?=some a) {vs:List V} {ds:List D} (q:VDs K m H ds vs):Ext m H m (upd H a (.lst vs))/\Rel K m (S.set i (.lst ds)) (upd H a (.lst vs)):=by
 have hm:a ∈ m:=Zm hi;have x:Ext m H m (upd H a (.lst vs)):=⟨Z9 m,fun b u e n=>by rw [aG (show b ≠ a from fun z=>n (by rw [z];exact hm))];exact e,fun b z n=>absurd z n⟩;refine ⟨x,by simp [R.len],R.nd,fun j o e=>?_⟩;rw [Yv] at e;by_cases hj:i=j
 ·subst hj;rw [if_pos rfl] at e;split at e
  ·have e':=Option.some.inj e;subst e';exact ⟨a,hi,vs,bf,VDs.mono R x q⟩
  ·cases e
 ·rw [if_neg hj] at e;obtain ⟨b,hb,r⟩:=R.ob j o e
  have ne:b ≠ a:=fun z=>by
   subst z;have h1:=Zc.mp hi;have h2:=Zc.mp hb;exact hj ((YV R.nd).mp (h1.2.trans h2.2.symm))
  refine ⟨b,hb,?_⟩;cases o with
  | lst es=>obtain ⟨ws,p,q⟩:=r;exact ⟨ws,by rw [aG ne];exact p,VDs.mono R x q⟩
  | frz es=>obtain ⟨o,ws,p,q⟩:=r;exact ⟨o,ws,by rw [aG ne];exact p,VDs.mono R x q⟩
  | dic ks es=>obtain ⟨ws,p,l,q⟩:=r;exact ⟨ws,by rw [aG ne];exact p,l,VDs.mono R x q⟩
theorem Rel.lst (R:Rel K m S H) {i:Nat} {ds:List D} (e:S[i]?=some (.lst ds)):∃ a vs,m[i]?=some a/\H a=some (.lst vs)/\VDs K m H ds vs:=by
 obtain ⟨a,ha,vs,p,q⟩:=R.ob i _ e;exact ⟨a,vs,ha,p,q⟩
end
noncomputable def am (S:Sto) (n:Nat):Option (List D):=match S[n]? with
 | some (.lst ds)=>some ds
 | some (.frz ds)=>some ds
 | _=>none
theorem Rel.seq {K:PySem.W.Frag} {m:List Addr} {S:Sto} {H:Hp} (R:Rel K m S H) {i:Nat} {ds:List D} (e:am S i=some ds):∃ a vs,m[i]?=some a/\SqL K H a vs/\VDs K m H ds vs:=by
 unfold am at e;cases h:S[i]? with
 | none=>rw [h] at e;cases e
 | some o=>
  rw [h] at e;cases o with
  | lst es=>cases e;obtain ⟨a,ha,vs,p,q⟩:=R.ob i _ h;exact ⟨a,vs,ha,.inl (.inl p),q⟩
  | frz es=>cases e;obtain ⟨a,ha,o,vs,p,q⟩:=R.ob i _ h;exact ⟨a,vs,ha,.inl (.inr ⟨o,p⟩),q⟩
  | dic ks es=>cases e
end Ev
namespace Ev
open PySem PySem.Spec PyProof.Rows L2
noncomputable abbrev XE:=Rho->Sto->Option (D × Sto)
noncomputable abbrev XT:=Rho->Sto->Option (Bool × Sto)
noncomputable abbrev XA:=Rho->Sto->Option (List D × Sto)
noncomputable def bnd {α β:Type} (x:Option (α × Sto)) (f:α->Sto->Option (β × Sto)):Option (β × Sto):=match x with
 | none=>none
 | some (a,S)=>f a S
theorem ae {α β:Type} {x:Option (α × Sto)} {f:α->Sto->Option (β × Sto)} {r:β × Sto} (h:bnd x f=some r):∃ a S,x=some (a,S)/\f a S=some r:=by
 unfold bnd at h;cases x with
 | none=>cases h
 | some p=>exact ⟨p.1,p.2,rfl,h⟩
structure Aft (K:PySem.W.Frag) (m:List Addr) (H:Hp) (S':Sto) (m':List Addr) (H':Hp):Prop where
 ext:Ext m H m' H'
 rel:Rel K m' S' H'
noncomputable def tE (K:PySem.W.Frag) (x:XE):TE:=fun σ H Q=>∃ m ρ S d S',EnvR K m H ρ σ/\Rel K m S H/\x ρ S=some (d,S')/\∀ m' H' v,Aft K m H S' m' H'->VD K m' H' d v->Q v H'
noncomputable def tT (K:PySem.W.Frag) (x:XT):TT:=fun σ H Q=>∃ m ρ S b S',EnvR K m H ρ σ/\Rel K m S H/\x ρ S=some (b,S')/\∀ m' H',Aft K m H S' m' H'->Q b H'
noncomputable def tAr (K:PySem.W.Frag) (x:XA):TA:=fun σ H Q=>∃ m ρ S ds S',EnvR K m H ρ σ/\Rel K m S H/\x ρ S=some (ds,S')/\∀ m' H' vs,Aft K m H S' m' H'->VDs K m' H' ds vs->Q vs H'
noncomputable def SqB (K:PySem.W.Frag) (tu:Bool) (H:Hp) (a:Addr) (vs:List V):Prop:=if tu=true then H a=some (.tup vs) else SqL K H a vs
noncomputable def eR (K:PySem.W.Frag) (x:XA):TE:=fun σ H Q=>∃ m ρ S ds S',EnvR K m H ρ σ/\Rel K m S H/\x ρ S=some (ds,S')/\∀ m' H' a vs,Aft K m H S' m' H'->H' a=some (.lst vs)->a ∉ m'->(∀ b,b ∈ m->b ≠ a)->H a=none->VDs K m' H' ds vs->Q (.ref a) H'
section
variable {X:Cx} {e:Expr} {K:PySem.W.Frag} {m m1 m2:List Addr} {H H1 H2:Hp} {S S1 S2:Sto}
theorem PE.imp {t t':TE} (h:PE X e t) (f:∀ σ H Q,t' σ H Q->t σ H Q):PE X e t':=fun pins s σ H Q I q=>h pins s σ H Q I (f σ H Q q)
theorem PT.imp {t t':TT} (h:PT X e t) (f:∀ σ H Q,t' σ H Q->t σ H Q):PT X e t':=fun pins s σ H Q I q=>h pins s σ H Q I (f σ H Q q)
theorem PA.imp {es:List Expr} {t t':TA} (h:PA X es t) (f:∀ σ H Q,t' σ H Q->t σ H Q):PA X es t':=fun p pins s σ H Q I q=>h p pins s σ H Q I (f σ H Q q)
theorem PS.imp {st:Stmt} {t t':TS} (h:PS X st t) (f:∀ D σ H,t' D σ H->t D σ H):PS X st t':=fun pins s σ H D I q=>h pins s σ H D I (f D σ H q)
theorem PSs.imp {st:List Stmt} {t t':TS} (h:PSs X st t) (f:∀ D σ H,t' D σ H->t D σ H):PSs X st t':=fun pins s σ H D I q=>h pins s σ H D I (f D σ H q)
theorem PI.imp {tg it:Expr} {t t':TI} (h:PI X tg it t) (f:∀ σ H Q,t' σ H Q->t σ H Q):PI X tg it t':=fun pins s σ H Q I q=>h pins s σ H Q I (f σ H Q q)
theorem PI.or {tg it:Expr} {t t':TI} (h:PI X tg it t) (h':PI X tg it t'):PI X tg it (fun σ H Q=>t σ H Q\/t' σ H Q):=fun pins s σ H Q I q=>q.elim (h pins s σ H Q I) (h' pins s σ H Q I)
theorem OpR.imp {f:Value->Value->Sem Value} {r r':R2} (h:OpR X f r) (g:∀ x y H Q,r' x y H Q->r x y H Q):OpR X f r':=fun pins s σ H x y v u Q I rx ry q=>h pins s σ H x y v u Q I rx ry (g _ _ _ _ q)
theorem OpR.or {f:Value->Value->Sem Value} {r r':R2} (h:OpR X f r) (h':OpR X f r'):OpR X f (fun x y H Q=>r x y H Q\/r' x y H Q):=fun pins s σ H x y v u Q I rx ry q=>
 q.elim (h pins s σ H x y v u Q I rx ry) (h' pins s σ H x y v u Q I rx ry)
theorem aR.imp {f:Value} {r r':List V->Hp->VK->Prop} (h:aR X f r) (g:∀ x H Q,r' x H Q->r x H Q):aR X f r':=fun pins s σ H xs us Q I rx q=>h pins s σ H xs us Q I rx (g _ _ _ q)
theorem aR.or {f:Value} {r r':List V->Hp->VK->Prop} (h:aR X f r) (h':aR X f r'):aR X f (fun x H Q=>r x H Q\/r' x H Q):=fun pins s σ H xs us Q I rx q=>
 q.elim (h pins s σ H xs us Q I rx) (h' pins s σ H xs us Q I rx)
theorem Aft.refl (R:Rel K m S H):Aft K m H S m H:=⟨Ext.refl m H,R⟩
theorem Aft.trans (x:Aft K m H S1 m1 H1) (y:Aft K m1 H1 S2 m2 H2):Aft K m H S2 m2 H2:=⟨x.ext.trans y.ext,y.rel⟩
noncomputable def rS (K:PySem.W.Frag) (f:D->D->Sto->Option (D × Sto)):R2:=fun v w H Q=>∃ m S a b d S',Rel K m S H/\VD K m H a v/\VD K m H b w/\f a b S=some (d,S')/\∀ m' H' u,Aft K m H S' m' H'->VD K m' H' d u->Q u H'
noncomputable def rS1 (K:PySem.W.Frag) (f:D->Sto->Option (D × Sto)):V->Hp->VK->Prop:=fun v H Q=>∃ m S a d S',Rel K m S H/\VD K m H a v/\f a S=some (d,S')/\∀ m' H' u,Aft K m H S' m' H'->VD K m' H' d u->Q u H'
noncomputable def rSA (K:PySem.W.Frag) (f:List D->Sto->Option (D × Sto)):List V->Hp->VK->Prop:=fun vs H Q=>∃ m S as d S',Rel K m S H/\VDs K m H as vs/\f as S=some (d,S')/\∀ m' H' u,Aft K m H S' m' H'->VD K m' H' d u->Q u H'
noncomputable def rSq (K:PySem.W.Frag) (f:Bool->List D->Sto->Option (D × Sto)):V->Hp->VK->Prop:=fun v H Q=>∃ m S tu ds a vs d S',Rel K m S H/\v = .ref a/\SqB K tu H a vs/\VDs K m H ds vs/\f tu ds S=some (d,S')/\∀ m' H' u,Aft K m H S' m' H'->VD K m' H' d u->Q u H'
noncomputable def rB (f:D->D->Sto->Option (D × Sto)) (x y:XE):XE:=fun ρ S=>bnd (x ρ S) fun a S1=>bnd (y ρ S1) fun b S2=>f a b S2
noncomputable def xUn (f:D->Sto->Option (D × Sto)) (x:XE):XE:=fun ρ S=>bnd (x ρ S) fun a S1=>f a S1
noncomputable def k7 (f:List D->Sto->Option (D × Sto)) (x:XA):XE:=fun ρ S=>bnd (x ρ S) fun a S1=>f a S1
noncomputable def rC (f:Bool->List D->Sto->Option (D × Sto)) (x:XA):XE:=fun ρ S=>bnd (x ρ S) fun ds S1=>f false ds S1
noncomputable def aj (d:D) (S:Sto):Option (Bool × List D):=match d with
 | .tup ds=>some (true,ds)
 | .ref n=>(am S n).map fun ds=>(false,ds)
 | _=>none
noncomputable def au (f:Bool->List D->Sto->Option (D × Sto)) (d:D) (S:Sto):Option (D × Sto):=match aj d S with
 | some r=>f r.1 r.2 S
 | none=>none
noncomputable def rD (f:Bool->List D->Sto->Option (D × Sto)) (x:XE):XE:=fun ρ S=>bnd (x ρ S) fun d S1=>au f d S1
theorem pW {f:D->D->Sto->Option (D × Sto)} {x y:XE} {σ:L2.St} {H:Hp} {Q:VK} (h:tE K (rB f x y) σ H Q):tOp (rS K f) (tE K x) (tE K y) σ H Q:=by
 obtain ⟨m,ρ,S,d,S',E,R,e,q⟩:=h;obtain ⟨a,S1,e1,e⟩:=ae e;obtain ⟨b,S2,e2,e⟩:=ae e;refine ⟨m,ρ,S,a,S1,E,R,e1,fun m1 H1 v A1 va=>⟨m1,ρ,S1,b,S2,E.mono R A1.ext,A1.rel,e2,fun m2 H2 w A2 vb=>?_⟩⟩;exact ⟨m2,S2,a,b,d,S',A2.rel,va.mono A1.rel A2.ext,vb,e,fun m3 H3 u A3 vd=>q m3 H3 u ((A1.trans A2).trans A3) vd⟩
theorem zA {f:D->Sto->Option (D × Sto)} {x:XE} {σ:L2.St} {H:Hp} {Q:VK} (h:tE K (xUn f x) σ H Q):tUn (rS1 K f) (tE K x) σ H Q:=by
 obtain ⟨m,ρ,S,d,S',E,R,e,q⟩:=h;obtain ⟨a,S1,e1,e⟩:=ae e;exact ⟨m,ρ,S,a,S1,E,R,e1,fun m1 H1 v A1 va=>⟨m1,S1,a,d,S',A1.rel,va,e,fun m3 H3 u A3 vd=>q m3 H3 u (A1.trans A3) vd⟩⟩
theorem zB {f:List D->Sto->Option (D × Sto)} {x:XA} {σ:L2.St} {H:Hp} {Q:VK} (h:tE K (k7 f x) σ H Q):tCB (rSA K f) (tAr K x) σ H Q:=by
 obtain ⟨m,ρ,S,d,S',E,R,e,q⟩:=h;obtain ⟨a,S1,e1,e⟩:=ae e;exact ⟨m,ρ,S,a,S1,E,R,e1,fun m1 H1 v A1 va=>⟨m1,S1,a,d,S',A1.rel,va,e,fun m3 H3 u A3 vd=>q m3 H3 u (A1.trans A3) vd⟩⟩
theorem HB {f:Bool->List D->Sto->Option (D × Sto)} {x:XA} {σ:L2.St} {H:Hp} {Q:VK} (h:tE K (rC f x) σ H Q):tUn (rSq K f) (eR K x) σ H Q:=by
 obtain ⟨m,ρ,S,d,S',E,R,e,q⟩:=h;obtain ⟨ds,S1,e1,e⟩:=ae e;exact ⟨m,ρ,S,ds,S1,E,R,e1,fun m1 H1 a vs A1 sq _ _ _ vd=>⟨m1,S1,false,ds,a,vs,d,S',A1.rel,rfl,show SqL K H1 a vs from SqL.of sq,vd,e,fun m3 H3 u A3 vd=>q m3 H3 u (A1.trans A3) vd⟩⟩
noncomputable def xD (i:Nat):XE:=fun ρ S=>match ρ[i]? with
 | some (some d)=>some (d,S)
 | _=>none
noncomputable def xC (d:D):XE:=fun _ S=>some (d,S)
theorem HC {i:Nat} {σ:L2.St} {H:Hp} {Q:VK} (h:tE K (xD i) σ H Q):Lo i σ H Q:=by
 obtain ⟨m,ρ,S,d,S',E,R,e,q⟩:=h;unfold xD at e;cases hr:ρ[i]? with
 | none=>rw [hr] at e;cases e
 | some o=>
  rw [hr] at e;cases o with
  | none=>cases e
  | some d'=>
   cases e;obtain ⟨v,e1,vd⟩:=E.at_ i d hr;exact ⟨v,e1,q m H v (Aft.refl R) vd⟩
theorem zC {v:V} {d:D} {σ:L2.St} {H:Hp} {Q:VK} (hv:∀ m H,VD K m H d v) (h:tE K (xC d) σ H Q):tC v σ H Q:=by
 obtain ⟨m,ρ,S,d',S',E,R,e,q⟩:=h;cases e;exact q m H v (Aft.refl R) (hv m H)
theorem pX:VD K m H .non .non:=by rw [VD]
theorem bQ {b:Bool}:VD K m H (.bl b) (.bl b):=by rw [VD]
theorem bq {i:Int}:VD K m H (.int i) (.int i):=by rw [VD]
theorem pY {x:Str}:VD K m H (.str x) (.str x):=by rw [VD]
theorem pZ {a:Addr} {vs:List V} {ds:List D} (h:H a=some (.tup vs)) (q:VDs K m H ds vs):VD K m H (.tup ds) (.ref a):=by rw [VD];exact ⟨a,vs,rfl,h,q⟩
theorem VD.ints {i:Int} {v:V} (h:VD K m H (.int i) v):v = .int i:=by rw [VD] at h;exact h
theorem VD.bls {i:Bool} {v:V} (h:VD K m H (.bl i) v):v = .bl i:=by rw [VD] at h;exact h
theorem VD.strs {i:Str} {v:V} (h:VD K m H (.str i) v):v = .str i:=by rw [VD] at h;exact h
theorem VD.nons {v:V} (h:VD K m H .non v):v = .non:=by rw [VD] at h;exact h
theorem VD.tups {ds:List D} {v:V} (h:VD K m H (.tup ds) v):∃ a vs,v = .ref a/\H a=some (.tup vs)/\VDs K m H ds vs:=by rw [VD] at h;exact h
theorem VD.refs {n:Nat} {v:V} (h:VD K m H (.ref n) v):∃ a,m[n]?=some a/\v = .ref a:=by rw [VD] at h;exact h
noncomputable def CZ:XA:=fun _ S=>some ([],S)
noncomputable def vM (x:XE) (y:XA):XA:=fun ρ S=>bnd (x ρ S) fun a S1=>bnd (y ρ S1) fun as S2=>some (a::as,S2)
theorem HD {σ:L2.St} {H:Hp} {Q:List V->Hp->Prop} (h:tAr K CZ σ H Q):pC σ H Q:=by
 obtain ⟨m,ρ,S,d',S',E,R,e,q⟩:=h;cases e;exact q m H [] (Aft.refl R) .nil
theorem C0 {x:XE} {y:XA} {σ:L2.St} {H:Hp} {Q:List V->Hp->Prop} (h:tAr K (vM x y) σ H Q):fC (tE K x) (tAr K y) σ H Q:=by
 obtain ⟨m,ρ,S,d',S',E,R,e,q⟩:=h;obtain ⟨a,S1,e1,e⟩:=ae e;obtain ⟨b,S2,e2,e⟩:=ae e;cases e;refine ⟨m,ρ,S,a,S1,E,R,e1,fun m1 H1 v A1 va=>⟨m1,ρ,S1,b,_,E.mono R A1.ext,A1.rel,e2,fun m2 H2 w A2 vb=>?_⟩⟩;exact q m2 H2 _ (A1.trans A2) (.cons (va.mono A1.rel A2.ext) vb)
noncomputable def k8 (ds:List D) (S:Sto):Option (D × Sto):=if ds.length<=1000 then some (.tup ds,S) else none
theorem mo {n:Nat} (h:n<=1000):n<=sizeLine:=by rw [sizeLine_eq];omega
theorem ls {ds:List D} {vs:List V} {Q:VK} (R:Rel K m S H) (vd:VDs K m H ds vs) (q:∀ m' H' u,Aft K m H S m' H'->VD K m' H' (.tup ds) u->Q u H'):∀ p,H p=none->Q (.ref p) (upd H p (.tup vs)):=fun p hp=>
 q m _ _ ⟨Ext.beside R hp _,R.beside hp _⟩ (pZ bf (vd.mono R (Ext.beside R hp _)))
theorem p0 {ds:List D} {vs:List V} {Q:VK} (R:Rel K m S H) (vd:VDs K m H ds vs) (q:∀ m' H' u,Aft K m H (S++[.lst ds]) m' H'->VD K m' H' (.ref S.length) u->Q u H'):∀ p,H p=none->Q (.ref p) (upd H p (.lst vs)):=fun p hp=>by
 have x:=Ext.beside R hp (.lst vs);refine q (m++[p]) _ _ ⟨x.adopt hp,(R.beside hp _).adopt (R.no hp) bf (vd.mono R x)⟩ ?_;rw [VD];exact ⟨p,by rw [Zq (by rw [R.len];exact Zd _),R.len,Yh];rfl,rfl⟩
theorem lu {ds:List D} {vs:List V} {Q:VK} (R:Rel K m S H) (vd:VDs K m H ds vs) (q:∀ m' H' a vs,Aft K m H S m' H'->H' a=some (.lst vs)->a ∉ m'->(∀ b,b ∈ m->b ≠ a)->H a=none->VDs K m' H' ds vs->Q (.ref a) H'):∀ p,H p=none->Q (.ref p) (upd H p (.lst vs)):=fun p hp=>
 q m _ _ _ ⟨Ext.beside R hp _,R.beside hp _⟩ bf (R.no hp) (fun b hb z=>R.no hp (z ▸ hb)) hp (vd.mono R (Ext.beside R hp _))
theorem HE {x:XA} {σ:L2.St} {H:Hp} {Q:VK} (h:tE K (k7 k8 x) σ H Q):LM (tAr K x) σ H Q:=by
 obtain ⟨m,ρ,S,d',S',E,R,e,q⟩:=h;obtain ⟨a,S1,e1,e⟩:=ae e;unfold k8 at e;split at e
 ·rename_i hl;cases e;exact ⟨m,ρ,S,a,_,E,R,e1,fun m1 H1 vs A1 va=>⟨mo (by rw [<-va.length];exact hl),ls A1.rel va fun m' H' u A2 vu=>q m' H' u (A1.trans A2) vu⟩⟩
 ·cases e
noncomputable def oC (x:XA):XA:=fun ρ S=>bnd (x ρ S) fun ds S1=>if ds.length<=1000 then some (ds,S1) else none
theorem C1 {x:XA} {σ:L2.St} {H:Hp} {Q:VK} (h:eR K (oC x) σ H Q):LN (tAr K x) σ H Q:=by
 obtain ⟨m,ρ,S,ds,S',E,R,e,q⟩:=h;obtain ⟨a,S1,e1,e⟩:=ae e;split at e
 ·rename_i hl;cases e;refine ⟨m,ρ,S,_,_,E,R,e1,fun m1 H1 vs A1 va=>⟨mo (by rw [<-va.length];exact hl),lu A1.rel va fun m' H' u us A2 sq n1 n2 n3 vu=>?_⟩⟩
  have hn:H u=none:=by
   cases e:H u with
   | none=>rfl
   | some o=>
    by_cases hm:u ∈ m
    ·exact absurd rfl (n2 u (A1.ext.pre.subset hm))
    ·have:=A1.ext.keep u o e hm;rw [this] at n3;cases n3
  exact q m' H' u us (A1.trans A2) sq n1 (fun b hb=>n2 b (A1.ext.pre.subset hb)) hn vu
 ·cases e
theorem eB {d:D} {v:V} {tu:Bool} {ds:List D} (R:Rel K m S H) (vd:VD K m H d v) (e:aj d S=some (tu,ds)):∃ a vs,v = .ref a/\SqB K tu H a vs/\VDs K m H ds vs:=by
 unfold aj at e;cases d with
 | tup es=>
  cases e;obtain ⟨a,vs,e,q,r⟩:=vd.tups;exact ⟨a,vs,e,q,r⟩
 | ref n=>
  obtain ⟨a,ha,ev⟩:=vd.refs;cases hs:am S n with
  | none=>simp [hs] at e
  | some es=>
   simp [hs] at e;obtain ⟨rfl,rfl⟩:=e;obtain ⟨b,vs,hb,q,r⟩:=R.seq hs;rw [ha] at hb;cases hb;exact ⟨a,vs,ev,q,r⟩
 | _=>cases e
theorem HF {f:Bool->List D->Sto->Option (D × Sto)} {x:XE} {σ:L2.St} {H:Hp} {Q:VK} (h:tE K (rD f x) σ H Q):tUn (rSq K f) (tE K x) σ H Q:=by
 obtain ⟨m,ρ,S,d,S',E,R,e,q⟩:=h;obtain ⟨a,S1,e1,e⟩:=ae e;refine ⟨m,ρ,S,a,S1,E,R,e1,fun m1 H1 v A1 va=>?_⟩;unfold au at e;split at e
 ·rename_i r hi;obtain ⟨b,vs,ev,sq,vds⟩:=eB (tu:=r.1) (ds:=r.2) A1.rel va hi;exact ⟨m1,S1,r.1,r.2,b,vs,d,S',A1.rel,ev,sq,vds,e,fun m3 H3 u A3 vd=>q m3 H3 u (A1.trans A3) vd⟩
 ·cases e
noncomputable def dN (x:XA):XE:=fun ρ S=>bnd (x ρ S) fun ds S1=>some (.ref S1.length,S1++[.lst ds])
theorem rE {x:XA} {σ:L2.St} {H:Hp} {Q:VK} (h:tE K (dN x) σ H Q):eR K x σ H Q:=by
 obtain ⟨m,ρ,S,d,S',E,R,e,q⟩:=h;obtain ⟨ds,S1,e1,e⟩:=ae e;cases e;refine ⟨m,ρ,S,ds,S1,E,R,e1,fun m1 H1 a vs A1 sq n1 n2 n3 vd=>?_⟩;refine q (m1++[a]) H1 _ ⟨⟨A1.ext.pre.trans (Yr _ _),A1.ext.keep,fun b hb nb=>?_⟩,A1.rel.adopt n1 sq vd⟩ ?_
 ·rcases ZK.mp hb with z | z
  ·exact A1.ext.new b z nb
  ·simp at z;subst z;exact n3
 ·rw [VD];exact ⟨a,by rw [Zq (by rw [A1.rel.len];exact Zd _),A1.rel.len,Yh];rfl,rfl⟩
end
end Ev
namespace Ev
open PySem PySem.Spec PyProof.Rows L2
noncomputable def eqL (f:D->D->Option Bool):List D->List D->Option Bool
 | [],[]=>some true
 | [],_::_=>some false
 | _::_,[]=>some false
 | x::xs,y::ys=>match f x y,eqL f xs ys with
  | some a,some b=>some (a && b)
  | _,_=>none
noncomputable def eqD:Nat->Sto->D->D->Option Bool
 | 0,_,_,_=>none
 | n+1,S,x,y=>match x,y with
  | .non,.non=>some true
  | .bl a,.bl b=>some (a == b)
  | .int a,.int b=>some (a == b)
  | .str a,.str b=>some (a == b)
  | .bl a,.int b=>some ((if a then 1 else 0) == b)
  | .int a,.bl b=>some (a == (if b then 1 else 0))
  | .tup xs,.tup ys=>eqL (eqD n S) xs ys
  | .ref a,.ref b=>match am S a,am S b with
   | some xs,some ys=>if a=b then some true else if xs.length=ys.length then eqL (eqD n S) xs ys else some false
   | _,_=>none
  | .tup _,.ref b=>match am S b with
   | some _=>some false
   | none=>none
  | .ref a,.tup _=>match am S a with
   | some _=>some false
   | none=>none
  | .ref a,_=>match am S a with
   | some _=>some false
   | none=>none
  | _,.ref a=>match am S a with
   | some _=>some false
   | none=>none
  | _,_=>some false
section
variable {X:Cx} {K:PySem.W.Frag} {m:List Addr} {H:Hp} {S:Sto}
theorem rF {f:D->D->Option Bool}:∀ {xs ys:List D} {b:Bool},eqL f xs ys=some b->∃ g:Nat->Bool,(∀ j x y,xs[j]?=some x->ys[j]?=some y->f x y=some (g j))/\b=((Zj (min xs.length ys.length)).all g && xs.length == ys.length)
 | [],[],b,h=>by simp [eqL] at h;exact ⟨fun _=>true,fun j x y e=>by simp at e,by simp [<-h]⟩
 | [],_::_,b,h=>by simp [eqL] at h;exact ⟨fun _=>true,fun j x y e=>by simp at e,by simp [<-h]⟩
 | _::_,[],b,h=>by simp [eqL] at h;exact ⟨fun _=>true,fun j x y _ e=>by simp at e,by simp [<-h]⟩
 | x::xs,y::ys,b,h=>by
  simp only [eqL] at h;cases h1:f x y with
  | none=>simp [h1] at h
  | some a=>
   cases h2:eqL f xs ys with
   | none=>simp [h1,h2] at h
   | some c=>
    simp [h1,h2] at h;obtain ⟨g,hg,hc⟩:=rF h2;refine ⟨fun j=>match j with | 0=>a | j+1=>g j,fun j x' y' e1 e2=>?_,?_⟩
    ·cases j with
     | zero=>simp at e1 e2;subst e1 e2;exact h1
     | succ j=>simp at e1 e2;exact hg j x' y' e1 e2
    ·rw [<-h,hc];simp only [ZA,Nat.succ_min_succ,List.range_succ_eq_map,ZS,ZP];rw [Bool.and_assoc]
     congr 1
     rw [show (xs.length+1 == ys.length+1)=(xs.length == ys.length) by simp];rfl
theorem C2 {pins:List (Addr × Obj)} {σ:L2.St} {s:Shared} {a:Addr} {xs ys:List V} (I:Inv X pins σ H s) (h1:H a=some (.tup xs)) (h2:H a=some (.tup ys)):xs=ys:=by
 rw [h1] at h2;cases h2;rfl
theorem xE {m:List Addr} (nd:m.Nodup) {i j:Nat} {a:Addr} (h1:m[i]?=some a) (h2:m[j]?=some a):i=j:=by
 obtain ⟨p1,q1⟩:=Zc.mp h1;obtain ⟨p2,q2⟩:=Zc.mp h2;exact (YV nd).mp (q1.trans q2.symm)
theorem rG {pins:List (Addr × Obj)} {σ:L2.St} {s:Shared} (I:Inv X pins σ H s) (R:Rel X.K m S H):∀ (n:Nat) {x y:D} {v:V} {b:Bool},VD X.K m H x v->VD X.K m H y v->eqD n S x y=some b->b=true
 | 0,_,_,_,_,_,_,h=>by simp [eqD] at h
 | n+1,x,y,v,b,h1,h2,h=>by
  have lists:∀ {xs ys:List D} {vs:List V} {b:Bool},VDs X.K m H xs vs->VDs X.K m H ys vs->eqL (eqD n S) xs ys=some b->b=true:=by
   intro xs
   induction xs with
   | nil=>
    intro ys vs b p q e;have l1:=p.length;have l2:=q.length;cases ys with
    | nil=>simp [eqL] at e;simp_all
    | cons _ _=>simp at l1 l2;omega
   | cons x xs ih=>
    intro ys vs b p q e;have l1:=p.length;have l2:=q.length;cases ys with
    | nil=>simp at l1 l2;omega
    | cons y ys=>
     rw [VDs] at p q;obtain ⟨a,r,e1,p1,p2⟩:=p;obtain ⟨a',r',e2,q1,q2⟩:=q;rw [e1] at e2;cases e2;simp only [eqL] at e;cases f1:eqD n S x y with
     | none=>simp [f1] at e
     | some c=>
      cases f2:eqL (eqD n S) xs ys with
      | none=>simp [f1,f2] at e
      | some d=>
       simp [f1,f2] at e;rw [<-e,rG I R n p1 q1 f1,ih p2 q2 f2];rfl
  cases x with
  | non=>cases h1.nons;cases y <;> simp [VD] at h2 <;> simp [eqD] at h <;> simp [h]
  | bl a=>cases h1.bls;cases y <;> simp [VD] at h2 <;> simp [eqD] at h <;> simp_all
  | int a=>cases h1.ints;cases y <;> simp [VD] at h2 <;> simp [eqD] at h <;> simp_all
  | str a=>cases h1.strs;cases y <;> simp [VD] at h2 <;> simp [eqD] at h <;> simp_all
  | tup xs=>
   obtain ⟨a,vs,e,sq,p⟩:=h1.tups;subst e;cases y with
   | tup ys=>
    obtain ⟨a',vs',e',sq',q⟩:=h2.tups;cases e';have:=C2 I sq sq';subst this;simp only [eqD] at h;exact lists p q h
   | ref k=>
    obtain ⟨a',ha,e'⟩:=h2.refs;cases e';have z:a ∈ m:=Zm ha;exact absurd z (R.notTup sq)
   | non=>cases h2.nons
   | bl _=>cases h2.bls
   | int _=>cases h2.ints
   | str _=>cases h2.strs
  | ref k=>
   obtain ⟨a,ha,e⟩:=h1.refs;subst e;cases y with
   | ref k'=>
    obtain ⟨a',ha',e'⟩:=h2.refs;cases e';have:=xE R.nd ha ha';subst this;simp only [eqD] at h;cases hs:am S k with
    | none=>rw [hs] at h;cases h
    | some es=>rw [hs] at h;simp at h;exact h.symm ▸ rfl
   | tup ys=>
    obtain ⟨a',vs',e',sq,q⟩:=h2.tups;cases e';have z:a ∈ m:=Zm ha;exact absurd z (R.notTup sq)
   | non=>cases h2.nons
   | bl _=>cases h2.bls
   | int _=>cases h2.ints
   | str _=>cases h2.strs
theorem p9 {vs:List V} {its:List Value} {xs:List D} (p:VDs K m H xs vs) (r:aP vs its) {j:Nat} (hj:j < its.toArray.size):∃ x v,xs[j]?=some x/\VD K m H x v/\aM v its.toArray[j]:=by
 have hj':j < its.length:=by simpa using hj
 have l1:=p.length;have l2:=r.length;obtain ⟨v,hv,vd⟩:=p.get (i:=j) (d:=xs[j]'(by omega)) (gEG _);obtain ⟨u,hu,ru⟩:=r.get hv;refine ⟨_,v,gEG (by omega),vd,?_⟩;have e:its[j]?=some its[j]:=gEG hj';rw [e] at hu;cases hu
 simpa using ru
noncomputable abbrev HG (X:Cx) (m:List Addr) (H:Hp) (S:Sto) (s:Shared) (n:Nat):Prop:=∀ (A:Around) (x y:D) (v w:V) (u u':Value) (b:Bool),VD X.K m H x v->VD X.K m H y w->aM v u->aM w u'->eqD n S x y=some b->A.units+n < cLine->SeqAt.EqAt A s u u' b
theorem rH {pins:List (Addr × Obj)} {σ:L2.St} {s:Shared} {n:Nat} (ih:HG X m H S s n) {A:Around} {xs ys:List D} {vs ws:List V} {i1 i2:List Value} {b:Bool} (p:VDs X.K m H xs vs) (q:VDs X.K m H ys ws) (r1:aP vs i1) (r2:aP ws i2)
  (h:eqL (eqD n S) xs ys=some b) (hu:A.units+(n+1) < cLine):∃ g:Nat->Bool,(∀ j (h1:j < i1.toArray.size) (h2:j < i2.toArray.size),SeqAt.EqAt A.in1 s i1.toArray[j] i2.toArray[j] (g j))/\b=((Zj (min i1.toArray.size i2.toArray.size)).all g && i1.toArray.size == i2.toArray.size):=by
 obtain ⟨g,hg,hb⟩:=rF h;have l1:i1.toArray.size=xs.length:=by rw [Zi,<-r1.length,<-p.length]
 have l2:i2.toArray.size=ys.length:=by rw [Zi,<-r2.length,<-q.length]
 refine ⟨g,fun j h1 h2=>?_,by rw [hb,l1,l2]⟩;obtain ⟨x,v,e1,v1,ru1⟩:=p9 p r1 h1;obtain ⟨y,w,e2,v2,ru2⟩:=p9 q r2 h2;exact ih _ _ _ _ _ _ _ _ v1 v2 ru1 ru2 (hg j x y e1 e2) (by show A.units+1+n < cLine;omega)
theorem zD {n:Nat}:(Zj n).all (fun _=>true)=true:=by simp
theorem zE {pins:List (Addr × Obj)} {σ:L2.St} {s:Shared} (I:Inv X pins σ H s) (R:Rel X.K m S H) {n:Nat} (ih:HG X m H S s n) {A:Around} {x y:D} {a a':Addr} {b:Bool} (hx:VD X.K m H x (.ref a)) (hy:VD X.K m H y (.ref a')) (h:eqD (n+1) S x y=some b) (hu:A.units+(n+1) < cLine) :
  SeqAt.RcAt A s (.ref a) (.ref a') b/\PySem.SeqAt.RcNeAt A s (.ref a) (.ref a') (!b):=by
 have hu0:A.units < cLine:=by omega
 cases x with
 | non=>cases hx.nons
 | bl _=>cases hx.bls
 | int _=>cases hx.ints
 | str _=>cases hx.strs
 | tup xs=>
  obtain ⟨_,vs,e,sq,p⟩:=hx.tups;cases e;obtain ⟨i1,r1,t1,_⟩:=I.tuple (.of sq);cases y with
  | non=>cases hy.nons
  | bl _=>cases hy.bls
  | int _=>cases hy.ints
  | str _=>cases hy.strs
  | tup ys=>
   obtain ⟨_,ws,e,sq',q⟩:=hy.tups;cases e;obtain ⟨i2,r2,t2,_⟩:=I.tuple (.of sq');simp only [eqD] at h;obtain ⟨g,hg,hb⟩:=rH (pins:=pins) (σ:=σ) ih p q r1 r2 h hu;rw [hb];exact ⟨SeqAt.RcAt.tuples t1 t2 hu0 hg,PySem.SeqAt.RcNeAt.tuples t1 t2 hu0 hg⟩
  | ref k=>
   simp only [eqD] at h;cases hs:am S k with
   | none=>rw [hs] at h;cases h
   | some es=>
    rw [hs] at h;cases h;obtain ⟨b',ws,hb,sq',q⟩:=R.seq hs;obtain ⟨c,hc,ec⟩:=hy.refs;cases ec;rw [hb] at hc;cases hc;obtain ⟨i2,r2,t2,_⟩:=I.list sq';exact ⟨SeqAt.RcAt.tuple_list t1 t2.isList hu0,PySem.SeqAt.RcNeAt.tuple_list t1 t2.isList hu0⟩
 | ref k=>
  obtain ⟨c,hc,ec⟩:=hx.refs;cases ec;cases y with
  | non=>cases hy.nons
  | bl _=>cases hy.bls
  | int _=>cases hy.ints
  | str _=>cases hy.strs
  | tup ys=>
   obtain ⟨_,ws,e,sq',q⟩:=hy.tups;cases e;obtain ⟨i2,r2,t2,_⟩:=I.tuple (.of sq');simp only [eqD] at h;cases hs:am S k with
   | none=>rw [hs] at h;cases h
   | some es=>
    rw [hs] at h;cases h;obtain ⟨b',vs,hb,sq,p⟩:=R.seq hs;rw [hb] at hc;cases hc;obtain ⟨i1,r1,t1,_⟩:=I.list sq;exact ⟨SeqAt.RcAt.list_tuple t1.isList t2 hu0,PySem.SeqAt.RcNeAt.list_tuple t1.isList t2 hu0⟩
  | ref k'=>
   obtain ⟨c',hc',ec'⟩:=hy.refs;cases ec';simp only [eqD] at h;cases hs:am S k with
   | none=>rw [hs] at h;cases h
   | some es=>
    cases hs':am S k' with
    | none=>rw [hs,hs'] at h;cases h
    | some es'=>
     rw [hs,hs'] at h;dsimp only at h;obtain ⟨b1,vs,hb,sq,p⟩:=R.seq hs;rw [hb] at hc;cases hc;obtain ⟨b2,ws,hb',sq',q⟩:=R.seq hs';rw [hb'] at hc';cases hc';obtain ⟨i1,r1,t1,_⟩:=I.list sq;obtain ⟨i2,r2,t2,_⟩:=I.list sq';split at h
     ·rename_i hk;subst hk;rw [hb] at hb';cases hb';cases h;have z:=SeqAt.RcAt.lists (e:=fun _=>true) t1.isList t1.isList rfl hu0 fun j h1 h2=>SeqAt.EqAt.same _;have z':=PySem.SeqAt.RcNeAt.lists (e:=fun _=>true) t1.isList t1.isList rfl hu0 fun j h1 h2=>SeqAt.EqAt.same _;rw [zD] at z z';exact ⟨z,z'⟩
     ·have l1:i1.toArray.size=es.length:=by rw [Zi,<-r1.length,<-p.length]
      have l2:i2.toArray.size=es'.length:=by rw [Zi,<-r2.length,<-q.length]
      split at h
      ·rename_i hl;obtain ⟨g,hg,hb3⟩:=rH (pins:=pins) (σ:=σ) ih p q r1 r2 h hu;have hsz:i1.toArray.size=i2.toArray.size:=by rw [l1,l2,hl]
       rw [hb3,<-hsz,Nat.min_self,beq_self_eq_true,Yz];exact ⟨SeqAt.RcAt.lists t1.isList t2.isList hsz hu0 hg,PySem.SeqAt.RcNeAt.lists t1.isList t2.isList hsz hu0 hg⟩
      ·rename_i hl;cases h;have hsz:(i1.toArray.size != i2.toArray.size)=true:=by rw [l1,l2];simpa using hl
       exact ⟨SeqAt.RcAt.lists_lengths t1.isList t2.isList hsz hu0,PySem.SeqAt.RcNeAt.lists_lengths t1.isList t2.isList hsz hu0⟩
theorem bm {pins:List (Addr × Obj)} {σ:L2.St} {s:Shared} (I:Inv X pins σ H s) (R:Rel X.K m S H) {k:Nat} {v:V} {es:List D} (h:VD X.K m H (.ref k) v) (hs:am S k=some es):∃ a i,v = .ref a/\s.heap.IsList a i:=by
 obtain ⟨c,hc,ec⟩:=h.refs;obtain ⟨b1,vs,hb,sq,p⟩:=R.seq hs;rw [hb] at hc;cases hc;obtain ⟨i1,r1,t1,_⟩:=I.list sq;exact ⟨_,_,ec,t1.isList⟩
theorem bE {pins:List (Addr × Obj)} {σ:L2.St} {s:Shared} (I:Inv X pins σ H s) {v:V} {es:List D} (h:VD X.K m H (.tup es) v):∃ a i,v = .ref a/\s.heap.IsTuple a i:=by
 obtain ⟨a,vs,e,sq,p⟩:=h.tups;obtain ⟨i1,r1,t1,_⟩:=I.tuple (.of sq);exact ⟨_,_,e,t1⟩
theorem qa {pins:List (Addr × Obj)} {σ:L2.St} {s:Shared} (I:Inv X pins σ H s) (R:Rel X.K m S H):∀ n,HG X m H S s n
 | 0=>fun A x y v w u u' b h1 h2 r1 r2 h _=>by simp [eqD] at h
 | n+1=>fun A x y v w u u' b h1 h2 r1 r2 h hu=>by
  have hu0:A.units < cLine:=by omega
  have seq:∀ {a a':Addr},v = .ref a->w = .ref a'->SeqAt.EqAt A s u u' b:=by
   intro a a' e e';subst e e';cases r1;cases r2;by_cases z:a=a'
   ·subst z;have:=rG I R (n+1) h1 h2 h;subst this;exact SeqAt.EqAt.same _
   ·exact SeqAt.EqAt.of_refs z (zE I R (qa I R n) h1 h2 h hu).1
  cases x with
  | non=>
   cases h1.nons;cases r1;cases y with
   | non=>cases h2.nons;cases r2;simp [eqD] at h;subst h;exact SeqAt.EqAt.same _
   | bl j=>cases h2.bls;cases r2;simp [eqD] at h;subst h;exact SeqAt.EqAt.none_bool _
   | int j=>cases h2.ints;obtain ⟨t,rfl⟩:=r2;simp [eqD] at h;subst h;exact SeqAt.EqAt.none_int _ _
   | str j=>cases h2.strs;obtain ⟨t,rfl⟩:=r2;simp [eqD] at h;subst h;exact SeqAt.EqAt.none_str _ _
   | tup ys=>obtain ⟨a,i,e,l⟩:=bE I h2;subst e;cases r2;simp [eqD] at h;subst h;exact SeqAt.EqAt.none_tuple l hu0
   | ref k=>
    simp only [eqD] at h;cases hs:am S k with
    | none=>rw [hs] at h;cases h
    | some es=>rw [hs] at h;cases h;obtain ⟨a,i,e,l⟩:=bm I R h2 hs;subst e;cases r2;exact SeqAt.EqAt.none_list l hu0
  | bl i=>
   cases h1.bls;cases r1;cases y with
   | non=>cases h2.nons;cases r2;simp [eqD] at h;subst h;exact SeqAt.EqAt.bool_none _
   | bl j=>cases h2.bls;cases r2;simp only [eqD] at h;cases h;exact SeqAt.EqAt.bool_bool _ _
   | int j=>cases h2.ints;obtain ⟨t,rfl⟩:=r2;simp only [eqD] at h;cases h;exact SeqAt.EqAt.bool_int _ _ _
   | str j=>cases h2.strs;obtain ⟨t,rfl⟩:=r2;simp [eqD] at h;subst h;exact SeqAt.EqAt.bool_str _ _ _
   | tup ys=>obtain ⟨a,i,e,l⟩:=bE I h2;subst e;cases r2;simp [eqD] at h;subst h;exact SeqAt.EqAt.bool_tuple _ l hu0
   | ref k=>
    simp only [eqD] at h;cases hs:am S k with
    | none=>rw [hs] at h;cases h
    | some es=>rw [hs] at h;cases h;obtain ⟨a,i,e,l⟩:=bm I R h2 hs;subst e;cases r2;exact SeqAt.EqAt.bool_list _ l hu0
  | int i=>
   cases h1.ints;obtain ⟨t1,rfl⟩:=r1;cases y with
   | non=>cases h2.nons;cases r2;simp [eqD] at h;subst h;exact SeqAt.EqAt.int_none _ _
   | bl j=>cases h2.bls;cases r2;simp only [eqD] at h;cases h;exact SeqAt.EqAt.int_bool _ _ _
   | int j=>cases h2.ints;obtain ⟨t,rfl⟩:=r2;simp only [eqD] at h;cases h;exact SeqAt.EqAt.int_int _ _ _ _
   | str j=>cases h2.strs;obtain ⟨t,rfl⟩:=r2;simp [eqD] at h;subst h;exact SeqAt.EqAt.int_str _ _ _ _
   | tup ys=>obtain ⟨a,i,e,l⟩:=bE I h2;subst e;cases r2;simp [eqD] at h;subst h;exact SeqAt.EqAt.int_tuple _ _ l hu0
   | ref k=>
    simp only [eqD] at h;cases hs:am S k with
    | none=>rw [hs] at h;cases h
    | some es=>rw [hs] at h;cases h;obtain ⟨a,i,e,l⟩:=bm I R h2 hs;subst e;cases r2;exact SeqAt.EqAt.int_list _ _ l hu0
  | str i=>
   cases h1.strs;obtain ⟨t1,rfl⟩:=r1;cases y with
   | non=>cases h2.nons;cases r2;simp [eqD] at h;subst h;exact SeqAt.EqAt.str_none _ _
   | bl j=>cases h2.bls;cases r2;simp [eqD] at h;subst h;exact SeqAt.EqAt.str_bool _ _ _
   | int j=>cases h2.ints;obtain ⟨t,rfl⟩:=r2;simp [eqD] at h;subst h;exact SeqAt.EqAt.str_int _ _ _ _
   | str j=>cases h2.strs;obtain ⟨t,rfl⟩:=r2;simp only [eqD] at h;cases h;exact SeqAt.EqAt.str_str _ _ _ _
   | tup ys=>obtain ⟨a,i,e,l⟩:=bE I h2;subst e;cases r2;simp [eqD] at h;subst h;exact SeqAt.EqAt.str_tuple _ _ l hu0
   | ref k=>
    simp only [eqD] at h;cases hs:am S k with
    | none=>rw [hs] at h;cases h
    | some es=>rw [hs] at h;cases h;obtain ⟨a,i,e,l⟩:=bm I R h2 hs;subst e;cases r2;exact SeqAt.EqAt.str_list _ _ l hu0
  | tup xs=>
   obtain ⟨a,i,e,l⟩:=bE I h1;subst e;cases r1;cases y with
   | non=>cases h2.nons;cases r2;simp [eqD] at h;subst h;exact SeqAt.EqAt.tuple_none l hu0
   | bl j=>cases h2.bls;cases r2;simp [eqD] at h;subst h;exact SeqAt.EqAt.tuple_bool _ l hu0
   | int j=>cases h2.ints;obtain ⟨t,rfl⟩:=r2;simp [eqD] at h;subst h;exact SeqAt.EqAt.tuple_int _ _ l hu0
   | str j=>cases h2.strs;obtain ⟨t,rfl⟩:=r2;simp [eqD] at h;subst h;exact SeqAt.EqAt.tuple_str _ _ l hu0
   | tup ys=>obtain ⟨a',i',e',l'⟩:=bE I h2;exact seq rfl e'
   | ref k=>obtain ⟨c,hc,ec⟩:=h2.refs;exact seq rfl ec
  | ref k=>
   obtain ⟨c,hc,ec⟩:=h1.refs;cases y with
   | tup ys=>obtain ⟨a',i',e',l'⟩:=bE I h2;exact seq ec e'
   | ref k=>obtain ⟨c,hc,ec'⟩:=h2.refs;exact seq ec ec'
   | non=>
    simp only [eqD] at h;cases hs:am S k with
    | none=>rw [hs] at h;cases h
    | some es=>rw [hs] at h;cases h;obtain ⟨a,i,e,l⟩:=bm I R h1 hs;subst e;cases r1;cases h2.nons;cases r2;exact SeqAt.EqAt.list_none l hu0
   | bl j=>
    simp only [eqD] at h;cases hs:am S k with
    | none=>rw [hs] at h;cases h
    | some es=>rw [hs] at h;cases h;obtain ⟨a,i,e,l⟩:=bm I R h1 hs;subst e;cases r1;cases h2.bls;cases r2;exact SeqAt.EqAt.list_bool _ l hu0
   | int j=>
    simp only [eqD] at h;cases hs:am S k with
    | none=>rw [hs] at h;cases h
    | some es=>rw [hs] at h;cases h;obtain ⟨a,i,e,l⟩:=bm I R h1 hs;subst e;cases r1;cases h2.ints;obtain ⟨t,rfl⟩:=r2;exact SeqAt.EqAt.list_int _ _ l hu0
   | str j=>
    simp only [eqD] at h;cases hs:am S k with
    | none=>rw [hs] at h;cases h
    | some es=>rw [hs] at h;cases h;obtain ⟨a,i,e,l⟩:=bm I R h1 hs;subst e;cases r1;cases h2.strs;obtain ⟨t,rfl⟩:=r2;exact SeqAt.EqAt.list_str _ _ l hu0
theorem L5 {pins:List (Addr × Obj)} {σ:L2.St} {s:Shared} (I:Inv X pins σ H s) (R:Rel X.K m S H) (n:Nat) {A:Around} {x y:D} {v w:V} {u u':Value} {b:Bool} (h1:VD X.K m H x v) (h2:VD X.K m H y w) (r1:aM v u) (r2:aM w u') (h:eqD (n+1) S x y=some b) (hu:A.units+(n+1) < cLine) :
  SeqAt.RcAt A s u u' b/\PySem.SeqAt.RcNeAt A s u u' (!b):=by
 have hu0:A.units < cLine:=by omega
 have seq:∀ {a a':Addr},v = .ref a->w = .ref a'->SeqAt.RcAt A s u u' b/\PySem.SeqAt.RcNeAt A s u u' (!b):=by
  intro a a' e e';subst e e';cases r1;cases r2;exact zE I R (qa I R n) h1 h2 h hu
 cases x with
 | non=>
  cases h1.nons;cases r1;cases y with
  | non=>cases h2.nons;cases r2;simp [eqD] at h;subst h;exact ⟨SeqAt.RcAt.none_none,PySem.SeqAt.RcNeAt.none_none⟩
  | bl j=>cases h2.bls;cases r2;simp [eqD] at h;subst h;exact ⟨SeqAt.RcAt.none_bool _,PySem.SeqAt.RcNeAt.none_bool _⟩
  | int j=>cases h2.ints;obtain ⟨t2,rfl⟩:=r2;simp [eqD] at h;subst h;exact ⟨SeqAt.RcAt.none_int _ _,PySem.SeqAt.RcNeAt.none_int _ _⟩
  | str j=>cases h2.strs;obtain ⟨t2,rfl⟩:=r2;simp [eqD] at h;subst h;exact ⟨SeqAt.RcAt.none_str _ _,PySem.SeqAt.RcNeAt.none_str _ _⟩
  | tup ys=>obtain ⟨a,i,e,l⟩:=bE I h2;subst e;cases r2;simp [eqD] at h;subst h;exact ⟨SeqAt.RcAt.none_tuple l hu0,PySem.SeqAt.RcNeAt.none_tuple l hu0⟩
  | ref k=>
   simp only [eqD] at h;cases hs:am S k with
   | none=>rw [hs] at h;cases h
   | some es=>rw [hs] at h;cases h;obtain ⟨a,i,e,l⟩:=bm I R h2 hs;subst e;cases r2;exact ⟨SeqAt.RcAt.none_list l hu0,PySem.SeqAt.RcNeAt.none_list l hu0⟩
 | bl i=>
  cases h1.bls;cases r1;cases y with
  | non=>cases h2.nons;cases r2;simp [eqD] at h;subst h;exact ⟨SeqAt.RcAt.bool_none _,PySem.SeqAt.RcNeAt.bool_none _⟩
  | bl j=>cases h2.bls;cases r2;simp only [eqD] at h;cases h;exact ⟨SeqAt.RcAt.bool_bool _ _,PySem.SeqAt.RcNeAt.bool_bool _ _⟩
  | int j=>cases h2.ints;obtain ⟨t2,rfl⟩:=r2;simp only [eqD] at h;cases h;exact ⟨SeqAt.RcAt.bool_int _ _ _,PySem.SeqAt.RcNeAt.bool_int _ _ _⟩
  | str j=>cases h2.strs;obtain ⟨t2,rfl⟩:=r2;simp [eqD] at h;subst h;exact ⟨SeqAt.RcAt.bool_str _ _ _,PySem.SeqAt.RcNeAt.bool_str _ _ _⟩
  | tup ys=>obtain ⟨a,i,e,l⟩:=bE I h2;subst e;cases r2;simp [eqD] at h;subst h;exact ⟨SeqAt.RcAt.bool_tuple _ l hu0,PySem.SeqAt.RcNeAt.bool_tuple _ l hu0⟩
  | ref k=>
   simp only [eqD] at h;cases hs:am S k with
   | none=>rw [hs] at h;cases h
   | some es=>rw [hs] at h;cases h;obtain ⟨a,i,e,l⟩:=bm I R h2 hs;subst e;cases r2;exact ⟨SeqAt.RcAt.bool_list _ l hu0,PySem.SeqAt.RcNeAt.bool_list _ l hu0⟩
 | int i=>
  cases h1.ints;obtain ⟨t1,rfl⟩:=r1;cases y with
  | non=>cases h2.nons;cases r2;simp [eqD] at h;subst h;exact ⟨SeqAt.RcAt.int_none _ _,PySem.SeqAt.RcNeAt.int_none _ _⟩
  | bl j=>cases h2.bls;cases r2;simp only [eqD] at h;cases h;exact ⟨SeqAt.RcAt.int_bool _ _ _,PySem.SeqAt.RcNeAt.int_bool _ _ _⟩
  | int j=>cases h2.ints;obtain ⟨t2,rfl⟩:=r2;simp only [eqD] at h;cases h;exact ⟨SeqAt.RcAt.int_int _ _ _ _,PySem.SeqAt.RcNeAt.int_int _ _ _ _⟩
  | str j=>cases h2.strs;obtain ⟨t2,rfl⟩:=r2;simp [eqD] at h;subst h;exact ⟨SeqAt.RcAt.int_str _ _ _ _,PySem.SeqAt.RcNeAt.int_str _ _ _ _⟩
  | tup ys=>obtain ⟨a,i,e,l⟩:=bE I h2;subst e;cases r2;simp [eqD] at h;subst h;exact ⟨SeqAt.RcAt.int_tuple _ _ l hu0,PySem.SeqAt.RcNeAt.int_tuple _ _ l hu0⟩
  | ref k=>
   simp only [eqD] at h;cases hs:am S k with
   | none=>rw [hs] at h;cases h
   | some es=>rw [hs] at h;cases h;obtain ⟨a,i,e,l⟩:=bm I R h2 hs;subst e;cases r2;exact ⟨SeqAt.RcAt.int_list _ _ l hu0,PySem.SeqAt.RcNeAt.int_list _ _ l hu0⟩
 | str i=>
  cases h1.strs;obtain ⟨t1,rfl⟩:=r1;cases y with
  | non=>cases h2.nons;cases r2;simp [eqD] at h;subst h;exact ⟨SeqAt.RcAt.str_none _ _,PySem.SeqAt.RcNeAt.str_none _ _⟩
  | bl j=>cases h2.bls;cases r2;simp [eqD] at h;subst h;exact ⟨SeqAt.RcAt.str_bool _ _ _,PySem.SeqAt.RcNeAt.str_bool _ _ _⟩
  | int j=>cases h2.ints;obtain ⟨t2,rfl⟩:=r2;simp [eqD] at h;subst h;exact ⟨SeqAt.RcAt.str_int _ _ _ _,PySem.SeqAt.RcNeAt.str_int _ _ _ _⟩
  | str j=>cases h2.strs;obtain ⟨t2,rfl⟩:=r2;simp only [eqD] at h;cases h;exact ⟨SeqAt.RcAt.str_str _ _ _ _,PySem.SeqAt.RcNeAt.str_str _ _ _ _⟩
  | tup ys=>obtain ⟨a,i,e,l⟩:=bE I h2;subst e;cases r2;simp [eqD] at h;subst h;exact ⟨SeqAt.RcAt.str_tuple _ _ l hu0,PySem.SeqAt.RcNeAt.str_tuple _ _ l hu0⟩
  | ref k=>
   simp only [eqD] at h;cases hs:am S k with
   | none=>rw [hs] at h;cases h
   | some es=>rw [hs] at h;cases h;obtain ⟨a,i,e,l⟩:=bm I R h2 hs;subst e;cases r2;exact ⟨SeqAt.RcAt.str_list _ _ l hu0,PySem.SeqAt.RcNeAt.str_list _ _ l hu0⟩
 | tup xs=>
  obtain ⟨a,i,e,l⟩:=bE I h1;cases y with
  | non=>subst e;cases r1;cases h2.nons;cases r2;simp [eqD] at h;subst h;exact ⟨SeqAt.RcAt.tuple_none l hu0,PySem.SeqAt.RcNeAt.tuple_none l hu0⟩
  | bl j=>subst e;cases r1;cases h2.bls;cases r2;simp [eqD] at h;subst h;exact ⟨SeqAt.RcAt.tuple_bool _ l hu0,PySem.SeqAt.RcNeAt.tuple_bool _ l hu0⟩
  | int j=>subst e;cases r1;cases h2.ints;obtain ⟨t2,rfl⟩:=r2;simp [eqD] at h;subst h;exact ⟨SeqAt.RcAt.tuple_int _ _ l hu0,PySem.SeqAt.RcNeAt.tuple_int _ _ l hu0⟩
  | str j=>subst e;cases r1;cases h2.strs;obtain ⟨t2,rfl⟩:=r2;simp [eqD] at h;subst h;exact ⟨SeqAt.RcAt.tuple_str _ _ l hu0,PySem.SeqAt.RcNeAt.tuple_str _ _ l hu0⟩
  | tup ys=>obtain ⟨a',i',e',l'⟩:=bE I h2;exact seq e e'
  | ref k=>obtain ⟨c,hc,ec⟩:=h2.refs;exact seq e ec
 | ref k=>
  obtain ⟨c,hc,ec⟩:=h1.refs;cases y with
  | tup ys=>obtain ⟨a',i',e',l'⟩:=bE I h2;exact seq ec e'
  | ref k=>obtain ⟨c,hc,ec'⟩:=h2.refs;exact seq ec ec'
  | non=>
   simp only [eqD] at h;cases hs:am S k with
   | none=>rw [hs] at h;cases h
   | some es=>rw [hs] at h;cases h;obtain ⟨a,i,e,l⟩:=bm I R h1 hs;subst e;cases r1;cases h2.nons;cases r2;exact ⟨SeqAt.RcAt.list_none l hu0,PySem.SeqAt.RcNeAt.list_none l hu0⟩
  | bl j=>
   simp only [eqD] at h;cases hs:am S k with
   | none=>rw [hs] at h;cases h
   | some es=>rw [hs] at h;cases h;obtain ⟨a,i,e,l⟩:=bm I R h1 hs;subst e;cases r1;cases h2.bls;cases r2;exact ⟨SeqAt.RcAt.list_bool _ l hu0,PySem.SeqAt.RcNeAt.list_bool _ l hu0⟩
  | int j=>
   simp only [eqD] at h;cases hs:am S k with
   | none=>rw [hs] at h;cases h
   | some es=>rw [hs] at h;cases h;obtain ⟨a,i,e,l⟩:=bm I R h1 hs;subst e;cases r1;cases h2.ints;obtain ⟨t2,rfl⟩:=r2;exact ⟨SeqAt.RcAt.list_int _ _ l hu0,PySem.SeqAt.RcNeAt.list_int _ _ l hu0⟩
  | str j=>
   simp only [eqD] at h;cases hs:am S k with
   | none=>rw [hs] at h;cases h
   | some es=>rw [hs] at h;cases h;obtain ⟨a,i,e,l⟩:=bm I R h1 hs;subst e;cases r1;cases h2.strs;obtain ⟨t2,rfl⟩:=r2;exact ⟨SeqAt.RcAt.list_str _ _ l hu0,PySem.SeqAt.RcNeAt.list_str _ _ l hu0⟩
noncomputable def eqS (x y:D) (S:Sto):Option (D × Sto):=(eqD 60 S x y).map fun b=>(.bl b,S)
noncomputable def neS (x y:D) (S:Sto):Option (D × Sto):=(eqD 60 S x y).map fun b=>(.bl (!b),S)
theorem HH (hu:X.A.units+64 < cLine):OpR X (compareOp .Eq) (rS X.K eqS):=by
 intro pins s σ H x y v u Q I rx ry h;obtain ⟨m,S,a,b,d,S',R,va,vb,e,q⟩:=h;unfold eqS at e;cases he:eqD 60 S a b with
 | none=>rw [he] at e;cases e
 | some c=>
  rw [he] at e;cases e;exact (L5 I R 59 va vb rx ry he (by omega)).1 _ _ _ _ ⟨.bl c,H,I,rfl,q m H _ (Aft.refl R) bQ⟩
theorem HI (hu:X.A.units+64 < cLine):OpR X (compareOp .NotEq) (rS X.K neS):=by
 intro pins s σ H x y v u Q I rx ry h;obtain ⟨m,S,a,b,d,S',R,va,vb,e,q⟩:=h;unfold neS at e;cases he:eqD 60 S a b with
 | none=>rw [he] at e;cases e
 | some c=>
  rw [he] at e;cases e;exact (L5 I R 59 va vb rx ry he (by omega)).2 _ _ _ _ ⟨.bl (!c),H,I,rfl,q m H _ (Aft.refl R) bQ⟩
end
end Ev
namespace Ev
open PySem PySem.Spec PyProof.Rows L2
noncomputable def HJ (a b:Nat) (S:Sto):Option (D × Sto):=match S[a]? with
 | some (.lst xs)=>(match S[b]? with
  | some (.lst ys)=>if xs.length+ys.length<=100000 then some (.ref S.length,S++[.lst (xs++ys)]) else none
  | _=>none)
 | _=>none
noncomputable def k9:D->D->Sto->Option (D × Sto)
 | .int i,.int j,S=>some (.int (i+j),S)
 | .tup xs,.tup ys,S=>if xs.length+ys.length<=1000 then some (.tup (xs++ys),S) else none
 | .ref a,.ref b,S=>HJ a b S
 | .str x,.str y,S=>if x.length+y.length<=100000 then some (.str (x++y),S) else none
 | _,_,_=>none
noncomputable def L6:D->D->Sto->Option (D × Sto)
 | .int i,.int j,S=>some (.int (i - j),S)
 | _,_,_=>none
noncomputable def jc (i j:Int):Bool:=(decide (-(2 ^ 64) < i) && decide (i < 2 ^ 64)) || (decide (-(2 ^ 64) < j) && decide (j < 2 ^ 64))
noncomputable def qb:D->D->Sto->Option (D × Sto)
 | .int i,.int j,S=>if jc i j=true then some (.int (i * j),S) else none
 | .ref n,.int k,S=>(match S[n]? with
  | some (.lst xs)=>if 0<=k/\xs.length * k.toNat<=1000/\k<=1000 then some (.ref S.length,S++[.lst (Zo k.toNat xs).flatten]) else none
  | _=>none)
 | _,_,_=>none
noncomputable def HK:D->D->Sto->Option (D × Sto)
 | .int i,.int j,S=>if 0 < j then some (.int (i % j),S) else none
 | _,_,_=>none
noncomputable def zF:D->D->Sto->Option (D × Sto)
 | .int i,.int j,S=>if 0 < j/\j < 1073741824 then some (.int (i / j),S) else none
 | _,_,_=>none
noncomputable def HL:D->D->Sto->Option (D × Sto)
 | .int i,.int j,S=>if 0<=j/\j<=1000000/\i.natAbs < 2 ^ 64 then some (.int (i ^ j.toNat),S) else none
 | _,_,_=>none
inductive BOp where | add | sub | mul | mod | fdiv | pow
noncomputable def bL:BOp->D->D->Sto->Option (D × Sto)
 | .add=>k9 | .sub=>L6 | .mul=>qb | .mod=>HK | .fdiv=>zF | .pow=>HL
noncomputable def BOp.op:BOp->Operator
 | .add=>.Add | .sub=>.Sub | .mul=>.Mult | .mod=>.Mod | .fdiv=>.FloorDiv | .pow=>.Pow
section
variable {X:Cx} {K:PySem.W.Frag} {m:List Addr} {H:Hp} {S:Sto}
theorem gL {op:Operator} {f:D->D->Sto->Option (D × Sto)} {C:Int->Int->Prop} {g:Int->Int->Int} (ho:OpR X (binaryOp op) (rI C fun i j=>.int (g i j)))
  (hf:∀ a b S d S',f a b S=some (d,S')->∃ i j,a = .int i/\b = .int j/\C i j/\d = .int (g i j)/\S'=S):OpR X (binaryOp op) (rS X.K f):=by
 refine OpR.imp ho fun x y H Q h=>?_;obtain ⟨m,S,a,b,d,S',R,va,vb,e,q⟩:=h;obtain ⟨i,j,rfl,rfl,c,rfl,rfl⟩:=hf _ _ _ _ _ e;exact ⟨i,j,va.ints,vb.ints,c,q m H _ (Aft.refl R) bq⟩
theorem t8:OpR X (binaryOp .Add) (fun x y H Q=>∃ m S xs ys,Rel X.K m S H/\VD X.K m H (.tup xs) x/\VD X.K m H (.tup ys) y/\xs.length+ys.length<=1000/\∀ m' H' u,Aft X.K m H S m' H'->VD X.K m' H' (.tup (xs++ys)) u->Q u H'):=by
 refine OpR.imp CM fun x y H Q h=>?_;obtain ⟨m,S,xs,ys,R,va,vb,hl,q⟩:=h;obtain ⟨a,vs,rfl,sa,da⟩:=va.tups;obtain ⟨b,ws,rfl,sb,db⟩:=vb.tups;have l1:=da.length;have l2:=db.length;refine ⟨a,b,vs,ws,rfl,rfl,.of sa,.of sb,mo (by omega),fun e=>?_,fun _ e=>?_,fun _ _=>ls R (da.append db) q⟩
 ·subst e;have e:xs=[]:=Yn.mp (by simpa using l1);subst e;exact q m H _ (Aft.refl R) vb
 ·subst e;have e:ys=[]:=Yn.mp (by simpa using l2);subst e;rw [Ye] at q;exact q m H _ (Aft.refl R) va
theorem C3:OpR X (binaryOp .Add) (rS X.K k9):=by
 refine OpR.imp (OpR.or G2 (OpR.or t8 (OpR.or tK Hk))) fun x y H Q h=>?_;obtain ⟨m,S,a,b,d,S',R,va,vb,e,q⟩:=h;cases a with
 | int i=>
  cases b with
  | int j=>cases e;exact .inl ⟨i,j,va.ints,vb.ints,q m H _ (Aft.refl R) bq⟩
  | _=>simp [k9] at e
 | tup xs=>
  cases b with
  | tup ys=>
   simp only [k9] at e;split at e
   ·rename_i hl;cases e;exact .inr (.inl ⟨m,S,xs,ys,R,va,vb,hl,q⟩)
   ·cases e
  | _=>simp [k9] at e
 | str i=>
  cases b with
  | str j=>
   simp only [k9] at e;split at e
   ·rename_i hl;cases e;exact .inr (.inr (.inl ⟨i,j,va.strs,vb.strs,by rw [sizeLine_eq];omega,q m H _ (Aft.refl R) pY⟩))
   ·cases e
  | _=>simp [k9] at e
 | ref i=>
  cases b with
  | ref j=>
   simp only [k9,HJ] at e;split at e
   ·rename_i xs hx;split at e
    ·rename_i ys hy;split at e
     ·rename_i hl;cases e;obtain ⟨a,vs,ha,hH,q1⟩:=R.lst hx;obtain ⟨c,ws,hc,hG,q2⟩:=R.lst hy;obtain ⟨a',ha',e1⟩:=va.refs;obtain ⟨c',hc',e2⟩:=vb.refs;rw [ha] at ha';cases ha';rw [hc] at hc';cases hc';exact .inr (.inr (.inr ⟨a,c,vs,ws,e1,e2,hH,hG,by rw [sizeLine_eq,<-q1.length,<-q2.length];omega,p0 R (q1.append q2) q⟩))
     ·cases e
    ·cases e
   ·cases e
  | _=>simp [k9] at e
 | _=>cases b <;> simp [k9] at e
theorem vN {ds:List D} {vs:List V} (h:VDs K m H ds vs):∀ n:Nat,VDs K m H (Zo n ds).flatten (Zo n vs).flatten
 | 0=>by rw [Xd,Xd,Xv,Xv,VDs]
 | n+1=>by rw [Z2,Z2,Yg,Yg];exact h.append (vN h n)
theorem C4:OpR X (binaryOp .Mult) (rS X.K qb):=by
 refine OpR.imp (OpR.or Hl G4) fun x y H Q h=>?_;obtain ⟨m,S,a,b,d,S',R,va,vb,e,q⟩:=h;cases a with
 | int i=>
  cases b with
  | int j=>
   simp only [qb] at e;split at e
   ·rename_i hc;cases e;simp only [jc,YJ,bAE,decide_eq_true_eq] at hc;exact .inr ⟨i,j,va.ints,vb.ints,hc,q m H _ (Aft.refl R) bq⟩
   ·cases e
  | _=>simp [qb] at e
 | ref n=>
  cases b with
  | int k=>
   simp only [qb] at e;split at e
   ·rename_i xs hx;split at e
    ·rename_i hc;cases e;obtain ⟨l,vs,hl,hH,vd⟩:=R.lst hx;obtain ⟨l',hl',e1⟩:=va.refs;rw [hl] at hl';cases hl';exact .inl ⟨l,k,vs,e1,vb.ints,hH,by omega,by omega,by rw [sizeLine_eq,<-vd.length];omega,p0 R (vN vd k.toNat) q⟩
    ·cases e
   ·cases e
  | _=>simp [qb] at e
 | _=>cases b <;> simp [qb] at e
theorem C5 (o:BOp):OpR X (binaryOp o.op) (rS X.K (bL o)):=by
 cases o with
 | add=>exact C3
 | sub=>
  refine gL (C:=fun _ _=>True) (g:=fun i j=>i - j) (OpR.imp G3 fun x y H Q ⟨i,j,a,b,_,q⟩=>⟨i,j,a,b,q⟩) fun a b S d S' e=>?_;cases a <;> cases b <;> simp [bL,L6] at e;exact ⟨_,_,rfl,rfl,trivial,e.1.symm,e.2.symm⟩
 | mul=>exact C4
 | mod=>
  refine gL G5 fun a b S d S' e=>?_;cases a <;> cases b <;> simp [bL,HK] at e;rename_i i j;exact ⟨i,j,rfl,rfl,e.1,e.2.1.symm,e.2.2.symm⟩
 | fdiv=>
  refine gL Ci fun a b S d S' e=>?_;cases a <;> cases b <;> simp [bL,zF] at e;rename_i i j;exact ⟨i,j,rfl,rfl,e.1,e.2.1.symm,e.2.2.symm⟩
 | pow=>
  refine gL G6 fun a b S d S' e=>?_;cases a <;> cases b <;> simp [bL,HL] at e;rename_i i j;exact ⟨i,j,rfl,rfl,e.1,e.2.1.symm,e.2.2.symm⟩
noncomputable def xF (p:Int->Int->Bool):D->D->Sto->Option (D × Sto)
 | .int i,.int j,S=>some (.bl (p i j),S)
 | _,_,_=>none
noncomputable def bF:D->Bool
 | .non=>true
 | _=>false
noncomputable def isB (neg:Bool):D->D->Sto->Option (D × Sto)
 | d,.non,S=>some (.bl (neg != bF d),S)
 | .bl a,.bl b,S=>some (.bl (neg != (a == b)),S)
 | _,_,_=>none
noncomputable def cu:D->Bool
 | .non=>true | .bl _=>true | .int _=>true | .str _=>true | _=>false
noncomputable def eqF:D->D->Bool
 | .non,.non=>true
 | .bl a,.bl b=>a == b
 | .bl a,.int b=>(if a then 1 else 0) == b
 | .int a,.bl b=>a == (if b then 1 else 0)
 | .int a,.int b=>a == b
 | .str a,.str b=>a == b
 | _,_=>false
noncomputable def inF (x:D) (ds:List D):Bool:=ds.any fun y=>eqF y x
noncomputable def inD (x:D) (ds:List D) (S:Sto):Option Bool:=if (ds.all fun y=>(eqD 58 S y x).isSome)=true then some (ds.any fun y=>eqD 58 S y x == some true) else none
noncomputable def inS (neg:Bool) (x y:D) (S:Sto):Option (D × Sto):=match aj y S with
 | some (_,ds)=>if cu x=true/\ds.all cu=true then some (.bl (neg != inF x ds),S) else (inD x ds S).map fun b=>(.bl (neg != b),S)
 | none=>none
inductive COp where | eq | ne | lt | le | gt | ge | is | isnot | isin | notin
noncomputable def av:COp->D->D->Sto->Option (D × Sto)
 | .eq=>eqS | .ne=>neS
 | .lt=>xF fun i j=>decide (i < j) | .le=>xF fun i j=>decide (i<=j) | .gt=>xF fun i j=>decide (j < i) | .ge=>xF fun i j=>decide (j<=i)
 | .is=>isB false | .isnot=>isB true | .isin=>inS false | .notin=>inS true
noncomputable def COp.op:COp->CmpOp
 | .eq=>.Eq | .ne=>.NotEq | .lt=>.Lt | .le=>.LtE | .gt=>.Gt | .ge=>.GtE | .is=>.Is | .isnot=>.IsNot | .isin=>.In | .notin=>.NotIn
theorem eS {op:CmpOp} {p:Int->Int->Bool} (ho:OpR X (compareOp op) (rI0 fun i j=>.bl (p i j))):OpR X (compareOp op) (rS X.K (xF p)):=by
 refine OpR.imp ho fun x y H Q h=>?_;obtain ⟨m,S,a,b,d,S',R,va,vb,e,q⟩:=h;cases a <;> cases b <;> simp [xF] at e;obtain ⟨rfl,rfl⟩:=e;exact ⟨_,_,va.ints,vb.ints,q m H _ (Aft.refl R) bQ⟩
theorem lv {x:D} {v:V} (h:VD K m H x v) (f:cu x=true):eu v=true:=by
 cases x <;> simp [cu] at f
 ·cases h.nons;rfl
 ·cases h.bls;rfl
 ·cases h.ints;rfl
 ·cases h.strs;rfl
theorem zG {x y:D} {v w:V} (h:VD K m H x v) (f:cu x=true) (h':VD K m H y w) (f':cu y=true):eqV v w=eqF x y:=by
 cases x <;> simp [cu] at f <;> cases y <;> simp [cu] at f' <;> simp [VD] at h h' <;> subst h <;> subst h' <;> rfl
theorem jd:∀ {ds:List D} {vs:List V},VDs K m H ds vs->ds.all cu=true->vs.all eu=true
 | [],vs,h,_=>by rw [VDs] at h;rw [h];rfl
 | d::ds,vs,h,f=>by
  rw [VDs] at h;obtain ⟨x,r,rfl,p,q⟩:=h;rw [ZS,bAE] at f;rw [ZS,lv p f.1,jd q f.2];rfl
theorem t9 {x:D} {v:V} (h:VD K m H x v) (f:cu x=true):∀ {ds:List D} {vs:List V},VDs K m H ds vs->ds.all cu=true->inV v vs=inF x ds
 | [],vs,h,_=>by rw [VDs] at h;rw [h];rfl
 | d::ds,vs,h',f'=>by
  rw [VDs] at h';obtain ⟨y,r,rfl,p,q⟩:=h';rw [ZS,bAE] at f';have ih:=t9 h f q f'.2;unfold inV inF at ih ⊢;rw [Yu,Yu,zG p f'.1 h f,ih]
theorem oD {x:D} {v:V} (h:VD K m H x v) (f:cu x=true):∀ {ds:List D} {vs:List V},VDs K m H ds vs->ds.all cu=true->(vs.countP fun z=>eqV z v)=ds.countP fun z=>eqF z x
 | [],vs,h,_=>by rw [VDs] at h;rw [h];rfl
 | d::ds,vs,h',f'=>by
  rw [VDs] at h';obtain ⟨y,r,rfl,p,q⟩:=h';rw [ZS,bAE] at f';rw [YF,YF,zG p f'.1 h f,oD h f q f'.2]
theorem iE {tu:Bool} {a:Addr} {vs:List V} (h:SqB K tu H a vs):SqL K H a vs\/SqT K H a vs:=by
 cases tu with
 | false=>exact .inl h
 | true=>exact .inr (.of h)
theorem qc {pins:List (Addr × Obj)} {σ:L2.St} {s:Shared} (I:Inv X pins σ H s) (R:Rel X.K m S H) {x:D} {v:V} {u:Value} (vx:VD X.K m H x v) (rx:aM v u) {A:Around} (hu:A.units+58 < cLine) {ds:List D} {vs:List V} {its:List Value} (vd:VDs X.K m H ds vs) (r:aP vs its) {b:Bool} (h:inD x ds S=some b) :
  ∃ e:Value->Bool,(∀ w ∈ its,SeqAt.EqAt A s w u (e w))/\its.any e=b:=by
 unfold inD at h;split at h
 ·rename_i hs;cases h;rw [Zx] at hs
  have at_:∀ (i:Nat) w,its[i]?=some w->∃ y v',ds[i]?=some y/\VD X.K m H y v'/\aM v' w:=fun i w hw=>by
   have hi:=(Zc.mp hw).1;obtain ⟨y,v',e1,e2,e3⟩:=p9 vd r (j:=i) (by simpa using hi);refine ⟨y,v',e1,e2,?_⟩
   have:its.toArray[i]=w:=by
    have:=(Zc.mp hw).2
    simpa using this
   rw [<-this];exact e3
  refine ⟨fun w=>@decide (∃ (i:Nat) (y:D),ds[i]?=some y/\its[i]?=some w/\eqD 58 S y x=some true) (Classical.propDecidable _),fun w hw=>?_,?_⟩
  ·obtain ⟨i,hi⟩:=Z5 hw;dsimp only;by_cases hq:∃ (i:Nat) (y:D),ds[i]?=some y/\its[i]?=some w/\eqD 58 S y x=some true
   ·rw [@decide_eq_true _ (Classical.propDecidable _) hq];obtain ⟨j,y,e1,e2,e3⟩:=hq;obtain ⟨y',v',f1,f2,f3⟩:=at_ j w e2;rw [e1] at f1;cases f1;exact qa I R 58 A y x v' v w u true f2 vx f3 rx e3 hu
   ·rw [@decide_eq_false _ (Classical.propDecidable _) hq];obtain ⟨y,v',f1,f2,f3⟩:=at_ i w hi;obtain ⟨c,hc⟩:=ZY.mp (hs y (Zm f1));cases c with
    | true=>exact absurd ⟨i,y,f1,hi,hc⟩ hq
    | false=>exact qa I R 58 A y x v' v w u false f2 vx f3 rx hc hu
  ·rw [Z0,YE,YE];constructor
   ·rintro ⟨w,_,hw⟩;obtain ⟨i,y,e1,_,e3⟩:=@of_decide_eq_true _ (Classical.propDecidable _) hw;exact ⟨y,Zm e1,by rw [e3];rfl⟩
   ·rintro ⟨y,hy,e⟩;obtain ⟨i,hi⟩:=Z5 hy;obtain ⟨v',hv,_⟩:=vd.get hi;obtain ⟨w,hw,_⟩:=r.get hv;exact ⟨w,Zm hw,@decide_eq_true _ (Classical.propDecidable _) ⟨i,y,hi,hw,by simpa using e⟩⟩
 ·cases h
theorem HM (hu:X.A.units+64 < cLine):OpR X (compareOp .In) (rS X.K (inS false)):=by
 intro pins s σ H x y v u Q I rx ry h;obtain ⟨m,S,a,b,d,S',R,va,vb,e,q⟩:=h;unfold inS at e;split at e
 ·rename_i tu ds hi;obtain ⟨p,vs,rfl,sq,vds⟩:=eB R vb hi;split at e
  ·rename_i hf;cases e;refine xj pins s σ H x _ v u Q I rx ry ⟨p,vs,rfl,iE sq,lv va hf.1,jd vds hf.2,q m H _ (Aft.refl R) ?_⟩;rw [if_neg (by decide),t9 va hf.1 vds hf.2]
   simpa using bQ
  ·cases hd:inD a ds S with
   | none=>rw [hd] at e;cases e
   | some c=>
    rw [hd] at e;cases e;cases ry;have ha:X.A.in1.units+58 < cLine:=by show X.A.units+1+58 < cLine;omega
    rcases iE sq with hq | hq
    ·obtain ⟨its,r,pl,hz⟩:=I.list hq;obtain ⟨e,he,hb⟩:=qc I R va rx ha vds r hd;refine SeqAt.in_listAt e pl.isList (fun w hw=>he w (by simpa using hw)) ⟨.bl _,H,I,rfl,?_⟩;rw [show its.toArray.any e=its.any e by simp,hb];exact q m H _ (Aft.refl R) (by simpa using bQ)
    ·obtain ⟨its,r,pl,hz⟩:=I.tuple hq;obtain ⟨e,he,hb⟩:=qc I R va rx ha vds r hd;refine SeqAt.in_tupleAt e pl (fun w hw=>he w (by simpa using hw)) ⟨.bl _,H,I,rfl,?_⟩;rw [show its.toArray.any e=its.any e by simp,hb];exact q m H _ (Aft.refl R) (by simpa using bQ)
 ·cases e
theorem xG (hu:X.A.units+64 < cLine):OpR X (compareOp .NotIn) (rS X.K (inS true)):=by
 intro pins s σ H x y v u Q I rx ry h;obtain ⟨m,S,a,b,d,S',R,va,vb,e,q⟩:=h;unfold inS at e;split at e
 ·rename_i tu ds hi;obtain ⟨p,vs,rfl,sq,vds⟩:=eB R vb hi;split at e
  ·rename_i hf;cases e;refine pH pins s σ H x _ v u Q I rx ry ⟨p,vs,rfl,iE sq,lv va hf.1,jd vds hf.2,q m H _ (Aft.refl R) ?_⟩;rw [if_pos rfl,t9 va hf.1 vds hf.2]
   simpa using bQ
  ·cases hd:inD a ds S with
   | none=>rw [hd] at e;cases e
   | some c=>
    rw [hd] at e;cases e;cases ry;have ha:X.A.in1.units+58 < cLine:=by show X.A.units+1+58 < cLine;omega
    rcases iE sq with hq | hq
    ·obtain ⟨its,r,pl,hz⟩:=I.list hq;obtain ⟨e,he,hb⟩:=qc I R va rx ha vds r hd;refine SeqAt.notIn_listAt e pl.isList (fun w hw=>he w (by simpa using hw)) ⟨.bl _,H,I,rfl,?_⟩;rw [show its.toArray.any e=its.any e by simp,hb];exact q m H _ (Aft.refl R) (by simpa using bQ)
    ·obtain ⟨its,r,pl,hz⟩:=I.tuple hq;obtain ⟨e,he,hb⟩:=qc I R va rx ha vds r hd;refine SeqAt.notIn_tupleAt e pl (fun w hw=>he w (by simpa using hw)) ⟨.bl _,H,I,rfl,?_⟩;rw [show its.toArray.any e=its.any e by simp,hb];exact q m H _ (Aft.refl R) (by simpa using bQ)
 ·cases e
theorem zH {d:D} {v:V} (h:VD K m H d v):decide (v=V.non)=bF d:=by
 cases d with
 | non=>cases h.nons;rfl
 | bl _=>cases h.bls;rfl
 | int _=>cases h.ints;rfl
 | str _=>cases h.strs;rfl
 | tup _=>obtain ⟨_,_,e,_⟩:=h.tups;subst e;rfl
 | ref _=>obtain ⟨_,_,e⟩:=h.refs;subst e;rfl
theorem HN:OpR X (compareOp .Is) (rS X.K (isB false)):=by
 refine OpR.imp (OpR.or G8 Ho) fun x y H Q h=>?_;obtain ⟨m,S,a,b,d,S',R,va,vb,e,q⟩:=h;cases b with
 | non=>
  simp [isB] at e;obtain ⟨rfl,rfl⟩:=e;exact .inl ⟨vb.nons,q m H _ (Aft.refl R) (by rw [zH va];exact bQ)⟩
 | bl j=>
  cases a with
  | bl i=>
   simp [isB] at e;obtain ⟨rfl,rfl⟩:=e;exact .inr ⟨i,j,va.bls,vb.bls,q m H _ (Aft.refl R) bQ⟩
  | _=>simp [isB] at e
 | _=>cases a <;> simp [isB] at e
theorem xH:OpR X (compareOp .IsNot) (rS X.K (isB true)):=by
 refine OpR.imp (OpR.or Cj xr) fun x y H Q h=>?_;obtain ⟨m,S,a,b,d,S',R,va,vb,e,q⟩:=h;cases b with
 | non=>
  simp [isB] at e;obtain ⟨rfl,rfl⟩:=e;exact .inl ⟨vb.nons,q m H _ (Aft.refl R) (by rw [zH va];exact bQ)⟩
 | bl j=>
  cases a with
  | bl i=>
   simp [isB] at e;obtain ⟨rfl,rfl⟩:=e;exact .inr ⟨i,j,va.bls,vb.bls,q m H _ (Aft.refl R) (by simpa [bne] using bQ)⟩
  | _=>simp [isB] at e
 | _=>cases a <;> simp [isB] at e
theorem gM (hu:X.A.units+64 < cLine) (o:COp):OpR X (compareOp o.op) (rS X.K (av o)):=by
 cases o with
 | eq=>exact HH hu
 | ne=>exact HI hu
 | lt=>exact eS LI
 | le=>exact eS LJ
 | gt=>exact eS LK
 | ge=>exact eS LL
 | is=>exact HN
 | isnot=>exact xH
 | isin=>exact HM hu
 | notin=>exact xG hu
end
end Ev
namespace Ev
open PySem PySem.Spec PyProof.Rows L2
section
variable {X:Cx} {K:PySem.W.Frag} {m:List Addr} {H:Hp} {S:Sto}
noncomputable def ixS (d i:D) (S:Sto):Option (D × Sto):=match i with
 | .int k=>(match d with
  | .str z=>if z.length<=100000 then (atI z.cps.toList k).map fun c=>(.str ⟨#[c]⟩,S) else none
  | d=>(match aj d S with
   | some (_,ds)=>(atI ds k).map fun x=>(x,S)
   | none=>none))
 | _=>none
theorem HP {ds:List D} {vs:List V} {k:Int} {d:D} (h:VDs K m H ds vs) (e:atI ds k=some d):∃ v,atI vs k=some v/\VD K m H d v:=by
 unfold atI at e ⊢;rw [<-h.length];cases hi:ixN ds.length k with
 | none=>rw [hi] at e;cases e
 | some j=>
  rw [hi] at e;exact h.get e
theorem zI {ds:List D} {tu:Bool} {a:Addr} {vs:List V} {k:Int} {d:D} {Q:VK} (sq:SqB K tu H a vs) (vd:VDs K m H ds vs) (e:atI ds k=some d) (q:∀ v,VD K m H d v->Q v H):rIx K (.ref a) (.int k) H Q:=by
 obtain ⟨v,ev,vv⟩:=HP vd e;cases tu with
 | false=>exact .inl ⟨a,vs,k,v,rfl,rfl,sq,ev,q v vv⟩
 | true=>exact .inr (.inl ⟨a,vs,k,v,rfl,rfl,.of sq,ev,q v vv⟩)
theorem Op:IxR X (rS X.K ixS):=by
 intro value slice pins s σ H x y v u Q I rx ry h hs;refine yV value slice pins s σ H x y v u Q I rx ry ?_ hs;obtain ⟨m,S,a,b,d,S',R,va,vb,e,q⟩:=h;cases b with
 | int k=>
  cases vb.ints
  have main:∀ r,aj a S=some r->(atI r.2 k).map (fun x=>(x,S))=some (d,S')->rIx X.K x (.int k) H Q:=by
   intro r hi e;cases ha:atI r.2 k with
   | none=>rw [ha] at e;cases e
   | some z=>
    rw [ha] at e;cases e;obtain ⟨p,vs,rfl,sq,vds⟩:=eB (tu:=r.1) (ds:=r.2) R va hi;exact zI sq vds ha fun v vv=>q m H v (Aft.refl R) vv
  cases a with
  | str z=>
   simp only [ixS] at e;split at e
   ·rename_i hl;cases hc:atI z.cps.toList k with
    | none=>rw [hc] at e;cases e
    | some c=>
     rw [hc] at e;cases e;exact .inr (.inr ⟨z,k,c,va.strs,rfl,by rw [sizeLine_eq];omega,hc,q m H _ (Aft.refl R) pY⟩)
   ·cases e
  | tup ds=>exact main (true,ds) rfl e
  | ref n=>
   simp only [ixS] at e;cases hi:aj (.ref n) S with
   | none=>rw [hi] at e;cases e
   | some r=>rw [hi] at e;exact main r hi e
  | _=>simp [ixS,aj] at e
 | _=>simp [ixS] at e
noncomputable def ua (x:XA) (y:XE):XE:=fun ρ S=>bnd (x ρ S) fun ds S1=>bnd (y ρ S1) fun i S2=>match i with
 | .int k=>(atI ds k).map fun d=>(d,S2)
 | _=>none
theorem HQ {x:XA} {y:XE} {σ:L2.St} {H:Hp} {Q:VK} (h:tE K (ua x y) σ H Q):tOp (rIx K) (eR K x) (tE K y) σ H Q:=by
 obtain ⟨m,ρ,S,d,S',E,R,e,q⟩:=h;obtain ⟨ds,S1,e1,e⟩:=ae e;obtain ⟨i,S2,e2,e⟩:=ae e;refine ⟨m,ρ,S,ds,S1,E,R,e1,fun m1 H1 a vs A1 sq n1 n2 n3 vd=>⟨m1,ρ,S1,i,S2,E.mono R A1.ext,A1.rel,e2,fun m2 H2 w A2 vb=>?_⟩⟩;cases i with
 | int k=>
  cases vb.ints;dsimp only at e;cases ha:atI ds k with
  | none=>rw [ha] at e;cases e
  | some z=>
   rw [ha] at e;cases e;exact zI (tu:=false) (show SqL K H2 a vs from SqL.of (A2.ext.keep _ _ sq n1)) (vd.mono A1.rel A2.ext) ha fun v vv=>q m2 H2 v (A1.trans A2) vv
 | _=>cases e
noncomputable def gZ (ds:List D) (lo hi:Option Int):List D:=(ds.drop (HT.sIx ds.length 0 lo)).take (HT.sIx ds.length ds.length hi - HT.sIx ds.length 0 lo)
theorem ub {ds:List D} {vs:List V} (h:VDs K m H ds vs) (lo hi:Option Int):VDs K m H (gZ ds lo hi) (lY vs lo hi):=by
 unfold gZ lY;rw [<-h.length];exact (h.drop _).take _
noncomputable def slS (lo hi:Option Int) (d:D) (S:Sto):Option (D × Sto):=match d with
 | .tup ds=>some (.tup (gZ ds lo hi),S)
 | .ref n=>(match am S n with
  | some ds=>some (.ref S.length,S++[.lst (gZ ds lo hi)])
  | none=>none)
 | _=>none
noncomputable def rSl (K:PySem.W.Frag):V->Option Int->Option Int->Hp->VK->Prop:=fun v lo hi H Q=>∃ m S a d S',Rel K m S H/\VD K m H a v/\slS lo hi a S=some (d,S')/\∀ m' H' u,Aft K m H S' m' H'->VD K m' H' d u->Q u H'
theorem uc {vs:List V} {lo hi:Option Int} (h:HT.sIx vs.length 0 lo=0/\HT.sIx vs.length vs.length hi=vs.length):lY vs lo hi=vs:=by
 unfold lY;rw [h.1,h.2];simp
theorem Oq:SlR X (rSl X.K):=by
 intro pins s σ H x v vl vu lo hi sl Q I rx hs pl pu h;refine (SlR.or CN Cv) pins s σ H x v vl vu lo hi sl Q I rx hs pl pu ?_;obtain ⟨m,S,a,d,S',R,va,e,q⟩:=h;cases a with
 | tup ds=>
  cases e;obtain ⟨p,vs,rfl,sq,vds⟩:=va.tups;refine .inl ⟨p,vs,rfl,.of sq,fun hw=>?_,fun _=>ls R (ub vds lo hi) q⟩;have:=ub vds lo hi;rw [uc hw] at this;exact q m H _ (Aft.refl R) (pZ sq this)
 | ref n=>
  simp only [slS] at e;cases hn:am S n with
  | none=>rw [hn] at e;cases e
  | some ds=>
   rw [hn] at e;cases e;obtain ⟨p,vs,hp,sq,vds⟩:=R.seq hn;obtain ⟨p',hp',rfl⟩:=va.refs;rw [hp] at hp';cases hp';exact .inr ⟨p,vs,rfl,sq,p0 R (ub vds lo hi) q⟩
 | _=>cases e
noncomputable abbrev XO:=Rho->Sto->Option (Option Int × Sto)
noncomputable def tOI (K:PySem.W.Frag) (x:XO):TO:=fun σ H Q=>∃ m ρ S o S',EnvR K m H ρ σ/\Rel K m S H/\x ρ S=some (o,S')/\∀ m' H',Aft K m H S' m' H'->Q o H'
noncomputable def ud:XO:=fun _ S=>some (none,S)
noncomputable def ue (x:XE):XO:=fun ρ S=>bnd (x ρ S) fun d S1=>match d with
 | .int i=>some (some i,S1)
 | _=>none
theorem C6 {σ:L2.St} {H:Hp} {Q:Option Int->Hp->Prop} (h:tOI K ud σ H Q):vt σ H Q:=by
 obtain ⟨m,ρ,S,o,S',E,R,e,q⟩:=h;cases e;exact q m H (Aft.refl R)
theorem C7 {x:XE} {σ:L2.St} {H:Hp} {Q:Option Int->Hp->Prop} (h:tOI K (ue x) σ H Q):FR (tE K x) σ H Q:=by
 obtain ⟨m,ρ,S,o,S',E,R,e,q⟩:=h;obtain ⟨d,S1,e1,e⟩:=ae e;refine ⟨m,ρ,S,d,S1,E,R,e1,fun m1 H1 v A1 vd=>?_⟩;cases d with
 | int i=>cases e;exact ⟨i,vd.ints,q m1 H1 A1⟩
 | _=>cases e
theorem PO.imp {e:Option Expr} {t t':TO} (h:PO X e t) (f:∀ σ H Q,t' σ H Q->t σ H Q):PO X e t':=fun pins s σ H Q I q=>h pins s σ H Q I (f σ H Q q)
noncomputable def xSl (x:XE) (lo hi:XO):XE:=fun ρ S=>bnd (x ρ S) fun d S1=>bnd (lo ρ S1) fun l S2=>bnd (hi ρ S2) fun h S3=>slS l h d S3
theorem L7 {x:XE} {lo hi:XO} {σ:L2.St} {H:Hp} {Q:VK} (h:tE K (xSl x lo hi) σ H Q):tSl (rSl K) (tE K x) (tOI K lo) (tOI K hi) σ H Q:=by
 obtain ⟨m,ρ,S,d,S',E,R,e,q⟩:=h;obtain ⟨a,S1,e1,e⟩:=ae e;obtain ⟨l,S2,e2,e⟩:=ae e;obtain ⟨u,S3,e3,e⟩:=ae e;refine ⟨m,ρ,S,a,S1,E,R,e1,fun m1 H1 v A1 vd=>⟨m1,ρ,S1,l,S2,E.mono R A1.ext,A1.rel,e2,fun m2 H2 A2=>⟨m2,ρ,S2,u,S3,E.mono R (A1.trans A2).ext,A2.rel,e3,fun m3 H3 A3=>?_⟩⟩⟩;exact ⟨m3,S3,a,d,S',A3.rel,vd.mono A1.rel (A2.trans A3).ext,e,fun m4 H4 w A4 vw=>q m4 H4 w (((A1.trans A2).trans A3).trans A4) vw⟩
noncomputable def mq (d:D) (S:Sto):Option (Bool × Sto):=match d with
 | .non=>some (false,S)
 | .bl b=>some (b,S)
 | .int i=>some (i != 0,S)
 | .str y=>if y.length<=100000 then some ((y.length:Int) != 0,S) else none
 | .tup ds=>some (!ds.isEmpty,S)
 | .ref n=>(match am S n with
  | some ds=>some (!ds.isEmpty,S)
  | none=>none)
theorem mr {ds:List D} {vs:List V} (h:VDs K m H ds vs):ds.isEmpty=vs.isEmpty:=by
 have:=h.length;cases ds <;> cases vs <;> simp at this ⊢
theorem HR {d:D} {v:V} {b:Bool} {S':Sto} (R:Rel K m S H) (vd:VD K m H d v) (e:mq d S=some (b,S')):S'=S/\Cn K v H b:=by
 cases d with
 | non=>cases e;cases vd.nons;exact ⟨rfl,rfl⟩
 | bl _=>cases e;cases vd.bls;exact ⟨rfl,rfl⟩
 | int _=>cases e;cases vd.ints;exact ⟨rfl,rfl⟩
 | str y=>
  simp only [mq] at e;split at e
  ·rename_i hl;cases e;cases vd.strs;exact ⟨rfl,by rw [sizeLine_eq];omega,rfl⟩
  ·cases e
 | tup ds=>
  cases e;obtain ⟨a,vs,rfl,sq,vds⟩:=vd.tups;exact ⟨rfl,.inr (.inl ⟨vs,.of sq,by rw [mr vds]⟩)⟩
 | ref n=>
  simp only [mq] at e;cases hn:am S n with
  | none=>rw [hn] at e;cases e
  | some ds=>
   rw [hn] at e;cases e;obtain ⟨p,vs,hp,sq,vds⟩:=R.seq hn;obtain ⟨p',hp',rfl⟩:=vd.refs;rw [hp] at hp';cases hp';exact ⟨rfl,.inl ⟨vs,sq,by rw [mr vds]⟩⟩
noncomputable def C8 (x:XE):XT:=fun ρ S=>bnd (x ρ S) fun d S1=>mq d S1
theorem HS {x:XE} {σ:L2.St} {H:Hp} {Q:Bool->Hp->Prop} (h:tT K (C8 x) σ H Q):(tE K x) σ H fun v H'=>∃ k,Cn K v H' k/\Q k H':=by
 obtain ⟨m,ρ,S,b,S',E,R,e,q⟩:=h;obtain ⟨d,S1,e1,e⟩:=ae e;refine ⟨m,ρ,S,d,S1,E,R,e1,fun m1 H1 v A1 vd=>?_⟩;obtain ⟨rfl,t⟩:=HR A1.rel vd e;exact ⟨b,t,q m1 H1 A1⟩
noncomputable def xB (x:XE):XT:=fun ρ S=>bnd (x ρ S) fun d S1=>match d with
 | .bl b=>some (b,S1)
 | _=>none
theorem L8 {x:XE} {t:TE} {σ:L2.St} {H:Hp} {Q:Bool->Hp->Prop} (h:tT K (xB x) σ H Q):(tE K x) σ H fun v H'=>∃ k,v = .bl k/\Q k H':=by
 obtain ⟨m,ρ,S,b,S',E,R,e,q⟩:=h;obtain ⟨d,S1,e1,e⟩:=ae e;refine ⟨m,ρ,S,d,S1,E,R,e1,fun m1 H1 v A1 vd=>?_⟩;cases d with
 | bl k=>cases e;exact ⟨b,vd.bls,q m1 H1 A1⟩
 | _=>cases e
noncomputable def ce (_:Bool) (ds:List D) (S:Sto):Option (D × Sto):=some (.int ds.length,S)
noncomputable def jQ (_:Bool) (ds:List D) (S:Sto):Option (D × Sto):=some (.tup ds,S)
noncomputable def xI:D->Bool
 | .bl _=>true
 | _=>false
noncomputable def nV:D->Bool
 | .bl b=>b
 | _=>false
noncomputable def nW (tu:Bool) (ds:List D) (S:Sto):Option (D × Sto):=if tu=false/\ds.all xI=true then some (.bl (ds.all nV),S) else none
noncomputable def nX (tu:Bool) (ds:List D) (S:Sto):Option (D × Sto):=if tu=false/\ds.all xI=true then some (.bl (ds.any nV),S) else none
noncomputable def r1 (r:V->Hp->VK->Prop):List V->Hp->VK->Prop
 | [x],H,Q=>r x H Q
 | _,_,_=>False
theorem cM {r:V->Hp->VK->Prop} {xs:List V} {H:Hp} {Q:VK} (h:r1 r xs H Q):∃ x,xs=[x]/\r x H Q:=by
 match xs,h with
 | [x],h=>exact ⟨x,rfl,h⟩
theorem xJ:aR X (.builtin "len") (r1 (rSq X.K ce)):=by
 refine aR.imp pJ fun xs H Q h=>?_;obtain ⟨_,rfl,m,S,tu,ds,a,vs,d,S',R,rfl,sq,vd,e,q⟩:=cM h;cases e;exact ⟨a,vs,rfl,iE sq,q m H _ (Aft.refl R) (by rw [vd.length];exact bq)⟩
theorem xK:aR X (.type "tuple") (r1 (rSq X.K jQ)):=by
 refine aR.imp nT fun xs H Q h=>?_;obtain ⟨_,rfl,m,S,tu,ds,a,vs,d,S',R,rfl,sq,vd,e,q⟩:=cM h;cases e;cases tu with
 | false=>exact ⟨a,vs,rfl,.inl ⟨sq,ls R vd q⟩⟩
 | true=>exact ⟨a,vs,rfl,.inr ⟨.of sq,q m H _ (Aft.refl R) (pZ sq vd)⟩⟩
theorem uf:∀ {ds:List D} {vs:List V},VDs K m H ds vs->ds.all xI=true->vs=(ds.map nV).map V.bl
 | [],vs,h,_=>by rw [VDs] at h;rw [h];rfl
 | d::ds,vs,h,f=>by
  rw [VDs] at h;obtain ⟨x,r,rfl,p,q⟩:=h;rw [ZS,bAE] at f;cases d with
  | bl b=>rw [p.bls,uf q f.2];rfl
  | _=>simp [xI] at f
theorem HU (ds:List D):(ds.map nV).all id=ds.all nV:=by rw [ZP];rfl
theorem HV (ds:List D):(ds.map nV).any id=ds.any nV:=by rw [Xo];rfl
theorem xL (hc:X.calm=true):aR X (.builtin "all") (r1 (rSq X.K nW)):=by
 refine aR.imp (xo hc) fun xs H Q h=>?_;obtain ⟨_,rfl,m,S,tu,ds,a,vs,d,S',R,rfl,sq,vd,e,q⟩:=cM h;unfold nW at e;split at e
 ·rename_i hf;cases e;obtain ⟨rfl,hf⟩:=hf;refine ⟨a,ds.map nV,rfl,?_,q m H _ (Aft.refl R) (by rw [HU];exact bQ)⟩;rw [<-uf vd hf];exact sq
 ·cases e
theorem xM (hc:X.calm=true):aR X (.builtin "any") (r1 (rSq X.K nX)):=by
 refine aR.imp (xq hc) fun xs H Q h=>?_;obtain ⟨_,rfl,m,S,tu,ds,a,vs,d,S',R,rfl,sq,vd,e,q⟩:=cM h;unfold nX at e;split at e
 ·rename_i hf;cases e;obtain ⟨rfl,hf⟩:=hf;refine ⟨a,ds.map nV,rfl,?_,q m H _ (Aft.refl R) (by rw [HV];exact bQ)⟩;rw [<-uf vd hf];exact sq
 ·cases e
noncomputable def rTm (K:PySem.W.Frag) (f:Bool->List D->Option (List D)):V->Hp->VK->Prop:=fun v H Q=>∃ m S tu ds a vs es,Rel K m S H/\v = .ref a/\SqB K tu H a vs/\VDs K m H ds vs/\f tu ds=some es ∧
 ∀ m' H' p ws,Aft K m H S m' H'->H' p=some (.lst ws)->p ∉ m'->(∀ b,b ∈ m->b ≠ p)->H p=none->VDs K m' H' es ws->Q (.ref p) H'
theorem mv:aR X (.type "list") (r1 (rTm X.K fun _ ds=>some ds)):=by
 refine aR.imp pK fun xs H Q h=>?_;obtain ⟨_,rfl,m,S,tu,ds,a,vs,es,R,rfl,sq,vd,e,q⟩:=cM h;cases e;exact ⟨a,vs,rfl,iE sq,lu R vd q⟩
noncomputable def zJ:D->D->Sto->Option (D × Sto)
 | .int i,.int j,S=>some (.int (if j > i then j else i),S)
 | _,_,_=>none
noncomputable def zK:D->D->Sto->Option (D × Sto)
 | .int i,.int j,S=>some (.int (if j < i then j else i),S)
 | _,_,_=>none
noncomputable def two (f:D->D->Sto->Option (D × Sto)):List D->Sto->Option (D × Sto)
 | [a,b],S=>f a b S
 | _,_=>none
theorem ug {a b:D} {vs:List V} (h:VDs K m H [a,b] vs):∃ v w,vs=[v,w]/\VD K m H a v/\VD K m H b w:=by
 rw [VDs] at h;obtain ⟨v,r,rfl,p,q⟩:=h;rw [VDs] at q;obtain ⟨w,r',rfl,p',q'⟩:=q;rw [VDs] at q';subst q';exact ⟨v,w,rfl,p,p'⟩
theorem HW {a:D} {vs:List V} (h:VDs K m H [a] vs):∃ v,vs=[v]/\VD K m H a v:=by
 rw [VDs] at h;obtain ⟨v,r,rfl,p,q⟩:=h;rw [VDs] at q;subst q;exact ⟨v,rfl,p⟩
theorem rJ {f:D->D->Sto->Option (D × Sto)} {as:List D} {r:D × Sto} (h:two f as S=some r):∃ a b,as=[a,b]/\f a b S=some r:=by
 match as,h with
 | [a,b],h=>exact ⟨a,b,rfl,h⟩
theorem uh (hc:X.calm=true):aR X (.builtin "max") (rSA X.K (two zJ)):=by
 refine aR.imp (xa hc) fun xs H Q h=>?_;obtain ⟨m,S,as,d,S',R,vd,e,q⟩:=h;obtain ⟨a,b,rfl,e2⟩:=rJ e;obtain ⟨v,w,rfl,p,p'⟩:=ug vd;cases a <;> cases b <;> simp [zJ] at e2;obtain ⟨rfl,rfl⟩:=e2;exact ⟨_,_,by rw [p.ints,p'.ints],q m H _ (Aft.refl R) bq⟩
theorem ui (hc:X.calm=true):aR X (.builtin "min") (rSA X.K (two zK)):=by
 refine aR.imp (xc hc) fun xs H Q h=>?_;obtain ⟨m,S,as,d,S',R,vd,e,q⟩:=h;obtain ⟨a,b,rfl,e2⟩:=rJ e;obtain ⟨v,w,rfl,p,p'⟩:=ug vd;cases a <;> cases b <;> simp [zK] at e2;obtain ⟨rfl,rfl⟩:=e2;exact ⟨_,_,by rw [p.ints,p'.ints],q m H _ (Aft.refl R) bq⟩
inductive Ty where | int | bool | tuple | list | str
noncomputable def Ty.nm:Ty->String
 | .int => "int" | .bool => "bool" | .tuple => "tuple" | .list => "list" | .str => "str"
noncomputable def tyN (d:D) (S:Sto):Option String:=match d with
 | .non=>some "NoneType" | .bl _=>some "bool" | .int _=>some "int" | .str _=>some "str" | .tup _=>some "tuple"
 | .ref n=>(match S[n]? with
  | some (.lst _)=>some "list"
  | some (.frz _)=>some "list"
  | some (.dic _ _)=>some "dict"
  | none=>none)
noncomputable def dC (t:Ty) (n:String):Bool:=n == t.nm || (match t with | .int=>n == "bool" | _=>false)
noncomputable def mw (t:Ty) (d:D) (S:Sto):Option (D × Sto):=(tyN d S).map fun n=>(.bl (dC t n),S)
theorem C9 (K:PySem.W.Frag) (t:Ty):(PySem.W.kitOne K (.type "NoneType") (.type t.nm)=some (dC t "NoneType"))/\(PySem.W.kitOne K (.type "bool") (.type t.nm)=some (dC t "bool"))/\(PySem.W.kitOne K (.type "int") (.type t.nm)=some (dC t "int")) ∧
  (PySem.W.kitOne K (.type "str") (.type t.nm)=some (dC t "str"))/\(PySem.W.kitOne K (.type "tuple") (.type t.nm)=some (dC t "tuple"))/\(PySem.W.kitOne K (.type "list") (.type t.nm)=some (dC t "list"))/\(PySem.W.kitOne K (.type "dict") (.type t.nm)=some (dC t "dict")):=by
 cases t <;> exact ⟨by kernel_rfl,by kernel_rfl,by kernel_rfl,by kernel_rfl,by kernel_rfl,by kernel_rfl,by kernel_rfl⟩
theorem L9 {d:D} {v:V} {n:String} (R:Rel K m S H) (vd:VD K m H d v) (e:tyN d S=some n):TyOf K H v (.type n):=by
 cases d with
 | non=>cases e;cases vd.nons;exact .non
 | bl _=>cases e;cases vd.bls;exact .bl _
 | int _=>cases e;cases vd.ints;exact .int _
 | str _=>cases e;cases vd.strs;exact .str _
 | tup ds=>cases e;obtain ⟨a,vs,rfl,sq,_⟩:=vd.tups;exact .tup sq
 | ref k=>
  simp only [tyN] at e;obtain ⟨a,ha,rfl⟩:=vd.refs;cases hk:S[k]? with
  | none=>rw [hk] at e;cases e
  | some o=>
   rw [hk] at e;obtain ⟨a',ha',r⟩:=R.ob k o hk;rw [ha] at ha';cases ha';cases o with
   | lst ds=>cases e;obtain ⟨vs,h,_⟩:=r;exact .lst h
   | frz ds=>cases e;obtain ⟨o,vs,h,_⟩:=r;exact .frz h
   | dic ks ds=>cases e;obtain ⟨vs,h,_⟩:=r;exact .dK h
theorem zL {d:D} {n:String} (e:tyN d S=some n):n = "NoneType"\/n = "bool"\/n = "int"\/n = "str"\/n = "tuple"\/n = "list"\/n = "dict" := by
 cases d with
 | ref k=>
  simp only [tyN] at e;cases hk:S[k]? with
  | none=>rw [hk] at e;cases e
  | some o=>rw [hk] at e;cases o <;> cases e <;> simp
 | _=>cases e <;> simp
theorem HX {n:String} (K:PySem.W.Frag) (t:Ty) (h:n = "NoneType"\/n = "bool"\/n = "int"\/n = "str"\/n = "tuple"\/n = "list"\/n = "dict"):PySem.W.kitOne K (.type n) (.type t.nm)=some (dC t n):=by
 obtain ⟨a,b,c,d,e,f,g⟩:=C9 K t;rcases h with rfl | rfl | rfl | rfl | rfl | rfl | rfl <;> assumption
noncomputable def Ma (K:PySem.W.Frag) (t:Ty) (te:TE):TE:=tCB (FW K) (fC te (fC (tC (.ty t.nm)) pC))
theorem Da {t:Ty} {x:XE} {σ:L2.St} {H:Hp} {Q:VK} (h:tE K (xUn (mw t) x) σ H Q):Ma K t (tE K x) σ H Q:=by
 obtain ⟨m,ρ,S,d,S',E,R,e,q⟩:=h;obtain ⟨a,S1,e1,e⟩:=ae e;refine ⟨m,ρ,S,a,S1,E,R,e1,fun m1 H1 v A1 va=>?_⟩;unfold mw at e;cases hn:tyN a S1 with
 | none=>rw [hn] at e;cases e
 | some n=>
  rw [hn] at e;cases e;exact ⟨v,t.nm,_,_,rfl,L9 A1.rel va hn,HX K t (zL hn),q m1 H1 _ A1 bQ⟩
end
end Ev
namespace Ev
open PySem PySem.Spec PyProof.Rows L2
open PySem.W (KasT kas_sort kas_asc kas_desc kas_tail3 kas_descPart kas_count kas_place kas_bin kas_rev kas_ask KatTups)
noncomputable def eT {α:Type} (lt:Nat->Nat->Bool):KasT α->α
 | .ret a=>a
 | .ask i j k=>eT lt (k (lt i j))
noncomputable def KT {α:Type} (n:Nat) (P:α->Prop):KasT α->Prop
 | .ret a=>P a
 | .ask i j k=>i < n/\j < n/\∀ b,KT n P (k b)
theorem KT.bind {α β:Type} {n:Nat} {P:α->Prop} {R:β->Prop} {f:α->KasT β} (hf:∀ a,P a->KT n R (f a)):∀ {t:KasT α},KT n P t->KT n R (t.bind f)
 | .ret a,h=>hf a h
 | .ask i j k,h=>⟨h.1,h.2.1,fun b=>KT.bind hf (h.2.2 b)⟩
theorem KT.run {α:Type} {n:Nat} {P:α->Prop} {lt:Nat->Nat->Bool}:∀ {t:KasT α},KT n P t->P (eT lt t)
 | .ret a,h=>h
 | .ask i j k,h=>KT.run (t:=k (lt i j)) (h.2.2 (lt i j))
theorem rK {α:Type} {n:Nat} {P:α->Prop} {lt:Nat->Nat->Bool} {cmp:Nat->Nat->(Bool->Shared->Prop)->Shared->Prop} {s:Shared} (hc:∀ i j,i < n->j < n->∀ C:Bool->Shared->Prop,C (lt i j) s->cmp i j C s) {Q:α->Shared->Prop} :
  ∀ {t:KasT α},KT n P t->Q (eT lt t) s->t.kasWp cmp Q s
 | .ret a,_,q=>q
 | .ask i j k,h,q=>hc i j h.1 h.2.1 _ (rK hc (h.2.2 (lt i j)) q)
noncomputable def Pm (n:Nat) (p:Array Nat):Prop:=p.Perm (Y0 (Zj n))
theorem Pm.at {n i:Nat} {p:Array Nat} (h:Pm n p) (hn:0 < n):p.getD i 0 < n:=by
 by_cases hi:i < p.size
 ·have e:p.getD i 0=p[i]:=by simp [Array.getD,hi]
  rw [e];have hm:p[i] ∈ p:=Array.getElem_mem hi;have:=h.mem_iff.mp hm
  simpa using this
 ·have e:p.getD i 0=0:=by simp [Array.getD,hi]
  omega
theorem Pm.rev {n i j:Nat} {p:Array Nat} (h:Pm n p):Pm n (kas_rev p i j):=(mirror_perm p i j _).trans h
theorem uj {n:Nat} {p:Array Nat} (h:Pm n p) (hn:0 < n):∀ f m,KT n (fun _=>True) (kas_asc p f m)
 | 0,_=>trivial
 | f+1,m=>⟨h.at hn,h.at hn,fun b=>by
  cases b with
  | true=>exact trivial
  | false=>exact uj h hn f (m+1)⟩
theorem lw {n:Nat} (hn:0 < n):∀ f (p:Array Nat) m q,Pm n p->KT n (fun r:Array Nat × Nat × Nat=>Pm n r.1) (kas_desc f p m q)
 | 0,p,m,q,h=>h
 | f+1,p,m,q,h=>⟨h.at hn,h.at hn,fun b=>by
  cases b with
  | true=>
   show KT n _ (if q > 0 then kas_desc f (kas_rev p (m - (q+1)) m) (m+1) 0 else kas_desc f p (m+1) 0);split
   ·exact lw hn f _ _ _ h.rev
   ·exact lw hn f _ _ _ h
  | false=>exact ⟨h.at hn,h.at hn,fun d=>by
   cases d with
   | true=>exact h
   | false=>exact lw hn f _ _ _ h⟩⟩
theorem rL {n:Nat} {p:Array Nat} (hn:0 < n) (h:Pm n p) (m r:Nat):KT n (fun r:Nat × Array Nat=>Pm n r.2) (kas_tail3 m r p):=KT.bind (P:=fun _=>True) (f:=fun m=>KasT.ret (m,kas_rev p 0 _)) (fun _ _=>(show KT n (fun r:Nat × Array Nat=>Pm n r.2) (KasT.ret (_,kas_rev p 0 _)) from h.rev)) (uj h.rev hn _ _)
theorem ku {n:Nat} {p:Array Nat} (hn:0 < n) (h:Pm n p) (m r:Nat):KT n (fun r:Nat × Array Nat=>Pm n r.2) (kas_descPart m r p):=KT.bind (fun a ha=>by
 show KT n _ (if a.2.2 > 0 then _ else _);split
 ·exact rL hn (Pm.rev ha) _ _
 ·exact rL hn ha _ _) (lw hn _ _ _ _ h)
theorem zM {n:Nat} {p:Array Nat} (hn:0 < n) (h:Pm n p) (r:Nat):KT n (fun r:Nat × Array Nat=>Pm n r.2) (kas_count r p):=KT.bind (fun a _=>by
 show KT n _ (if (a == r)=true then _ else if a > 1 then _ else _);split
 ·exact h
 ·split
  ·exact ⟨h.at hn,h.at hn,fun b=>by
    cases b with
    | true=>exact h
    | false=>exact ku hn h.rev _ _⟩
  ·exact ku hn h _ _) (uj h hn _ _)
theorem my {n:Nat} {p:Array Nat} (hn:0 < n) (h:Pm n p) (m:Nat):∀ f l r,KT n (fun _=>True) (kas_place p m f l r)
 | 0,_,_=>trivial
 | f+1,l,r=>by
  show KT n _ (if l ≥ r then _ else _);split
  ·exact trivial
  ·exact ⟨h.at hn,h.at hn,fun b=>by
    cases b with
    | true=>exact my hn h m f _ _
    | false=>exact my hn h m f _ _⟩
theorem zN {n:Nat} (hn:0 < n):∀ f (p:Array Nat) m,Pm n p->KT n (Pm n) (kas_bin f p m)
 | 0,p,_,h=>h
 | f+1,p,m,h=>KT.bind (fun l _=>zN hn f _ _ ((bubble_perm p m _).trans h)) (my hn h m _ _ _)
theorem qd {n:Nat} (hn:0 < n):KT n (Pm n) (kas_sort n):=KT.bind (fun r hr=>by
 show KT n _ (if r.1 < n then _ else _);split
 ·exact zN hn _ _ _ hr
 ·exact hr) (zM hn (Array.Perm.refl _) n)
section
variable {prog:Program} {w:World} {A:Around} {E:Value->Shared->Prop} {s:Shared}
theorem qe {a:Addr} {vs:List Value} {n:Nat} {P:PySem.Fin->Shared->Prop} (ho:s.heap.get? a=some (seqObj "list" vs.toArray n)) (h64:vs.length < 64) (κ:SortKind) (lt:Nat->Nat->Bool)
  (hk:2<=vs.length->∀ (Q:SortKind->Shared->Prop),Q κ { s with heap:=((s.heap.update a (Obj.mapSeq fun _=>#[])).push (seqObj "tuple" vs.toArray 0)).push (seqObj "list" #[] 0) }->wpAny (model prog w) A (keyKind' vs.toArray) Q E { s with heap:=((s.heap.update a (Obj.mapSeq fun _=>#[])).push (seqObj "tuple" vs.toArray 0)).push (seqObj "list" #[] 0) })
  (hlt:∀ i j,i < vs.length->j < vs.length->∀ C:Bool->Shared->Prop,C (lt i j) { s with heap:=((s.heap.update a (Obj.mapSeq fun _=>#[])).push (seqObj "tuple" vs.toArray 0)).push (seqObj "list" #[] 0) } ->
   kas_ask prog w A κ vs i j C { s with heap:=((s.heap.update a (Obj.mapSeq fun _=>#[])).push (seqObj "tuple" vs.toArray 0)).push (seqObj "list" #[] 0) })
  (h:P (.done (.ret .none)) { s with heap:=sortedHeap s.heap a vs (if vs.length < 2 then vs.toArray else Y0 ((eT lt (kas_sort vs.length)).toList.map fun i=>vs.getD i Value.none)) }) :
  wpAny (model prog w) A (Builtin.«list.sort» ⟨[.ref a],[]⟩) P E s:=by
 rw [list_sort_plain];have ha:a < s.heap.objs.size:=Zs ho;refine wpAny_bind (listItems_at ho rfl ?_);refine wpAny_bind (listUpdate_at ho rfl ?_);obtain ⟨e1,ho1⟩:∃ e1,(s.heap.update a (Obj.mapSeq fun _=>#[])).get? a=some (seqObj "list" #[] e1):=⟨_,get?_update_seq ho (fun _=>#[])⟩;refine wpAny_bind (seqEpoch_at ho1 rfl ?_);refine wpAny_bind (wpAny_newTuple ?_);refine wpAny_bind (wpAny_newList ?_);refine wpAny_holding ?_
 have ho6:(((s.heap.update a (Obj.mapSeq fun _=>#[])).push (seqObj "tuple" vs.toArray 0)).push (seqObj "list" #[] 0)).get? a=some (seqObj "list" #[] e1):=by
  rw [Xp _ _ _ (by rw [size_push',YW];exact ZC (YR ha)),Xp _ _ _ (by rw [YW];exact ZC ha)];exact ho1
 show wpAny (model prog w) A _ P E { s with heap:=((s.heap.update a (Obj.mapSeq fun _=>#[])).push (seqObj "tuple" vs.toArray 0)).push (seqObj "list" #[] 0) };dsimp only;have hsz:vs.toArray.size=vs.length:=by simp
 by_cases h2:vs.toArray.size < 2
 ·rw [if_pos h2,if_pos h2];refine wpAny_bind (wpAny_pure ?_);rw [StateT.run_pure];refine wpAny_bind (wpAny_pure ?_);dsimp only;refine wpAny_bind (seqEpoch_at ho6 rfl ?_);refine wpAny_bind (listUpdate_at ho6 rfl ?_ (hsz2:=by rw [Array.size_map];show (pairsOf vs).size<=_;rw [pairsOf_size,sizeLine_eq];omega));simp only [bne_self_eq_false,Z3,if_false];rw [if_pos (by rw [<-hsz];exact h2)] at h
  have e:Array.map (fun x:Keyed=>x.2) (vs.toArray.zip vs.toArray)=vs.toArray:=by
   apply Array.toList_inj.mp;rw [Array.toList_map,Array.toList_zip,List.map_snd_zip (by simp)]
  refine wpAny_pure ?_;show P _ { s with heap:=sortedHeap s.heap a vs (Array.map (fun x:Keyed=>x.2) (vs.toArray.zip vs.toArray)) };rw [e];exact h
 ·have h2':2<=vs.length:=by omega
  rw [if_neg h2,if_neg h2];rw [if_neg (by omega)] at h;refine wpAny_bind (hk h2' _ ?_)
  refine wpAny_bind (wpAny_mono (PySem.W.kat_run (κ:=κ) (ks:=vs) (Q:=fun st' s'=>s'={ s with heap:=((s.heap.update a (Obj.mapSeq fun _=>#[])).push (seqObj "tuple" vs.toArray 0)).push (seqObj "list" #[] 0) }/\arrOf st'=(eT lt (kas_sort vs.length)).map (PySem.W.kas_item (vs.toArray.zip vs.toArray))/\(eT lt (kas_sort vs.length)).size=vs.length/\failedOf st'=none)
   (G:=fun p s'=>s'={ s with heap:=((s.heap.update a (Obj.mapSeq fun _=>#[])).push (seqObj "tuple" vs.toArray 0)).push (seqObj "list" #[] 0) }/\p=eT lt (kas_sort vs.length)) rfl h2' h64 (fun p st' s' a1 a2 a3 a4=>⟨a4.1,a4.2 ▸ a2,a4.2 ▸ a1,a3⟩) (rK hlt (qd (by omega)) ⟨rfl,rfl⟩)) ?_ fun _ _ e=>e)
  rintro ⟨⟨⟩,st'⟩ s' ⟨rfl,har,hsz',hf⟩;dsimp only;have hout:=PySem.W.kat_snds rfl har;refine wpAny_bind (seqEpoch_at ho6 rfl ?_);rw [hout];refine wpAny_bind (listUpdate_at ho6 rfl ?_ (hsz2:=by rw [Zi,Za,ZN,hsz',sizeLine_eq];omega));rw [hf];simp only [bne_self_eq_false,Z3,if_false];exact wpAny_pure h
end
section
variable {prog:Program} {w:World} {A:Around} {E:Value->Shared->Prop} {s:Shared}
theorem xN {l:Addr} {vs:List Value} {Q:Value->Shared->Prop} (hl:s.heap.IsList l vs.toArray) (h64:vs.length < 64) (κ:SortKind) (lt:Nat->Nat->Bool)
  (hk:2<=vs.length->∀ (A:Around) (s':Shared),(∀ b o,s.heap.get? b=some o->s'.heap.get? b=some o)->∀ (E:Value->Shared->Prop) (Q:SortKind->Shared->Prop),Q κ s'->wpAny (model prog w) A (keyKind' vs.toArray) Q E s')
  (hlt:∀ (A:Around) (s':Shared),(∀ b o,s.heap.get? b=some o->s'.heap.get? b=some o)->∀ i j,i < vs.length->j < vs.length->∀ C:Bool->Shared->Prop,C (lt i j) s'->kas_ask prog w A κ vs i j C s')
  (h:Q (.ref (s.heap.objs.size+1)) { s with heap:=sortedAll s.heap vs (if vs.length < 2 then vs.toArray else Y0 ((eT lt (kas_sort vs.length)).toList.map fun i=>vs.getD i Value.none)) }) :
  wpAny (model prog w) A (call (.builtin "sorted") [.ref l]) Q E s:=by
 refine Calls.call_function_entry kind_sorted plain_sorted entry_sorted (args_sorted1 _) ?_;unfold Builtin.«sorted»;refine wpAny_bind (m:=checkCount "sorted" 1 1 _) (wpAny_pure ?_);refine wpAny_bind (collect_list hl ?_);refine wpAny_bind (wpAny_newList ?_)
 have hsz:((s.heap.push (seqObj "list" #[] 0)).update s.heap.objs.size (Obj.mapSeq (·++vs.toArray))).objs.size=s.heap.objs.size+1:=by
  rw [YW,size_push']
 have hoL:(((s.heap.push (seqObj "list" #[] 0)).update s.heap.objs.size (Obj.mapSeq (·++vs.toArray))).push (seqObj "list" vs.toArray 0)).get? (s.heap.objs.size+1)=some (seqObj "list" vs.toArray 0):=by
  rw [<-hsz];exact ZH _ rfl
 have keep:∀ b o,s.heap.get? b=some o->(((((s.heap.push (seqObj "list" #[] 0)).update s.heap.objs.size (Obj.mapSeq (·++vs.toArray))).push (seqObj "list" vs.toArray 0)).update (s.heap.objs.size+1) (Obj.mapSeq fun _=>#[])).push (seqObj "tuple" vs.toArray 0)).get? b=some o:=fun b o q=>by
  have hlt:b < s.heap.objs.size:=Zs q;refine Zh _ ?_;rw [Xe _ _ _ _ (ZC (YR hlt))];refine Zh _ ?_;rw [Xe _ _ _ _ (ZC hlt)];exact Zh _ q
 show wpAny _ _ _ _ _ { s with heap:=((s.heap.push (seqObj "list" #[] 0)).update s.heap.objs.size (Obj.mapSeq (·++vs.toArray))).push (seqObj "list" vs.toArray 0) };rw [hsz];refine wpAny_bind (wpAny_holding (wpAny_call_entry slot_list_sort ⟨_,hoL,rfl⟩ entry_list_sort (qe hoL h64 κ lt (fun h2 Q q=>hk h2 _ _ (fun b o z=>Zh _ (keep b o z)) _ Q q) (fun i j hi hj C c=>hlt _ _ (fun b o z=>Zh _ (keep b o z)) i j hi hj C c) ⟨_,rfl,?_⟩) (args_list_sort _)));exact wpAny_pure ⟨_,rfl,h⟩
noncomputable def uk (x y:Int × Int):Bool:=if x.1 == y.1 then (if x.2 == y.2 then false else decide (x.2 < y.2)) else decide (x.1 < y.1)
theorem zO {x y:Addr} {ox oy:Obj} {a b c d:Int} {t1 t2 t3 t4:Tok} {n k:Nat} {C:Bool->Shared->Prop} (hx:s.heap.get? x=some ox) (dx:ox.data = .seq #[.int a t1,.int b t2] n) (hy:s.heap.get? y=some oy) (dy:oy.data = .seq #[.int c t3,.int d t4] k)
  (h:C (uk (a,b) (c,d)) s):wpAny (model prog w) A (keyLt' (tuples' true) (.ref x) (.ref y)) C E s:=by
 refine PySem.W.kat_lt hx dx hy dy ?_;show PySem.W.KatLex prog w A true _ C [(.int a t1,.int c t3),(.int b t2,.int d t4)] 0 s;unfold uk at h;refine wpAny_eqBool_int ?_;cases h1:a == c with
 | true=>
  rw [if_pos rfl];simp only [h1,if_true] at h;refine wpAny_eqBool_int ?_;cases h2:b == d with
  | true=>rw [if_pos rfl];simp only [h2,if_true] at h;exact h
  | false=>
   rw [if_neg Zf];simp only [h2,Z3,if_false] at h;exact PySem.W.kat_one _ _ (lt_int h)
 | false=>
  rw [if_neg Zf];simp only [h1,Z3,if_false] at h;exact oneLt_int h
end
end Ev
namespace Ev
open PySem PySem.Spec PyProof.Rows L2
open PySem.W (kas_sort KatTups)
section
variable {X:Cx} {K:PySem.W.Frag} {m:List Addr} {H:Hp} {S:Sto}
inductive PairsV (H:Hp):List V->List (Int × Int)->Prop where
 | nil:PairsV H [] []
 | cons {r:Addr} {x y:Int} {vs:List V} {ps:List (Int × Int)}:H r=some (.tup [.int x,.int y])->PairsV H vs ps->PairsV H (.ref r::vs) ((x,y)::ps)
noncomputable def nY (ps:List (Int × Int)) (i j:Nat):Bool:=uk (ps.getD i (0,0)) (ps.getD j (0,0))
noncomputable def cY {α:Type} (ps:List (Int × Int)) (d:α) (vs:List α):List α:=if vs.length < 2 then vs else (eT (nY ps) (kas_sort vs.length)).toList.map fun i=>vs.getD i d
theorem PairsV.len {vs:List V} {ps:List (Int × Int)} (h:PairsV H vs ps):vs.length=ps.length:=by
 induction h with
 | nil=>rfl
 | cons _ _ ih=>simp [ih]
noncomputable def FZ (h:Heap) (v:Value) (q:Int × Int):Prop:=∃ r o t1 t2 n,v = .ref r/\h.get? r=some o/\o.cls = .type "tuple"/\o.data = .seq #[.int q.1 t1,.int q.2 t2] n
theorem PairsV.heap {pins:List (Addr × Obj)} {s:Shared} {σ:L2.St} (I:Inv X pins σ H s) {vs:List V} {ps:List (Int × Int)} (h:PairsV H vs ps):∀ {its:List Value},aP vs its->∀ (i:Nat),i < its.length->FZ s.heap (its.getD i Value.none) (ps.getD i (0,0)):=by
 induction h with
 | nil=>intro its r i hi;cases r;simp at hi
 | @cons r x y vs ps hr _ ih=>
  intro its rv i hi;cases rv with
  | @cons _ u _ us r1 r2=>
   cases i with
   | zero=>
    cases r1;obtain ⟨it2,rr,⟨o,e,hc,n,hd⟩,_⟩:=I.tuple (SqT.of (K:=X.K) hr);obtain ⟨a,b,rfl,⟨t1,rfl⟩,⟨t2,rfl⟩⟩:=vp rr;exact ⟨r,o,t1,t2,n,rfl,e,hc,hd⟩
   | succ i=>
    have:=ih r2 i (by simpa using hi)
    simpa using this
theorem vO {h:Heap}:∀ {its:List Value} {ps:List (Int × Int)},(∀ i,i < its.length->FZ h (its.getD i Value.none) (ps.getD i (0,0)))->∃ fs:List Value,KatTups h its fs/\fs.length=its.length/\∀ v ∈ fs,∃ i t,v = .int i t
 | [],_,_=>⟨[],KatTups.nil,rfl,fun v hv=>by simp at hv⟩
 | v::its,ps,hp=>by
  obtain ⟨r,o,t1,t2,n,ev,e,hc,hd⟩:=hp 0 (by simp)
  obtain ⟨fs,k,hl,hi⟩:=vO (its:=its) (ps:=ps.tail) fun i hi=>by
   have:=hp (i+1) (by simpa using hi);cases ps with
   | nil=>simpa using this
   | cons _ _=>simpa using this
  have ev':v = .ref r:=by simpa using ev
  subst ev'
  exact ⟨.int (ps.getD 0 (0,0)).1 t1::fs,KatTups.cons e hc hd rfl k,by simp [hl],fun w hw=>by
   rcases Zk.mp hw with rfl | hw
   ·exact ⟨_,_,rfl⟩
   ·exact hi w hw⟩
theorem Db {vs:List V} {its:List Value} (r:aP vs its) {i:Nat} (hi:i < vs.length):aM (vs.getD i .non) (its.getD i Value.none):=by
 obtain ⟨u,e,ru⟩:=r.get (gEG hi);rw [Yc,Yc,gEG hi,e];exact ru
theorem oE {vs:List V} {its:List Value} (r:aP vs its):∀ (l:List Nat),(∀ i ∈ l,i < vs.length)->aP (l.map fun i=>vs.getD i .non) (l.map fun i=>its.getD i Value.none)
 | [],_=>.nil
 | i::l,h=>.cons (Db r (h i Zg)) (oE r l fun j hj=>h j (Ze _ hj))
theorem qf {n:Nat} {lt:Nat->Nat->Bool} (hn:0 < n):(∀ i ∈ (eT lt (kas_sort n)).toList,i < n)/\(eT lt (kas_sort n)).toList.length=n:=by
 have h:Pm n (eT lt (kas_sort n)):=(qd hn).run;refine ⟨fun i hi=>?_,?_⟩
 ·have:=h.mem_iff.mp (Y8.mp hi)
  simpa using this
 ·have:=h.size_eq;rw [ZN,this];simp
theorem ul {α:Type} {ps:List (Int × Int)} {d:α} {vs:List α}:(cY ps d vs).length=vs.length:=by
 unfold cY;split
 ·rfl
 ·rw [Za,(qf (by omega)).2]
theorem um:aR X (.builtin "sorted") (fun xs H Q=>∃ a vs ps,xs=[.ref a]/\SqL X.K H a vs/\PairsV H vs ps/\vs.length < 64/\∀ p,H p=none->Q (.ref p) (upd H p (.lst (cY ps .non vs)))):=by
 intro pins s σ H xs us Q I r h;obtain ⟨a,vs,ps,rfl,sq,pv,h64,q⟩:=h;obtain ⟨u,rfl,ru⟩:=cJ r;cases ru;obtain ⟨its,rv,pl,hz⟩:=I.list sq;have hlen:=rv.length;have ph:=pv.heap I rv;have hl2:=pv.len;refine xN pl.isList (by omega) (tuples' true) (nY ps) (fun h2 A s' kp E Q' hq=>?_) (fun A s' kp i j hi hj C hC=>?_) ?_
 ·obtain ⟨fs,kt,hf,hi⟩:=vO (h:=s'.heap) fun i hi=>by
   obtain ⟨r,o,t1,t2,n,e1,e2,e3,e4⟩:=ph i hi;exact ⟨r,o,t1,t2,n,e1,kp _ _ e2,e3,e4⟩
  refine PySem.W.kat_kind (T:=.type "int") kt (by omega) (fun v hv=>?_) (by decide) hq;obtain ⟨i,t,rfl⟩:=hi v hv;exact PySem.W.Looks.of_pure rfl
 ·obtain ⟨r1,o1,t1,t2,n1,a1,a2,a3,a4⟩:=ph i hi;obtain ⟨r2,o2,t3,t4,n2,b1,b2,b3,b4⟩:=ph j hj;show wpAny _ A (keyLt' (tuples' true) (its.getD i Value.none) (its.getD j Value.none)) C _ s';rw [a1,b1];exact zO (kp _ _ a2) a4 (kp _ _ b2) b4 hC
 ·have hv:aP (cY ps .non vs) (if its.length < 2 then its else (eT (nY ps) (kas_sort its.length)).toList.map fun i=>its.getD i Value.none):=by
   unfold cY;rw [hlen];split
   ·exact rv
   ·exact oE rv _ fun i hi=>by rw [hlen];exact (qf (by omega)).1 i hi
  have eo:(if its.length < 2 then its.toArray else Y0 ((eT (nY ps) (kas_sort its.length)).toList.map fun i=>its.getD i Value.none))=(if its.length < 2 then its else (eT (nY ps) (kas_sort its.length)).toList.map fun i=>its.getD i Value.none).toArray:=by split <;> rfl
  rw [eo];obtain ⟨e,he⟩:=sortedAll_at s.heap its (if its.length < 2 then its else (eT (nY ps) (kas_sort its.length)).toList.map fun i=>its.getD i Value.none).toArray;exact ⟨.ref (s.heap.objs.size+1),_,I.laid (t':=s.toks) (a:=s.heap.objs.size+1) (o:=.lst (cY ps .non vs)) (fun b o z=>sortedAll_old z) (Yq _) ⟨by rw [ul];exact hz,_,e,hv,he⟩,rfl,q _ (I.hok.fresh (Yq _))⟩
noncomputable def uo (x:Int):List Int->List Int
 | []=>[x]
 | y::l=>if x<=y then x::y::l else y::uo x l
noncomputable def hX:List Int->List Int
 | []=>[]
 | x::l=>uo x (hX l)
theorem jR (x:Int):∀ l,(uo x l).Perm (x::l)
 | []=>List.Perm.refl _
 | y::l=>by
  unfold uo;split
  ·exact List.Perm.refl _
  ·exact ((jR x l).cons y).trans (List.Perm.swap x y l)
theorem cf:∀ l,(hX l).Perm l
 | []=>List.Perm.refl _
 | x::l=>(jR x (hX l)).trans ((cf l).cons x)
theorem kw (x:Int):∀ l:List Int,l.Pairwise (·<=·)->(uo x l).Pairwise (·<=·)
 | [],_=>by unfold uo;simp
 | y::l,h=>by
  unfold uo;rw [Ys] at h;split
  ·rename_i c;refine Ys.mpr ⟨fun z hz=>?_,Ys.mpr h⟩;rcases Zk.mp hz with rfl | hz
   ·exact c
   ·have:=h.1 z hz;omega
  ·rename_i c;refine Ys.mpr ⟨fun z hz=>?_,kw x l h.2⟩;rcases Zk.mp ((jR x l).mem_iff.mp hz) with rfl | hz
   ·omega
   ·exact h.1 z hz
theorem je:∀ l,(hX l).Pairwise (·<=·)
 | []=>List.Pairwise.nil
 | x::l=>kw x _ (je l)
theorem mz:∀ {a b:List Int},a.Perm b->a.Pairwise (·<=·)->b.Pairwise (·<=·)->a=b
 | [],b,p,_,_=>(List.Perm.nil_eq p)
 | x::a,[],p,_,_=>(List.Perm.nil_eq p.symm).symm
 | x::a,y::b,p,ha,hb=>by
  rw [Ys] at ha hb
  have e:x=y:=by
   have h1:=p.mem_iff.mp (Zg (a:=x) (l:=a));have h2:=p.mem_iff.mpr (Zg (a:=y) (l:=b));rcases Zk.mp h1 with rfl | h1
   ·rfl
   ·rcases Zk.mp h2 with h2 | h2
    ·exact h2.symm
    ·have:=ha.1 y h2;have:=hb.1 x h1;omega
  subst e;rw [mz (List.Perm.cons_inv p) ha.2 hb.2]
theorem cN:∀ {ns:List Int} {us:List Value},aP (ns.map V.int) us->IntsAre us ns
 | [],_,h=>by cases h;exact .nil
 | n::ns,_,h=>by
  cases h with
  | cons r1 r2=>obtain ⟨t,rfl⟩:=r1;exact .cons n t (cN r2)
theorem uq:aR X (.builtin "sorted") (fun xs H Q=>∃ a ns,xs=[.ref a]/\SqL X.K H a (ns.map V.int)/\ns.length < 64/\∀ p,H p=none->Q (.ref p) (upd H p (.lst ((hX ns).map V.int)))):=by
 intro pins s σ H xs us Q I r h;obtain ⟨a,ns,rfl,sq,h64,q⟩:=h;obtain ⟨u,rfl,ru⟩:=cJ r;cases ru;obtain ⟨its,rv,pl,hz⟩:=I.list sq;have hlen:=rv.length;rw [Za] at hlen hz;refine sorted_ints pl.isList (cN rv) (by omega) fun out ns' h1 h2 h3=>?_;have e:ns'=hX ns:=mz (h2.trans (cf ns).symm) h3 (je ns);subst e;obtain ⟨e,he⟩:=sortedAll_at s.heap its out;refine ⟨.ref (s.heap.objs.size+1),_,I.laid (t':=s.toks) (a:=s.heap.objs.size+1) (o:=.lst ((hX ns).map V.int)) (fun b o z=>sortedAll_old z) (Yq _) ⟨by rw [Za,(cf ns).length_eq];exact hz,out.toList,e,jM h1,by simpa using he⟩,rfl,q _ (I.hok.fresh (Yq _))⟩
noncomputable def mB:D->Option (Int × Int)
 | .tup [.int a,.int b]=>some (a,b)
 | _=>none
noncomputable def dP:List D->Option (List (Int × Int))
 | []=>some []
 | d::ds=>match mB d,dP ds with
  | some p,some ps=>some (p::ps)
  | _,_=>none
noncomputable def kx:List D->Option (List Int)
 | []=>some []
 | d::ds=>match d,kx ds with
  | .int i,some ms=>some (i::ms)
  | _,_=>none
noncomputable def ur (_:Bool) (ds:List D):Option (List D):=match dP ds with
 | some ps=>if ds.length < 64 then some (cY ps .non ds) else none
 | none=>(match kx ds with
  | some ns=>if ns.length < 64 then some ((hX ns).map D.int) else none
  | none=>none)
theorem mD:∀ {ds:List D} {ns:List Int},kx ds=some ns->ds=ns.map D.int
 | [],_,e=>by cases e;rfl
 | d::ds,ns,e=>by
  simp only [kx] at e;split at e
  ·rename_i i ms h1;cases e;rw [mD h1];rfl
  ·cases e
theorem jS:∀ {ns:List Int} {vs:List V},VDs K m H (ns.map D.int) vs->vs=ns.map V.int
 | [],_,h=>by rw [ZZ,VDs] at h;exact h
 | n::ns,_,h=>by
  rw [Zt,VDs] at h;obtain ⟨v,r,rfl,h1,h2⟩:=h;rw [h1.ints,jS h2];rfl
theorem oG:∀ (ns:List Int),VDs K m H (ns.map D.int) (ns.map V.int)
 | []=>by rw [ZZ,ZZ,VDs]
 | n::ns=>by rw [Zt,Zt,VDs];exact ⟨_,_,rfl,bq,oG ns⟩
theorem rN:∀ {ds:List D} {vs:List V} {ps:List (Int × Int)},dP ds=some ps->VDs K m H ds vs->PairsV H vs ps
 | [],vs,ps,e,h=>by rw [VDs] at h;subst h;cases e;exact .nil
 | d::ds,vs,ps,e,h=>by
  rw [VDs] at h;obtain ⟨v,r,rfl,h1,h2⟩:=h;simp only [dP] at e;cases hd:mB d with
  | none=>rw [hd] at e;cases e
  | some p=>
   cases hr:dP ds with
   | none=>rw [hd,hr] at e;cases e
   | some qs=>
    rw [hd,hr] at e;cases e;unfold mB at hd;split at hd
    ·cases hd;obtain ⟨a,xs,rfl,hH,vx⟩:=h1.tups;obtain ⟨x,y,rfl,v1,v2⟩:=ug vx;cases v1.ints;cases v2.ints;exact .cons hH (rN hr h2)
    ·cases hd
theorem vP {ds:List D} {vs:List V} (h:VDs K m H ds vs):∀ (l:List Nat),(∀ i ∈ l,i < ds.length)->VDs K m H (l.map fun i=>ds.getD i .non) (l.map fun i=>vs.getD i .non)
 | [],_=>by rw [ZZ,ZZ,VDs]
 | i::l,hl=>by
  rw [Zt,Zt,VDs];obtain ⟨v,e,vv⟩:=h.get (gEG (hl i Zg));refine ⟨_,_,rfl,?_,vP h l fun j hj=>hl j (Ze _ hj)⟩;rw [Yc,Yc,gEG (hl i Zg),e];exact vv
theorem oH:aR X (.builtin "sorted") (r1 (rTm X.K fun tu ds=>if tu=false then ur tu ds else none)):=by
 refine aR.imp (aR.or um uq) fun xs H Q h=>?_;obtain ⟨_,rfl,m,S,tu,ds,a,vs,es,R,rfl,sq,vd,e,q⟩:=cM h;cases tu with
 | true=>cases e
 | false=>
  have e:ur false ds=some es:=by simpa using e
  unfold ur at e;cases hp:dP ds with
  | none=>
   rw [hp] at e;dsimp only at e;cases hi:kx ds with
   | none=>rw [hi] at e;cases e
   | some ns=>
    rw [hi] at e;dsimp only at e;split at e
    ·rename_i hl;cases e;have ed:=mD hi;subst ed;have ev:=jS vd;subst ev;exact .inr ⟨a,ns,rfl,sq,hl,lu R (oG _) q⟩
    ·cases e
  | some ps=>
   rw [hp] at e;dsimp only at e;split at e
   ·rename_i hl;cases e;have hlen:=vd.length;refine .inl ⟨a,vs,ps,rfl,sq,rN hp vd,by omega,lu R ?_ q⟩;unfold cY;rw [<-hlen];split
    ·exact vd
    ·exact vP vd _ fun i hi=>(qf (by omega)).1 i hi
   ·cases e
end
end Ev
namespace Ev
open PySem PySem.Spec PyProof.Rows L2
noncomputable def eU:List Int->Int
 | []=>0
 | n::ns=>ns.foldl (fun a b=>if a < b then b else a) n
theorem jg:∀ (ns:List Int) (n:Int),(ns.foldl (fun a b=>if a < b then b else a) n) ∈ n::ns/\∀ x ∈ n::ns,x<=ns.foldl (fun a b=>if a < b then b else a) n
 | [],n=>⟨Zg,fun x hx=>by simp at hx;subst hx;exact YA _⟩
 | m::ns,n=>by
  obtain ⟨h1,h2⟩:=jg ns (if n < m then m else n);rw [Xy];refine ⟨?_,fun x hx=>?_⟩
  ·rcases Zk.mp h1 with h | h
   ·rw [h];split <;> simp
   ·exact Ze _ (Ze _ h)
  ·have h0:=h2 _ Zg;rcases Zk.mp hx with rfl | hx
   ·split at h0 <;> split <;> omega
   ·rcases Zk.mp hx with rfl | hx
    ·split at h0 <;> split <;> omega
    ·exact h2 x (Ze _ hx)
theorem zP {ns:List Int} {M:Int} (h1:M ∈ ns) (h2:∀ a,a ∈ ns->a<=M):M=eU ns:=by
 cases ns with
 | nil=>simp at h1
 | cons n ns=>
  obtain ⟨a,b⟩:=jg ns n;have:=h2 _ a;have:=b _ h1;show M=ns.foldl _ n;omega
section
variable {X:Cx} {K:PySem.W.Frag} {m:List Addr} {H:Hp} {S:Sto}
theorem xO (hc:X.calm=true):aR X (.builtin "max") (fun xs H Q=>∃ a ns,xs=[.ref a]/\SqL X.K H a (ns.map V.int)/\ns ≠ []/\Q (.int (eU ns)) H):=by
 intro pins s σ H xs us Q I r h;obtain ⟨a,ns,rfl,sq,hne,q⟩:=h;obtain ⟨u,rfl,ru⟩:=cJ r;cases ru;obtain ⟨its,rv,pl,hz⟩:=I.list sq;have hi:=cN rv;have hl:=pl.isList;obtain ⟨ys,e⟩:=hi.allInts.items
 have hns:ns=ys.toList.map (·.1):=by
  have h1:=hi.numsOf;rw [<-nums_intItems,<-e];exact h1.symm
 have hsz:0 < ys.size:=by
  have h3:0 < ns.length:=Xf.mpr hne;rw [hns,Za,ZN] at h3;exact h3
 rw [e] at hl;refine max_intList (I.ok.hd hc) hl hsz fun v h' tk hv hk=>?_;obtain ⟨t,rfl⟩:=intItems_at hv;obtain ⟨b1,b2⟩:=argBest_gt (numAt ys) (ys.size - 1);have key:∀ M:Int,M ∈ ns->(∀ a,a ∈ ns->a<=M)->∃ x H',Inv X pins σ H' { s with heap:=h',toks:=tk }/\aM x (.int M t)/\Q x H':=fun M h1 h2=>⟨.int (eU ns),H,I.kept hk,⟨t,by rw [zP h1 h2]⟩,q⟩;refine key _ ?_ fun a ha=>?_
 ·rw [hns,numAt_eq];exact getD_mem (by rw [Za,ZN];omega)
 ·rw [hns] at ha;obtain ⟨j,hj,rfl⟩:=mem_getD ha;rw [Za,ZN] at hj;rw [<-numAt_eq];exact b2 j (by omega)
theorem qg {prog:Program} {w:World} {A:Around} {E:Value->Shared->Prop} {s:Shared} {l:Addr} {xs:Array (Int × Tok)} {Q:Value->Shared->Prop} (hh:A.handled=none) (hl:s.heap.IsTuple l (intItems xs)) (hne:0 < xs.size)
  (h:∀ v h' tk,(intItems xs)[argBest (fun i j=>decide (numAt xs i > numAt xs j)) (xs.size - 1)]?=some v->(∀ b o,s.heap.get? b=some o->h'.get? b=some o)->Q v { s with heap:=h',toks:=tk }) :
  wpAny (model prog w) A (call (.builtin "max") [.ref l]) Q E s:=by
 have hlt:l < s.heap.objs.size:=by obtain ⟨_,e,_⟩:=hl;exact Zs e
 refine call_max_walk (wpAny_pyIter_tuple hl ?_);refine ⟨_,[_,l],[_],_,_,_,_,rfl,Walks.tuple (A:=A.in1) hh _ l (ZC hlt) (intItems xs),⟨⟨_,ZH _ rfl,rfl,rfl⟩,hl.push _⟩,fun c hc=>?_,by simpa [intItems] using hne,CmpOf.ints_gt (numAt xs) (fun _ _=>intItems_at),fun v h' tk hP hk=>?_⟩
 ·show c < (s.heap.push _).objs.size;rw [Yw];rcases Zk.mp hc with rfl | hc
  ·exact YX _
  ·rcases Zk.mp hc with rfl | hc
   ·exact YR hlt
   ·cases hc
 ·refine h v h' tk (by simpa [intItems] using hP) fun b o e=>hk b o (fun hm=>?_) (Zh _ e);rcases Zk.mp hm with e1 | hm
  ·exact absurd (e1 ▸ Zs e) (ZQ _)
  ·cases hm
theorem xP (hc:X.calm=true):aR X (.builtin "max") (fun xs H Q=>∃ a ns,xs=[.ref a]/\SqT X.K H a (ns.map V.int)/\ns ≠ []/\Q (.int (eU ns)) H):=by
 intro pins s σ H xs us Q I r h;obtain ⟨a,ns,rfl,sq,hne,q⟩:=h;obtain ⟨u,rfl,ru⟩:=cJ r;cases ru;obtain ⟨its,rv,pl,hz⟩:=I.tuple sq;have hi:=cN rv;have hl:s.heap.IsTuple a its.toArray:=pl;obtain ⟨ys,e⟩:=hi.allInts.items
 have hns:ns=ys.toList.map (·.1):=by
  have h1:=hi.numsOf;rw [<-nums_intItems,<-e];exact h1.symm
 have hsz:0 < ys.size:=by
  have h3:0 < ns.length:=Xf.mpr hne;rw [hns,Za,ZN] at h3;exact h3
 rw [e] at hl;refine qg (I.ok.hd hc) hl hsz fun v h' tk hv hk=>?_;obtain ⟨t,rfl⟩:=intItems_at hv;obtain ⟨b1,b2⟩:=argBest_gt (numAt ys) (ys.size - 1);have key:∀ M:Int,M ∈ ns->(∀ a,a ∈ ns->a<=M)->∃ x H',Inv X pins σ H' { s with heap:=h',toks:=tk }/\aM x (.int M t)/\Q x H':=fun M h1 h2=>⟨.int (eU ns),H,I.kept hk,⟨t,by rw [zP h1 h2]⟩,q⟩;refine key _ ?_ fun a ha=>?_
 ·rw [hns,numAt_eq];exact getD_mem (by rw [Za,ZN];omega)
 ·rw [hns] at ha;obtain ⟨j,hj,rfl⟩:=mem_getD ha;rw [Za,ZN] at hj;rw [<-numAt_eq];exact b2 j (by omega)
noncomputable def lb (tu:Bool) (ds:List D) (S:Sto):Option (D × Sto):=match kx ds with
 | some (n::ns)=>some (.int (eU (n::ns)),S)
 | _=>none
theorem xQ (hc:X.calm=true):aR X (.builtin "max") (r1 (rSq X.K lb)):=by
 refine aR.imp (aR.or (xO hc) (xP hc)) fun xs H Q h=>?_;obtain ⟨_,rfl,m,S,tu,ds,a,vs,d,S',R,rfl,sq,vd,e,q⟩:=cM h;unfold lb at e;split at e
 ·rename_i n ns hi;cases e;have ed:=mD hi;subst ed;have ev:=jS vd;subst ev;rcases iE sq with sq | sq
  ·exact .inl ⟨a,n::ns,rfl,sq,by simp,q m H _ (Aft.refl R) bq⟩
  ·exact .inr ⟨a,n::ns,rfl,sq,by simp,q m H _ (Aft.refl R) bq⟩
 ·cases e
noncomputable def zQ (d:D) (S:Sto):Option (D × Sto):=match d with
 | .int i=>some (.int i,S)
 | .bl b=>some (.int (if b then 1 else 0),S)
 | _=>none
theorem xR:aR X (.type "int") (r1 (rS1 X.K zQ)):=by
 refine aR.imp xf fun xs H Q h=>?_;obtain ⟨x,rfl,m,S,a,d,S',R,va,e,q⟩:=cM h;cases a with
 | int i=>cases e;exact .inl ⟨i,by rw [va.ints],q m H _ (Aft.refl R) bq⟩
 | bl b=>cases e;exact .inr ⟨b,by rw [va.bls],q m H _ (Aft.refl R) bq⟩
 | _=>cases e
end
end Ev
namespace Ev
open PySem PySem.Spec PyProof.Rows L2
noncomputable def Mb (c:Int):List Int->Int
 | []=>c
 | n::ns=>eU (n::ns)
end Ev
namespace Ev
open PySem PySem.Spec PyProof.Rows L2
section
variable {X:Cx} {K:PySem.W.Frag} {m:List Addr} {H:Hp} {S:Sto}
noncomputable def eC (d:D) (S:Sto):Bool:=match d with
 | .ref n=>(am S n).isSome
 | _=>false
noncomputable def isTup:D->Bool
 | .tup _=>true
 | _=>false
noncomputable def xS (c:D->Sto->Bool) (f:D->List D->Sto->Option (D × Sto)) (x:XE) (y:XA):XE:=fun ρ S=>bnd (x ρ S) fun d S1=>if c d S1=true then bnd (y ρ S1) fun as S2=>f d as S2 else none
noncomputable def rM (K:PySem.W.Frag) (f:D->List D->Sto->Option (D × Sto)):V->List V->Hp->VK->Prop:=fun v vs H Q=>∃ m S a as d S',Rel K m S H/\VD K m H a v/\VDs K m H as vs/\f a as S=some (d,S')/\∀ m' H' u,Aft K m H S' m' H'->VD K m' H' d u->Q u H'
theorem qh {T:String} {c:D->Sto->Bool} {f:D->List D->Sto->Option (D × Sto)} {x:XE} {y:XA} {σ:L2.St} {H:Hp} {Q:VK} (hT:∀ {m H S d v},Rel K m S H->VD K m H d v->c d S=true->tyV K T v H) (h:tE K (xS c f x y) σ H Q):tBM K T (rM K f) (tE K x) (tAr K y) σ H Q:=by
 obtain ⟨m,ρ,S,d,S',E,R,e,q⟩:=h;obtain ⟨a,S1,e1,e⟩:=ae e;split at e
 ·rename_i hc;obtain ⟨as,S2,e2,e⟩:=ae e;refine ⟨m,ρ,S,a,S1,E,R,e1,fun m1 H1 v A1 va=>⟨hT A1.rel va hc,m1,ρ,S1,as,S2,E.mono R A1.ext,A1.rel,e2,fun m2 H2 vs A2 vb=>?_⟩⟩;exact ⟨m2,S2,a,as,d,S',A2.rel,va.mono A1.rel A2.ext,vb,e,fun m3 H3 u A3 vd=>q m3 H3 u ((A1.trans A2).trans A3) vd⟩
 ·cases e
theorem ut {d:D} {v:V} (R:Rel K m S H) (vd:VD K m H d v) (h:eC d S=true):tyV K "list" v H:=by
 cases d with
 | ref n=>
  simp only [eC] at h;obtain ⟨ds,hs⟩:=ZY.mp h;obtain ⟨p,vs,hp,sq,vds⟩:=R.seq hs;obtain ⟨p',hp',rfl⟩:=vd.refs;rw [hp] at hp';cases hp';exact .inl ⟨rfl,vs,sq⟩
 | _=>cases h
theorem HY {d:D} {v:V} (R:Rel K m S H) (vd:VD K m H d v) (h:(fun d (_:Sto)=>isTup d) d S=true):tyV K "tuple" v H:=by
 cases d with
 | tup ds=>
  obtain ⟨a,vs,rfl,sq,_⟩:=vd.tups;exact .inr (.inl ⟨rfl,.inr ⟨vs,sq⟩⟩)
 | _=>cases h
noncomputable def chg (n:Nat) (S:Sto) (f:List D->Option (D × List D)):Option (D × Sto):=match S[n]? with
 | some (.lst ds)=>(f ds).map fun r=>(r.1,S.set n (.lst r.2))
 | _=>none
theorem mE {n:Nat} {S S':Sto} {f:List D->Option (D × List D)} {d:D} (h:chg n S f=some (d,S')):∃ ds es,S[n]?=some (.lst ds)/\f ds=some (d,es)/\S'=S.set n (.lst es):=by
 unfold chg at h;cases hn:S[n]? with
 | none=>rw [hn] at h;cases h
 | some o=>
  rw [hn] at h;cases o with
  | lst ds=>
   dsimp only at h;cases hf:f ds with
   | none=>rw [hf] at h;cases h
   | some r=>rw [hf] at h;cases h;exact ⟨ds,r.2,rfl,hf,rfl⟩
  | _=>cases h
noncomputable def uu (d:D) (as:List D) (S:Sto):Option (D × Sto):=match d,as with
 | .ref n,[e]=>chg n S fun ds=>if ds.length < 100000 then some (.non,ds++[e]) else none
 | _,_=>none
noncomputable def eV (d:D) (as:List D) (S:Sto):Option (D × Sto):=match d,as with
 | .ref n,[.int i]=>chg n S fun ds=>match ixN ds.length i with
  | some k=>(ds[k]?).map fun x=>(x,ds.eraseIdx k)
  | none=>none
 | _,_=>none
theorem qi {n:Nat} {v:V} {ds:List D} (R:Rel K m S H) (vd:VD K m H (.ref n) v) (hn:S[n]?=some (.lst ds)):∃ a vs,v = .ref a/\m[n]?=some a/\H a=some (.lst vs)/\VDs K m H ds vs:=by
 obtain ⟨a,vs,ha,hH,q⟩:=R.lst hn;obtain ⟨a',ha',e⟩:=vd.refs;rw [ha] at ha';cases ha';exact ⟨a,vs,e,ha,hH,q⟩
theorem gN {n:Nat} {a:Addr} {es:List D} {ws:List V} (R:Rel K m S H) (ha:m[n]?=some a) (vd:VDs K m H es ws):Aft K m H (S.set n (.lst es)) m (upd H a (.lst ws)):=let ⟨x,y⟩:=R.write ha vd;⟨x,y⟩
theorem HZ:MtR X "list.append" (rM X.K uu):=by
 intro pins s σ H x xs v us Q I rx rs h;refine oo pins s σ H x xs v us Q I rx rs ?_;obtain ⟨m,S,a,as,d,S',R,va,vs,e,q⟩:=h;unfold uu at e;split at e
 ·rename_i n z;obtain ⟨ds,es,hn,hf,rfl⟩:=mE e;split at hf
  ·rename_i hl;cases hf;obtain ⟨p,ws,rfl,hp,hH,vds⟩:=qi R va hn;obtain ⟨y,rfl,vy⟩:=HW vs;refine ⟨p,ws,y,rfl,rfl,hH,by rw [sizeLine_eq,<-vds.length];omega,q m _ _ (gN R hp (vds.append (.cons vy .nil))) pX⟩
  ·cases hf
 ·cases e
theorem rO:∀ {ds:List D} {vs:List V} (k:Nat),VDs K m H ds vs->VDs K m H (ds.eraseIdx k) (vs.eraseIdx k)
 | [],vs,k,h=>by rw [VDs] at h;subst h;exact .nil
 | d::ds,vs,0,h=>by
  rw [VDs] at h;obtain ⟨y,r,rfl,p,q⟩:=h;exact q
 | d::ds,vs,k+1,h=>by
  rw [VDs] at h;obtain ⟨y,r,rfl,p,q⟩:=h;exact .cons p (rO k q)
theorem xT:MtR X "list.pop" (rM X.K eV):=by
 intro pins s σ H x xs v us Q I rx rs h;refine yY pins s σ H x xs v us Q I rx rs ?_;obtain ⟨m,S,a,as,d,S',R,va,vs,e,q⟩:=h;unfold eV at e;split at e
 ·rename_i n i;obtain ⟨ds,es,hn,hf,rfl⟩:=mE e;cases hk:ixN ds.length i with
  | none=>rw [hk] at hf;cases hf
  | some k=>
   rw [hk] at hf;dsimp only at hf;cases hl:ds[k]? with
   | none=>rw [hl] at hf;cases hf
   | some z=>
    rw [hl] at hf;cases hf;obtain ⟨p,ws,rfl,hp,hH,vds⟩:=qi R va hn;obtain ⟨y,rfl,vi⟩:=HW vs;cases vi.ints;obtain ⟨y,hy,vy⟩:=vds.get hl;have A:=gN R hp (rO k vds);obtain ⟨h1,h2,h3,h4⟩:=pD hk;have hz:=(I.lst hH).choose_spec.choose_spec.2.2;have hle:=vds.length;rw [sizeLine_eq] at hz;exact ⟨p,ws,i,k,y,rfl,rfl,hH,by omega,by omega,by rw [<-vds.length];exact h1,hy,q m _ _ A (vy.mono R A.ext)⟩
 ·cases e
noncomputable def uv (d:D) (as:List D) (S:Sto):Option (D × Sto):=match d,as with
 | .tup ds,[x]=>if cu x=true/\ds.all cu=true then some (.int (ds.countP fun z=>eqF z x:Nat),S) else none
 | _,_=>none
theorem Dc:MtR X "tuple.count" (rM X.K uv):=by
 intro pins s σ H x xs v us Q I rx rs h;refine xt X.K rfl pins s σ H x xs v us Q I rx rs ?_;obtain ⟨m,S,a,as,d,S',R,va,vs,e,q⟩:=h;unfold uv at e;split at e
 ·rename_i ds z;split at e
  ·rename_i hf;cases e;obtain ⟨p,ws,rfl,sq,vds⟩:=va.tups;obtain ⟨y,rfl,vy⟩:=HW vs;exact ⟨p,ws,y,rfl,rfl,.of sq,lv vy hf.1,jd vds hf.2,q m H _ (Aft.refl R) (by rw [oD vy hf.1 vds hf.2];exact bq)⟩
  ·cases e
 ·cases e
noncomputable def eD (o i v:D) (S:Sto):Option Sto:=match o,i with
 | .ref n,.int k=>(match S[n]? with
  | some (.lst ds)=>(ixN ds.length k).map fun j=>S.set n (.lst (ds.set j v))
  | _=>none)
 | _,_=>none
noncomputable def zR (K:PySem.W.Frag):Cf:=fun o i v H Q=>∃ m S a b c S',Rel K m S H/\VD K m H a o/\VD K m H b i/\VD K m H c v/\eD a b c S=some S'/\∀ m' H',Aft K m H S' m' H'->Q H'
theorem zS:GU X (zR X.K):=by
 intro pins s σ H o i v ov iv u Q I ro ri rv h;refine yW pins s σ H o i v ov iv u Q I ro ri rv ?_;obtain ⟨m,S,a,b,c,S',R,va,vb,vc,e,q⟩:=h;unfold eD at e;split at e
 ·rename_i n k;cases hn:S[n]? with
  | none=>rw [hn] at e;cases e
  | some ob=>
   rw [hn] at e;cases ob with
   | lst ds=>
    dsimp only at e;cases hj:ixN ds.length k with
    | none=>rw [hj] at e;cases e
    | some j=>
     rw [hj] at e;cases e;obtain ⟨p,ws,rfl,hp,hH,vds⟩:=qi R va hn;cases vb.ints;exact ⟨p,ws,k,j,rfl,rfl,hH,by rw [<-vds.length];exact hj,q m _ (gN R hp (vds.set vc))⟩
   | _=>cases e
 ·cases e
mutual
noncomputable def ca (t:D->Option Dw.D):List D->Option (List Dw.D)
 | []=>some []
 | d::ds=>match t d,ca t ds with
  | some x,some xs=>some (x::xs)
  | _,_=>none
end
noncomputable def cy:Nat->Sto->D->Option Dw.D
 | 0,_,_=>none
 | n+1,S,d=>match d with
  | .non=>some .non
  | .bl b=>some (.bl b)
  | .int i=>some (.int i)
  | .str x=>some (.str x)
  | .tup ds=>(ca (cy n S) ds).map .tup
  | .ref k=>(match S[k]? with
   | some (.lst ds)=>(ca (cy n S) ds).map .lst
   | some (.dic ks ds)=>(ca (cy n S) ds).map (.dic ks)
   | _=>none)
theorem jh {t:D->Option Dw.D} (ht:∀ d x v,t d=some x->VD K m H d v->Dw.Br [] H x v):∀ {ds:List D} {xs:List Dw.D} {vs:List V},ca t ds=some xs->VDs K m H ds vs->Dw.BrL [] H xs vs
 | [],xs,vs,e,h=>by rw [VDs] at h;simp only [ca] at e;cases e;rw [h,Dw.BrL]
 | d::ds,xs,vs,e,h=>by
  rw [VDs] at h;obtain ⟨y,r,rfl,p,q⟩:=h;simp only [ca] at e;cases h1:t d with
  | none=>rw [h1] at e;cases e
  | some x=>
   cases h2:ca t ds with
   | none=>rw [h1,h2] at e;cases e
   | some ys=>
    rw [h1,h2] at e;cases e;rw [Dw.BrL];exact ⟨y,r,rfl,ht _ _ _ h1 p,jh ht h2 q⟩
theorem oI {t:D->Option Dw.D}:∀ {ds:List D} {xs:List Dw.D},ca t ds=some xs->xs.length=ds.length
 | [],xs,e=>by simp only [ca] at e;cases e;rfl
 | d::ds,xs,e=>by
  simp only [ca] at e;cases h1:t d with
  | none=>rw [h1] at e;cases e
  | some x=>
   cases h2:ca t ds with
   | none=>rw [h1,h2] at e;cases e
   | some ys=>rw [h1,h2] at e;cases e;simp [oI h2]
theorem ly (R:Rel K m S H):∀ (n:Nat) (d:D) (x:Dw.D) (v:V),cy n S d=some x->VD K m H d v->Dw.Br [] H x v
 | 0,_,_,_,e,_=>by simp [cy] at e
 | n+1,d,x,v,e,h=>by
  cases d with
  | non=>simp only [cy] at e;cases e;rw [Dw.Br];exact h.nons
  | bl _=>simp only [cy] at e;cases e;rw [Dw.Br];exact h.bls
  | int _=>simp only [cy] at e;cases e;rw [Dw.Br];exact h.ints
  | str _=>simp only [cy] at e;cases e;rw [Dw.Br];exact h.strs
  | tup ds=>
   simp only [cy] at e;cases ht:ca (cy n S) ds with
   | none=>rw [ht] at e;cases e
   | some xs=>
    rw [ht] at e;cases e;obtain ⟨a,vs,rfl,sq,p⟩:=h.tups;rw [Dw.Br];exact ⟨a,vs,rfl,sq,jh (ly R n) ht p⟩
  | ref k=>
   simp only [cy] at e;obtain ⟨a,ha,rfl⟩:=h.refs;cases hk:S[k]? with
   | none=>rw [hk] at e;cases e
   | some o=>
    rw [hk] at e;obtain ⟨a',ha',r⟩:=R.ob k o hk;rw [ha] at ha';cases ha';cases o with
    | lst ds=>
     dsimp only at e;cases ht:ca (cy n S) ds with
     | none=>rw [ht] at e;cases e
     | some xs=>
      rw [ht] at e;cases e;obtain ⟨vs,hH,p⟩:=r;rw [Dw.Br];exact ⟨a,vs,rfl,by simp,hH,jh (ly R n) ht p⟩
    | frz ds=>cases e
    | dic ks ds=>
     dsimp only at e;cases ht:ca (cy n S) ds with
     | none=>rw [ht] at e;cases e
     | some xs=>
      rw [ht] at e;cases e;obtain ⟨vs,hH,hl,p⟩:=r;rw [Dw.Br];exact ⟨a,vs,rfl,by simp,hH,by rw [oI ht];exact hl,jh (ly R n) ht p⟩
open Classical in
noncomputable def ji (d:D) (S:Sto):Option (D × Sto):=match cy 100 S d with
 | some t=>if Dw.Shn t then some (.str (Dw.aQ t).shown,S) else none
 | none=>none
theorem uw {k:Nat} (hr:Room k X.A):aR X (.builtin "repr") (r1 (rS1 X.K ji)):=by
 refine aR.imp (Dw.t7 hr) fun xs H Q h=>?_;obtain ⟨x,rfl,m,S,a,d,S',R,va,e,q⟩:=cM h;unfold ji at e;cases ht:cy 100 S a with
 | none=>rw [ht] at e;cases e
 | some t=>
  rw [ht] at e;dsimp only at e;split at e
  ·rename_i hs;cases e;exact ⟨x,[],t,rfl,ly R 100 a t x ht va,hs,q m H _ (Aft.refl R) pY⟩
  ·cases e
end
end Ev
namespace Ev
open PySem PySem.Spec PyProof.Rows L2
section
variable {X:Cx} {K:PySem.W.Frag} {m:List Addr} {H:Hp} {S:Sto}
noncomputable def fE {α:Type} (xs:List α) (k:Nat) (y:α):List α:=xs.take k++y::xs.drop k
theorem H8:MtM X "list.insert" (fun x vs H Q=>∃ l xs i y,x = .ref l/\vs=[.int i,y]/\H l=some (.lst xs)/\0<=i/\i<=100000/\xs.length < sizeLine/\Q .non (upd H l (.lst (fE xs (min i.toNat xs.length) y)))):=by
 intro pins s σ H x vs v us Q I rx rv h;obtain ⟨l,xs,i,y,rfl,rfl,hH,h0,h1,hz,q⟩:=h;cases rx;cases rv with
 | cons ri rv=>
  obtain ⟨u,rfl,ru⟩:=aP.one (show aP [y] _ from rv);obtain ⟨t,rfl⟩:=ri;obtain ⟨z,its,n,r,hl,e⟩:=I.lstM hH
  have fit:¬ (!Builtin.List.listFitsIndex i)=true:=by
   unfold Builtin.List.listFitsIndex;simp;omega
  refine call_meets F.slot_list_insert ⟨_,e,rfl⟩ F.entry_list_insert (F.args_list_insert_3 _ _ _) (PySem.AutoListH.list_insert_list_int_val_1 l its.toArray n i t u fit (by rw [Zi];omega)) ⟨e,?_⟩;have hle:xs.length=its.length:=hl;refine ⟨.non,_,I.lset (its':=fE its (min i.toNat its.length) u) hH e ?_ ?_ ?_,rfl,q⟩
  ·simp only [if_neg (show ¬ i < 0 by omega),Zi];unfold fE;simp [Z6];rw [ZU (by rw [Z1];omega)]
  ·rw [hle];exact aP.append (aP.take _ r) (.cons ru (aP.drop _ r))
  ·unfold fE;rw [Zr,ZA,ZF,Z1];omega
noncomputable def ux (d:D) (as:List D) (S:Sto):Option (D × Sto):=match d,as with
 | .ref n,[.int i,e]=>if 0<=i/\i<=100000 then chg n S fun ds=>if ds.length < 100000 then some (.non,fE ds (min i.toNat ds.length) e) else none else none
 | _,_=>none
theorem Ia {ds:List D} {vs:List V} {x:D} {y:V} (k:Nat) (h:VDs K m H ds vs) (hx:VD K m H x y):VDs K m H (fE ds k x) (fE vs k y):=(h.take k).append (.cons hx (h.drop k))
theorem Dd:MtR X "list.insert" (rM X.K ux):=by
 intro pins s σ H x xs v us Q I rx rs h;refine H8 pins s σ H x xs v us Q I rx rs ?_;obtain ⟨m,S,a,as,d,S',R,va,vs,e,q⟩:=h;unfold ux at e;split at e
 ·rename_i n i z;split at e
  ·rename_i hi;obtain ⟨ds,es,hn,hf,rfl⟩:=mE e;split at hf
   ·rename_i hl;cases hf;obtain ⟨p,ws,rfl,hp,hH,vds⟩:=qi R va hn;obtain ⟨y1,y2,rfl,v1,v2⟩:=ug vs;cases v1.ints;refine ⟨p,ws,i,y2,rfl,rfl,hH,hi.1,hi.2,by rw [sizeLine_eq,<-vds.length];omega,?_⟩;rw [<-vds.length];exact q m _ _ (gN R hp (Ia _ vds v2)) pX
   ·cases hf
  ·cases e
 ·cases e
end
end Ev
namespace Ev
open PySem PySem.Spec PyProof.Rows L2
noncomputable abbrev Nxt:=Nat->Sto->Option (Option D)
noncomputable abbrev XI:=Rho->Sto->Option (Nxt × Sto)
structure ExtB (B:List Addr) (m:List Addr) (H:Hp) (m':List Addr) (H':Hp):Prop where
 pre:m <+: m'
 keep:∀ a o,H a=some o->a ∉ m->a ∉ B->H' a=some o
 new:∀ a,a ∈ m'->a ∉ m->H a=none
 nb:∀ b,b ∈ B->b ∉ m'
noncomputable def AtB (B:List Addr) (m:List Addr) (H:Hp):Prop:=∀ b,b ∈ B->(∃ vs,H b=some (.lst vs))/\b ∉ m
theorem Ext.toB {B m m':List Addr} {H H':Hp} (hB:AtB B m H) (x:Ext m H m' H'):ExtB B m H m' H':=⟨x.pre,fun a o h n _=>x.keep a o h n,x.new,fun b hb z=>by
 obtain ⟨⟨vs,e⟩,n⟩:=hB b hb;have:=x.new b z n;rw [e] at this;cases this⟩
theorem ExtB.trans {B m m1 m2:List Addr} {H H1 H2:Hp} (x:ExtB B m H m1 H1) (y:ExtB B m1 H1 m2 H2):ExtB B m H m2 H2:=by
 refine ⟨x.pre.trans y.pre,fun a o h n nb=>?_,fun a h n=>?_,y.nb⟩
 ·have n1:a ∉ m1:=fun z=>by have:=x.new a z n;rw [this] at h;cases h
  exact y.keep a o (x.keep a o h n nb) n1 nb
 ·by_cases h1:a ∈ m1
  ·exact x.new a h1 n
  ·cases e:H a with
   | none=>rfl
   | some o=>
    by_cases hb:a ∈ B
    ·exact absurd h (y.nb a hb)
    ·have:=x.keep a o e n hb;rw [y.new a h h1] at this;cases this
theorem AtB.ext {B m m':List Addr} {H H':Hp} (hB:AtB B m H) (x:Ext m H m' H'):AtB B m' H':=fun b hb=>by
 obtain ⟨⟨vs,e⟩,n⟩:=hB b hb;exact ⟨⟨vs,x.keep _ _ e n⟩,(x.toB hB).nb b hb⟩
noncomputable def IOk (K:PySem.W.Frag) (B:List Addr) (J:It) (nx:Nxt) (m0:List Addr) (H0:Hp):Prop:=∀ (m:List Addr) (S:Sto) (H:Hp) (i:Nat),ExtB B m0 H0 m H->Rel K m S H ->
 (nx i S=some none->J.stop i H)/\(∀ d,nx i S=some (some d)->J.go i H/\∀ x H',J.yld i H x H'->Aft K m H S m H'/\VD K m H' d x)
noncomputable def tIt (K:PySem.W.Frag) (B:List Addr) (x:XI):TI:=fun σ H R=>∃ m ρ S nx S',EnvR K m H ρ σ/\Rel K m S H/\AtB B m H/\x ρ S=some (nx,S')/\∀ m' H' J,Aft K m H S' m' H'->IOk K B J nx m' H'->R J H'
noncomputable def nxL (ds:List D):Nxt:=fun i _=>some ds[i]?
noncomputable def nxS (n:Nat):Nxt:=fun i S=>(am S n).map fun ds=>ds[i]?
noncomputable def nxR (lo:Int) (n:Nat):Nxt:=fun i _=>some (if i < n then some (.int (lo+i)) else none)
noncomputable def aX (i:Nat) (d:D):D:=.tup [.int i,d]
noncomputable def enm (ds:List D) (i:Nat):Option (Option D):=if i<=ds.length then some (ds[i]?.map (aX i)) else none
noncomputable def uy (ds:List D):Nxt:=fun i _=>enm ds i
noncomputable def xU (n:Nat):Nxt:=fun i S=>(am S n).bind fun ds=>enm ds i
section
variable {X:Cx} {K:PySem.W.Frag} {m B:List Addr} {H:Hp} {S:Sto}
theorem De {m0 m:List Addr} {H0 H:Hp} {S0:Sto} {a:Addr} {xs:List V} (R:Rel K m0 S0 H0) (hB:AtB B m0 H0) (x:ExtB B m0 H0 m H) (h:H0 a=some (.tup xs)):H a=some (.tup xs):=x.keep _ _ h (R.notTup h) fun z=>by
 obtain ⟨⟨vs,e⟩,_⟩:=hB a z;rw [e] at h;cases h
theorem VDs.monoB {m0 m:List Addr} {H0 H:Hp} {S0:Sto} {ds:List D} {vs:List V} (R:Rel K m0 S0 H0) (hB:AtB B m0 H0) (x:ExtB B m0 H0 m H) (h:VDs K m0 H0 ds vs):VDs K m H ds vs:=VDs.mono0 x.pre (fun _ _=>De R hB x) h
theorem VD.monoB {m0 m:List Addr} {H0 H:Hp} {S0:Sto} {d:D} {v:V} (R:Rel K m0 S0 H0) (hB:AtB B m0 H0) (x:ExtB B m0 H0 m H) (h:VD K m0 H0 d v):VD K m H d v:=VD.mono0 x.pre (fun _ _=>De R hB x) h
theorem EnvR.monoB {m0 m:List Addr} {H0 H:Hp} {S0:Sto} {ρ:Rho} {σ:L2.St} (R:Rel K m0 S0 H0) (hB:AtB B m0 H0) (x:ExtB B m0 H0 m H) (h:EnvR K m0 H0 ρ σ):EnvR K m H ρ σ:=
 ⟨h.len,fun i d e=>let ⟨v,p,q⟩:=h.at_ i d e;⟨v,p,VD.monoB R hB x q⟩⟩
theorem rP {a:Addr} {nx:Nxt} {m0:List Addr} {H0:Hp} (h:∀ m S H i o,ExtB B m0 H0 m H->Rel K m S H->nx i S=some o->∃ ds vs,o=ds[i]?/\SqL K H a vs/\VDs K m H ds vs):IOk K B (Itl K a) nx m0 H0:=by
 intro m S H i x R;refine ⟨fun e=>?_,fun d e=>?_⟩
 ·obtain ⟨ds,vs,e',sq,vd⟩:=h m S H i _ x R e;exact ⟨vs,sq,by rw [<-vd.length];exact Yd.mp e'.symm⟩
 ·obtain ⟨ds,vs,e',sq,vd⟩:=h m S H i _ x R e;obtain ⟨v,hv,vv⟩:=vd.get e'.symm;refine ⟨⟨vs,v,sq,hv⟩,fun y H' ⟨eH,hy⟩=>?_⟩;subst eH;have:=hy vs sq;rw [hv] at this;cases this;exact ⟨Aft.refl R,vv⟩
theorem Df {a:Addr} {ds:List D} {vs:List V} {m0:List Addr} {H0:Hp} {S0:Sto} (R0:Rel K m0 S0 H0) (hB:AtB B m0 H0) (sq:H0 a=some (.tup vs)) (vd:VDs K m0 H0 ds vs):IOk K B (Itt K a) (nxL ds) m0 H0:=by
 intro m S H i x R;have sq':SqT K H a vs:=.of (De R0 hB x sq);have vd':=vd.monoB R0 hB x;refine ⟨fun e=>⟨vs,sq',?_⟩,fun d e=>?_⟩
 ·rw [<-vd'.length];exact Yd.mp (Option.some.inj e)
 ·obtain ⟨v,hv,vv⟩:=vd'.get (Option.some.inj e);refine ⟨⟨vs,v,sq',hv⟩,fun y H' ⟨eH,hy⟩=>?_⟩;subst eH;have:=hy vs sq';rw [hv] at this;cases this;exact ⟨Aft.refl R,vv⟩
theorem vQ {lo:Int} {n:Nat} {m0:List Addr} {H0:Hp}:IOk K B (Itr lo n) (nxR lo n) m0 H0:=by
 intro m S H i x R;unfold nxR;refine ⟨fun e=>?_,fun d e=>?_⟩
 ·split at e
  ·cases e
  ·show n<=i;omega
 ·split at e
  ·rename_i hi;cases e;exact ⟨hi,fun y H' ⟨eH,hy⟩=>by subst eH;subst hy;exact ⟨Aft.refl R,bq⟩⟩
  ·cases e
theorem qj {a:Addr} {sqf:PySem.W.Frag->Hp->Addr->List V->Prop} {nx:Nxt} {m0:List Addr} {H0:Hp} (h:∀ m S H i o,ExtB B m0 H0 m H->Rel K m S H->nx i S=some o->∃ ds vs,enm ds i=some o/\sqf K H a vs/\VDs K m H ds vs):IOk K B (Ite K a sqf) nx m0 H0:=by
 intro m S H i x R;refine ⟨fun e=>?_,fun d e=>?_⟩
 ·obtain ⟨ds,vs,e',sq,vd⟩:=h m S H i _ x R e;unfold enm at e';split at e'
  ·rename_i hl;refine ⟨vs,sq,?_⟩;rw [<-vd.length];cases hd:ds[i]? with
   | none=>have:=Yd.mp hd;omega
   | some z=>rw [hd] at e';cases e'
  ·cases e'
 ·obtain ⟨ds,vs,e',sq,vd⟩:=h m S H i _ x R e;unfold enm at e';split at e'
  ·cases hd:ds[i]? with
   | none=>rw [hd] at e';cases e'
   | some z=>
    rw [hd] at e';cases e';obtain ⟨v,hv,vv⟩:=vd.get hd;refine ⟨⟨vs,v,sq,hv⟩,fun y H' ⟨T,hT,ey,hy⟩=>?_⟩;subst ey;have eH:=hy vs v sq hv;subst eH;have xb:=Ext.beside R hT (.tup [.int i,v]);exact ⟨⟨xb,R.beside hT _⟩,pZ bf (.cons bq (.cons (vv.mono R xb) .nil))⟩
  ·cases e'
noncomputable def OX (d:D):Option Nxt:=match d with
 | .tup ds=>some (nxL ds)
 | .ref n=>some (nxS n)
 | _=>none
noncomputable def xIV (x:XE):XI:=fun ρ S=>bnd (x ρ S) fun d S1=>match d with
 | .tup ds=>some (nxL ds,S1)
 | .ref n=>if (am S1 n).isSome=true then some (nxS n,S1) else none
 | _=>none
noncomputable def xIT (x:XA):XI:=fun ρ S=>bnd (x ρ S) fun ds S1=>some (nxL ds,S1)
noncomputable def xEV (x:XE):XI:=fun ρ S=>bnd (x ρ S) fun d S1=>match d with
 | .tup ds=>some (uy ds,S1)
 | .ref n=>if (am S1 n).isSome=true then some (xU n,S1) else none
 | _=>none
noncomputable def xET (x:XA):XI:=fun ρ S=>bnd (x ρ S) fun ds S1=>some (uy ds,S1)
noncomputable def lim (i:Int):Bool:=decide (-(2 ^ 62)<=i) && decide (i < 2 ^ 62)
noncomputable def xR1 (x:XE):XI:=fun ρ S=>bnd (x ρ S) fun d S1=>match d with
 | .int j=>if lim j=true then some (nxR 0 j.toNat,S1) else none
 | _=>none
noncomputable def xR2 (x y:XE):XI:=fun ρ S=>bnd (x ρ S) fun d S1=>bnd (y ρ S1) fun e S2=>match d,e with
 | .int i,.int j=>if lim i=true/\lim j=true then some (nxR i (j - i).toNat,S2) else none
 | _,_=>none
theorem jT {i:Int} (h:lim i=true):-(2 ^ 62)<=i/\i < 2 ^ 62:=by simpa [lim] using h
theorem lB {n:Nat} {a:Addr} {m0:List Addr} (ha:m0[n]?=some a) {m:List Addr} {S:Sto} {H:Hp} (x:m0 <+: m) (R:Rel K m S H) {ds:List D} (hs:am S n=some ds):∃ vs,SqL K H a vs/\VDs K m H ds vs:=by
 obtain ⟨p,vs,hp,sq,vd⟩:=R.seq hs;have:=lp x ha;rw [this] at hp;cases hp;exact ⟨vs,sq,vd⟩
theorem Mc {a:Addr} (hB:AtB B m H) (h:H a=none):a ∉ B:=fun z=>by
 obtain ⟨⟨vs,e⟩,_⟩:=hB a z;rw [h] at e;cases e
theorem Os {x:XE} {σ:L2.St} {H:Hp} {R:It->Hp->Prop} (h:tIt K B (xIV x) σ H R):yL K (tE K x) σ H R\/LA K (tE K x) σ H R:=by
 obtain ⟨m,ρ,S,nx,S',E,Rl,hB,e,q⟩:=h;obtain ⟨d,S1,e1,e⟩:=ae e;cases d with
 | tup ds=>
  cases e;refine .inr ⟨m,ρ,S,_,_,E,Rl,e1,fun m1 H1 v A1 vd=>?_⟩;obtain ⟨a,vs,rfl,sq,vds⟩:=vd.tups;exact ⟨a,rfl,⟨vs,.of sq⟩,q m1 H1 _ A1 (Df A1.rel (hB.ext A1.ext) sq vds)⟩
 | ref n=>
  dsimp only at e;split at e
  ·rename_i hs;cases e;refine .inl ⟨m,ρ,S,_,_,E,Rl,e1,fun m1 H1 v A1 vd=>?_⟩;obtain ⟨a,ha,rfl⟩:=vd.refs;obtain ⟨ds,hds⟩:=ZY.mp hs;obtain ⟨vs,sq,vds⟩:=lB ha (Z9 _) A1.rel hds;refine ⟨a,rfl,⟨vs,sq⟩,q m1 H1 _ A1 (rP fun m2 S2 H2 i o x2 R2 e2=>?_)⟩;unfold nxS at e2;cases h2:am S2 n with
   | none=>rw [h2] at e2;cases e2
   | some es=>
    rw [h2] at e2;cases e2;obtain ⟨ws,sq2,vd2⟩:=lB ha x2.pre R2 h2;exact ⟨es,ws,rfl,sq2,vd2⟩
  ·cases e
 | _=>cases e
theorem Ot {x:XA} {σ:L2.St} {H:Hp} {R:It->Hp->Prop} (h:tIt K B (xIT x) σ H R):yL K (eR K x) σ H R:=by
 obtain ⟨m,ρ,S,nx,S',E,Rl,hB,e,q⟩:=h;obtain ⟨ds,S1,e1,e⟩:=ae e;cases e;refine ⟨m,ρ,S,_,_,E,Rl,e1,fun m1 H1 a vs A1 sq n1 n2 n3 vd=>⟨a,rfl,⟨vs,.of sq⟩,q m1 H1 _ A1 (rP fun m2 S2 H2 i o x2 R2 e2=>?_)⟩⟩;cases e2;exact ⟨ds,vs,rfl,.of (x2.keep _ _ sq n1 (Mc hB n3)),vd.monoB A1.rel (hB.ext A1.ext) x2⟩
theorem Md {x:XE} {σ:L2.St} {H:Hp} {R:It->Hp->Prop} (h:tIt K B (xEV x) σ H R):Hq K (fC (tE K x) pC) σ H R\/L4 K (fC (tE K x) pC) σ H R:=by
 obtain ⟨m,ρ,S,nx,S',E,Rl,hB,e,q⟩:=h;obtain ⟨d,S1,e1,e⟩:=ae e;cases d with
 | tup ds=>
  cases e;refine .inr ⟨m,ρ,S,_,_,E,Rl,e1,fun m1 H1 v A1 vd=>?_⟩;obtain ⟨a,vs,rfl,sq,vds⟩:=vd.tups;refine ⟨a,vs,rfl,.of sq,q m1 H1 _ A1 (qj fun m2 S2 H2 i o x2 R2 e2=>⟨ds,vs,e2,.of (De A1.rel (hB.ext A1.ext) x2 sq),vds.monoB A1.rel (hB.ext A1.ext) x2⟩)⟩
 | ref n=>
  dsimp only at e;split at e
  ·rename_i hs;cases e;refine .inl ⟨m,ρ,S,_,_,E,Rl,e1,fun m1 H1 v A1 vd=>?_⟩;obtain ⟨a,ha,rfl⟩:=vd.refs;obtain ⟨ds,hds⟩:=ZY.mp hs;obtain ⟨vs,sq,vds⟩:=lB ha (Z9 _) A1.rel hds;refine ⟨a,vs,rfl,sq,q m1 H1 _ A1 (qj fun m2 S2 H2 i o x2 R2 e2=>?_)⟩;unfold xU at e2;cases h2:am S2 n with
   | none=>rw [h2] at e2;cases e2
   | some es=>
    rw [h2] at e2;obtain ⟨ws,sq2,vd2⟩:=lB ha x2.pre R2 h2;exact ⟨es,ws,e2,sq2,vd2⟩
  ·cases e
 | _=>cases e
theorem Me {x:XA} {σ:L2.St} {H:Hp} {R:It->Hp->Prop} (h:tIt K B (xET x) σ H R):Hq K (fC (eR K x) pC) σ H R:=by
 obtain ⟨m,ρ,S,nx,S',E,Rl,hB,e,q⟩:=h;obtain ⟨ds,S1,e1,e⟩:=ae e;cases e;exact ⟨m,ρ,S,_,_,E,Rl,e1,fun m1 H1 a vs A1 sq n1 n2 n3 vd=>⟨a,vs,rfl,.of sq,q m1 H1 _ A1 (qj fun m2 S2 H2 i o x2 R2 e2=>⟨ds,vs,e2,.of (x2.keep _ _ sq n1 (Mc hB n3)),vd.monoB A1.rel (hB.ext A1.ext) x2⟩)⟩⟩
theorem Mf {x:XE} {σ:L2.St} {H:Hp} {R:It->Hp->Prop} (h:tIt K B (xR1 x) σ H R):FN (fC (tE K x) pC) σ H R:=by
 obtain ⟨m,ρ,S,nx,S',E,Rl,hB,e,q⟩:=h;obtain ⟨d,S1,e1,e⟩:=ae e;refine ⟨m,ρ,S,d,S1,E,Rl,e1,fun m1 H1 v A1 vd=>?_⟩;cases d with
 | int j=>
  dsimp only at e;split at e
  ·rename_i hl;cases e;exact ⟨j,by rw [vd.ints],(jT hl).1,(jT hl).2,q m1 H1 _ A1 vQ⟩
  ·cases e
 | _=>cases e
theorem Mg {x y:XE} {σ:L2.St} {H:Hp} {R:It->Hp->Prop} (h:tIt K B (xR2 x y) σ H R):FO (fC (tE K x) (fC (tE K y) pC)) σ H R:=by
 obtain ⟨m,ρ,S,nx,S',E,Rl,hB,e,q⟩:=h;obtain ⟨d,S1,e1,e⟩:=ae e;obtain ⟨c,S2,e2,e⟩:=ae e;refine ⟨m,ρ,S,d,S1,E,Rl,e1,fun m1 H1 v A1 vd=>⟨m1,ρ,S1,c,S2,E.mono Rl A1.ext,A1.rel,e2,fun m2 H2 w A2 vc=>?_⟩⟩;cases d with
 | int i=>
  cases c with
  | int j=>
   dsimp only at e;split at e
   ·rename_i hl;cases e;exact ⟨i,j,by rw [vd.ints,vc.ints],⟨(jT hl.1).1,(jT hl.1).2,(jT hl.2).1,(jT hl.2).2⟩,q m2 H2 _ (A1.trans A2) vQ⟩
   ·cases e
  | _=>cases e
 | _=>cases e
inductive Tg where
 | name (i:Nat) | tup (ts:List Tg)
mutual
noncomputable def ay:Tg->D->Rho->Option Rho
 | .name i,d,ρ=>if i < ρ.length then some (ρ.set i (some d)) else none
 | .tup ts,.tup ds,ρ=>aN ts ds ρ
 | _,_,_=>none
noncomputable def aN:List Tg->List D->Rho->Option Rho
 | [],[],ρ=>some ρ
 | t::ts,d::ds,ρ=>match ay t d ρ with
  | some ρ'=>aN ts ds ρ'
  | none=>none
 | _,_,_=>none
end
noncomputable def tTg (K:PySem.W.Frag) (t:Tg):TG:=fun x σ H Q=>∃ m S ρ d ρ',Rel K m S H/\EnvR K m H ρ σ/\VD K m H d x/\ay t d ρ=some ρ'/\∀ σ',EnvR K m H ρ' σ'->Q σ' H
noncomputable def zT (K:PySem.W.Frag) (ts:List Tg):TGs:=fun xs σ H Q=>∃ m S ρ ds ρ',Rel K m S H/\EnvR K m H ρ σ/\VDs K m H ds xs/\aN ts ds ρ=some ρ'/\∀ σ',EnvR K m H ρ' σ'->Q σ' H
theorem EnvR.set {ρ:Rho} {σ:L2.St} {i:Nat} {d:D} {v:V} (E:EnvR K m H ρ σ) (h:VD K m H d v):EnvR K m H (ρ.set i (some d)) (σ.set i (some v)):=by
 refine ⟨by simp [E.len],fun j d' e=>?_⟩;rw [Yv] at e;rw [Yv,<-E.len];by_cases hj:i=j
 ·rw [if_pos hj] at e ⊢;split at e
  ·rename_i hl;rw [if_pos hl];cases e;exact ⟨v,rfl,h⟩
  ·cases e
 ·rw [if_neg hj] at e ⊢;exact E.at_ j d' e
theorem qk {i:Nat} {x:V} {σ:L2.St} {H:Hp} {Q:L2.St->Hp->Prop} (h:tTg K (.name i) x σ H Q):qU i x σ H Q:=by
 obtain ⟨m,S,ρ,d,ρ',R,E,vd,e,q⟩:=h;simp only [ay] at e;split at e
 ·cases e;exact q _ (E.set vd)
 ·cases e
theorem Ib {ts:List Tg} {n:Nat} {x:V} {σ:L2.St} {H:Hp} {Q:L2.St->Hp->Prop} (hn:n=ts.length) (h:tTg K (.tup ts) x σ H Q):GW K n (zT K ts) x σ H Q:=by
 obtain ⟨m,S,ρ,d,ρ',R,E,vd,e,q⟩:=h;cases d with
 | tup ds=>
  simp only [ay] at e;obtain ⟨a,vs,rfl,sq,vds⟩:=vd.tups;refine ⟨a,vs,rfl,.of sq,?_,m,S,ρ,ds,ρ',R,E,vds,e,q⟩
  have len:∀ (ts:List Tg) (ds:List D) (ρ ρ':Rho),aN ts ds ρ=some ρ'->ts.length=ds.length:=by
   intro ts
   induction ts with
   | nil=>intro ds ρ ρ' e;cases ds with | nil=>rfl | cons _ _=>simp [aN] at e
   | cons t ts ih=>
    intro ds ρ ρ' e;cases ds with
    | nil=>simp [aN] at e
    | cons d ds=>
     simp only [aN] at e;split at e
     ·simp [ih _ _ _ e]
     ·cases e
  rw [hn,<-vds.length];exact (len _ _ _ _ e).symm
 | _=>simp [ay] at e
theorem Dg {xs:List V} {σ:L2.St} {H:Hp} {Q:L2.St->Hp->Prop} (h:zT K [] xs σ H Q):GV xs σ H Q:=by
 obtain ⟨m,S,ρ,ds,ρ',R,E,vd,e,q⟩:=h;cases ds with
 | nil=>simp [aN] at e;subst e;rw [VDs] at vd;exact ⟨vd,q _ E⟩
 | cons _ _=>simp [aN] at e
theorem zU {t:Tg} {ts:List Tg} {xs:List V} {σ:L2.St} {H:Hp} {Q:L2.St->Hp->Prop} (h:zT K (t::ts) xs σ H Q):vm (tTg K t) (zT K ts) xs σ H Q:=by
 obtain ⟨m,S,ρ,ds,ρ',R,E,vd,e,q⟩:=h;cases ds with
 | nil=>simp [aN] at e
 | cons d ds=>
  simp only [aN] at e;rw [VDs] at vd;obtain ⟨y,r,rfl,p,p'⟩:=vd;cases hb:ay t d ρ with
  | none=>rw [hb] at e;cases e
  | some ρ1=>
   rw [hb] at e;exact ⟨y,r,rfl,m,S,ρ,d,ρ1,R,E,p,hb,fun σ' E'=>⟨m,S,ρ1,ds,ρ',R,E',p',e,q⟩⟩
theorem PG.imp {e:Expr} {t t':TG} (h:PG X e t) (f:∀ x σ H Q,t' x σ H Q->t x σ H Q):PG X e t':=fun pins s σ H v u Q I r q=>h pins s σ H v u Q I r (f v σ H Q q)
theorem PGs.imp {es:List Expr} {t t':TGs} (h:PGs X es t) (f:∀ x σ H Q,t' x σ H Q->t x σ H Q):PGs X es t':=fun pins s σ H v u Q I r q=>h pins s σ H v u Q I r (f v σ H Q q)
end
end Ev
namespace Ev
open PySem PySem.Spec PyProof.Rows L2
inductive Fl where
 | nx | bk | ct | rt (d:D)
noncomputable abbrev XS:=Rho->Sto->Option (Fl × Rho × Sto)
noncomputable def vR (K:PySem.W.Frag) (m:List Addr) (H:Hp) (fl:Fl) (ρ:Rho) (D:Ends):Prop:=match fl with
 | .nx=>∀ σ,EnvR K m H ρ σ->D.nx σ H
 | .bk=>∀ σ,EnvR K m H ρ σ->D.bk σ H
 | .ct=>∀ σ,EnvR K m H ρ σ->D.ct σ H
 | .rt d=>∀ v,VD K m H d v->D.rt v H
noncomputable def tSt (K:PySem.W.Frag) (x:XS):TS:=fun D σ H=>∃ m ρ S fl ρ' S',EnvR K m H ρ σ/\Rel K m S H/\x ρ S=some (fl,ρ',S')/\∀ m' H',Aft K m H S' m' H'->vR K m' H' fl ρ' D
section
variable {X:Cx} {K:PySem.W.Frag} {m:List Addr} {H:Hp} {S:Sto}
noncomputable def zV (x y:XS):XS:=fun ρ S=>match x ρ S with
 | none=>none
 | some (.nx,ρ1,S1)=>y ρ1 S1
 | some r=>some r
noncomputable def F0:XS:=fun ρ S=>some (.nx,ρ,S)
theorem Dh {D:Ends} {σ:L2.St} {H:Hp} (h:tSt K F0 D σ H):FK D σ H:=by
 obtain ⟨m,ρ,S,fl,ρ',S',E,R,e,q⟩:=h;cases e;exact q m H (Aft.refl R) σ E
theorem Ic {x y:XS} {D:Ends} {σ:L2.St} {H:Hp} (h:tSt K (zV x y) D σ H):Lu (tSt K x) (tSt K y) D σ H:=by
 obtain ⟨m,ρ,S,fl,ρ',S',E,R,e,q⟩:=h;unfold zV at e;cases hx:x ρ S with
 | none=>rw [hx] at e;cases e
 | some r=>
  obtain ⟨f1,ρ1,S1⟩:=r;rw [hx] at e;refine ⟨m,ρ,S,f1,ρ1,S1,E,R,hx,fun m1 H1 A1=>?_⟩;cases f1 with
  | nx=>exact fun σ1 E1=>⟨m1,ρ1,S1,fl,ρ',S',E1,A1.rel,e,fun m2 H2 A2=>q m2 H2 (A1.trans A2)⟩
  | bk=>cases e;exact q m1 H1 A1
  | ct=>cases e;exact q m1 H1 A1
  | rt d=>cases e;exact q m1 H1 A1
noncomputable def rQ (x:XE):XS:=fun ρ S=>match x ρ S with
 | none=>none
 | some (_,S1)=>some (.nx,ρ,S1)
noncomputable def zW (x:XE):XS:=fun ρ S=>match x ρ S with
 | none=>none
 | some (d,S1)=>some (.rt d,ρ,S1)
noncomputable def Mh:XS:=fun ρ S=>some (.ct,ρ,S)
theorem Di {x:XE} {D:Ends} {σ:L2.St} {H:Hp} (h:tSt K (rQ x) D σ H):FM (tE K x) D σ H:=by
 obtain ⟨m,ρ,S,fl,ρ',S',E,R,e,q⟩:=h;unfold rQ at e;cases hx:x ρ S with
 | none=>rw [hx] at e;cases e
 | some r=>
  obtain ⟨d,S1⟩:=r;rw [hx] at e;cases e;exact ⟨m,ρ,S,d,_,E,R,hx,fun m1 H1 v A1 _=>q m1 H1 A1 σ (E.mono R A1.ext)⟩
theorem Ie {x:XE} {D:Ends} {σ:L2.St} {H:Hp} (h:tSt K (zW x) D σ H):Lv (tE K x) D σ H:=by
 obtain ⟨m,ρ,S,fl,ρ',S',E,R,e,q⟩:=h;unfold zW at e;cases hx:x ρ S with
 | none=>rw [hx] at e;cases e
 | some r=>
  obtain ⟨d,S1⟩:=r;rw [hx] at e;cases e;exact ⟨m,ρ,S,d,_,E,R,hx,fun m1 H1 v A1 vd=>q m1 H1 A1 v vd⟩
theorem Ig {D:Ends} {σ:L2.St} {H:Hp} (h:tSt K Mh D σ H):FL D σ H:=by
 obtain ⟨m,ρ,S,fl,ρ',S',E,R,e,q⟩:=h;cases e;exact q m H (Aft.refl R) σ E
noncomputable def xIf (c:XT) (x y:XS):XS:=fun ρ S=>match c ρ S with
 | none=>none
 | some (b,S1)=>if b=true then x ρ S1 else y ρ S1
theorem Mi {c:XT} {x y:XS} {D:Ends} {σ:L2.St} {H:Hp} (h:tSt K (xIf c x y) D σ H):Lx (tT K c) (tSt K x) (tSt K y) D σ H:=by
 obtain ⟨m,ρ,S,fl,ρ',S',E,R,e,q⟩:=h;unfold xIf at e;cases hc:c ρ S with
 | none=>rw [hc] at e;cases e
 | some r=>
  obtain ⟨b,S1⟩:=r;rw [hc] at e;dsimp only at e;refine ⟨m,ρ,S,b,S1,E,R,hc,fun m1 H1 A1=>?_⟩;dsimp only;split
  ·rename_i hb;rw [if_pos hb] at e;exact ⟨m1,ρ,S1,fl,ρ',S',E.mono R A1.ext,A1.rel,e,fun m2 H2 A2=>q m2 H2 (A1.trans A2)⟩
  ·rename_i hb;rw [if_neg hb] at e;exact ⟨m1,ρ,S1,fl,ρ',S',E.mono R A1.ext,A1.rel,e,fun m2 H2 A2=>q m2 H2 (A1.trans A2)⟩
noncomputable def mF (x:XE) (t:Tg):XS:=fun ρ S=>match x ρ S with
 | none=>none
 | some (d,S1)=>(ay t d ρ).map fun ρ1=>(.nx,ρ1,S1)
theorem uz {x:XE} {t:Tg} {D:Ends} {σ:L2.St} {H:Hp} (h:tSt K (mF x t) D σ H):wW (tE K x) (tTg K t) D σ H:=by
 obtain ⟨m,ρ,S,fl,ρ',S',E,R,e,q⟩:=h;unfold mF at e;cases hx:x ρ S with
 | none=>rw [hx] at e;cases e
 | some r=>
  obtain ⟨d,S1⟩:=r;rw [hx] at e;dsimp only at e;cases hb:ay t d ρ with
  | none=>rw [hb] at e;cases e
  | some ρ1=>
   rw [hb] at e;cases e;exact ⟨m,ρ,S,d,_,E,R,hx,fun m1 H1 v A1 vd=>⟨m1,_,ρ,d,_,A1.rel,E.mono R A1.ext,vd,hb,fun σ' E'=>q m1 H1 A1 σ' E'⟩⟩
noncomputable def rR (v o i:XE):XS:=fun ρ S=>match v ρ S with
 | none=>none
 | some (dv,S1)=>match o ρ S1 with
  | none=>none
  | some (d_o,S2)=>match i ρ S2 with
   | none=>none
   | some (di,S3)=>(eD d_o di dv S3).map fun S4=>(.nx,ρ,S4)
theorem Dj {v o i:XE} {D:Ends} {σ:L2.St} {H:Hp} (h:tSt K (rR v o i) D σ H):wW (tE K v) (yJ (tE K o) (tE K i) (zR K)) D σ H:=by
 obtain ⟨m,ρ,S,fl,ρ',S',E,R,e,q⟩:=h;unfold rR at e;cases h1:v ρ S with
 | none=>rw [h1] at e;cases e
 | some r1=>
  obtain ⟨dv,S1⟩:=r1;rw [h1] at e;dsimp only at e;cases h2:o ρ S1 with
  | none=>rw [h2] at e;cases e
  | some r2=>
   obtain ⟨d2,S2⟩:=r2;rw [h2] at e;dsimp only at e;cases h3:i ρ S2 with
   | none=>rw [h3] at e;cases e
   | some r3=>
    obtain ⟨d3,S3⟩:=r3;rw [h3] at e;dsimp only at e;cases h4:eD d2 d3 dv S3 with
    | none=>rw [h4] at e;cases e
    | some S4=>
     rw [h4] at e;cases e;refine ⟨m,ρ,S,dv,S1,E,R,h1,fun m1 H1 v1 A1 vd1=>⟨m1,ρ,S1,d2,S2,E.mono R A1.ext,A1.rel,h2,fun m2 H2 v2 A2 vd2=>⟨m2,ρ,S2,d3,S3,E.mono R (A1.trans A2).ext,A2.rel,h3,fun m3 H3 v3 A3 vd3=>?_⟩⟩⟩;exact ⟨m3,S3,d2,d3,dv,_,A3.rel,vd2.mono A2.rel A3.ext,vd3,vd1.mono A1.rel (A2.trans A3).ext,h4,fun m4 H4 A4=>q m4 H4 (((A1.trans A2).trans A3).trans A4) σ (E.mono R (((A1.trans A2).trans A3).trans A4).ext)⟩
noncomputable def mG (dv:D) (o i:XE) (ρ:Rho) (S:Sto):Option Sto:=match o ρ S with
 | none=>none
 | some r=>(match i ρ r.2 with
  | none=>none
  | some u=>eD r.1 u.1 dv u.2)
theorem xV {dv:D} {o i:XE} {ρ:Rho} {S S4:Sto} (h:mG dv o i ρ S=some S4):∃ r u,o ρ S=some r/\i ρ r.2=some u/\eD r.1 u.1 dv u.2=some S4:=by
 unfold mG at h;cases h1:o ρ S with
 | none=>rw [h1] at h;cases h
 | some r=>
  rw [h1] at h;dsimp only at h;cases h2:i ρ r.2 with
  | none=>rw [h2] at h;cases h
  | some u=>rw [h2] at h;exact ⟨r,u,rfl,h2,h⟩
noncomputable def Dk:D->Option (D × D)
 | .tup [a,b]=>some (a,b)
 | _=>none
noncomputable def zX (v o i q j:XE):XS:=fun ρ S=>match v ρ S with
 | none=>none
 | some r=>(match Dk r.1 with
  | none=>none
  | some d=>(match mG d.1 o i ρ r.2 with
   | none=>none
   | some S2=>(mG d.2 q j ρ S2).map fun S3=>(.nx,ρ,S3)))
theorem zY {dv:D} {o i:XE} {ρ:Rho} {S S4:Sto} {m:List Addr} {H:Hp} {σ:L2.St} {v:V} {Q:L2.St->Hp->Prop} (E:EnvR K m H ρ σ) (R:Rel K m S H) (vd:VD K m H dv v) (h:mG dv o i ρ S=some S4) (q:∀ m' H',Aft K m H S4 m' H'->Q σ H'):yJ (tE K o) (tE K i) (zR K) v σ H Q:=by
 obtain ⟨r,u,h1,h2,h3⟩:=xV h;exact ⟨m,ρ,S,r.1,r.2,E,R,h1,fun m1 H1 v1 A1 vd1=>⟨m1,ρ,r.2,u.1,u.2,E.mono R A1.ext,A1.rel,h2,fun m2 H2 v2 A2 vd2=>⟨m2,u.2,r.1,u.1,dv,S4,A2.rel,vd1.mono A1.rel A2.ext,vd2,vd.mono R (A1.trans A2).ext,h3,fun m3 H3 A3=>q m3 H3 ((A1.trans A2).trans A3)⟩⟩⟩
theorem Ih {v o i q j:XE} {D:Ends} {σ:L2.St} {H:Hp} (h:tSt K (zX v o i q j) D σ H):wW (tE K v) (GW K 2 (vm (yJ (tE K o) (tE K i) (zR K)) (vm (yJ (tE K q) (tE K j) (zR K)) GV))) D σ H:=by
 obtain ⟨m,ρ,S,fl,ρ',S',E,R,e,z⟩:=h;unfold zX at e;cases h1:v ρ S with
 | none=>rw [h1] at e;cases e
 | some r=>
  rw [h1] at e;dsimp only at e;cases h2:Dk r.1 with
  | none=>rw [h2] at e;cases e
  | some d=>
   rw [h2] at e;dsimp only at e;cases h3:mG d.1 o i ρ r.2 with
   | none=>rw [h3] at e;cases e
   | some S2=>
    rw [h3] at e;dsimp only at e;cases h4:mG d.2 q j ρ S2 with
    | none=>rw [h4] at e;cases e
    | some S3=>
     rw [h4] at e;cases e
     have hd:r.1 = .tup [d.1,d.2]:=by
      unfold Dk at h2;split at h2
      ·rename_i a b e;rw [e];cases h2;rfl
      ·cases h2
     refine ⟨m,ρ,S,r.1,r.2,E,R,h1,fun m1 H1 w A1 vd=>?_⟩;rw [hd] at vd;obtain ⟨p,vs,rfl,sq,vds⟩:=vd.tups;obtain ⟨x,y,rfl,vx,vy⟩:=ug vds;refine ⟨p,[x,y],rfl,.of sq,rfl,x,[y],rfl,zY (E.mono R A1.ext) A1.rel vx h3 fun m2 H2 A2=>⟨y,[],rfl,zY (E.mono R (A1.trans A2).ext) A2.rel (vy.mono A1.rel A2.ext) h4 fun m3 H3 A3=>⟨rfl,?_⟩⟩⟩;exact z m3 H3 ((A1.trans A2).trans A3) σ (E.mono R ((A1.trans A2).trans A3).ext)
noncomputable def eF (nx:Nxt) (tg:Tg) (b:XS):Nat->Nat->XS
 | 0,_=>fun _ _=>none
 | k+1,i=>fun ρ S=>match nx i S with
  | none=>none
  | some none=>some (.nx,ρ,S)
  | some (some d)=>match ay tg d ρ with
   | none=>none
   | some ρ1=>match b ρ1 S with
    | none=>none
    | some (.nx,ρ2,S2)=>eF nx tg b k (i+1) ρ2 S2
    | some (.ct,ρ2,S2)=>eF nx tg b k (i+1) ρ2 S2
    | some (.bk,ρ2,S2)=>some (.nx,ρ2,S2)
    | some (.rt d,ρ2,S2)=>some (.rt d,ρ2,S2)
noncomputable def zZ (it:XI) (tg:Tg) (b:XS) (k:Nat):XS:=fun ρ S=>match it ρ S with
 | none=>none
 | some (nx,S1)=>eF nx tg b k 0 ρ S1
theorem Dl {nx:Nxt} {tg:Tg} {b:XS} {J:It} {m1:List Addr} {H1:Hp} {D:Ends} (hI:IOk K [] J nx m1 H1) (k:Nat) {m:List Addr} {ρ:Rho} {S:Sto} {σ:L2.St} {H:Hp} {fl:Fl} {ρ':Rho} {S':Sto} (E:EnvR K m H ρ σ) (R:Rel K m S H) (x:Ext m1 H1 m H) (e:eF nx tg b k 0 ρ S=some (fl,ρ',S')) (q:∀ m' H',Aft K m H S' m' H'->vR K m' H' fl ρ' D) :
  ∃ W:Nat->Nat->L2.St->Hp->Prop,(∃ m,W 0 m σ H)/\∀ i m σ H,W i m σ H ->
   (J.stop i H/\D.nx σ H)\/(J.go i H/\∃ N:L2.St->Hp->Prop,(∀ σ' H',N σ' H'->∃ m',m' < m/\W (i+1) m' σ' H')/\∀ x H',J.yld i H x H'->tTg K tg x σ H' fun σ2 H2=>tSt K b { D with nx:=N,ct:=N,bk:=D.nx } σ2 H2):=by
 refine ⟨fun i k σ H=>∃ m ρ S fl ρ' S',EnvR K m H ρ σ/\Rel K m S H/\Ext m1 H1 m H/\eF nx tg b k i ρ S=some (fl,ρ',S')/\∀ m' H',Aft K m H S' m' H'->vR K m' H' fl ρ' D,⟨k,m,ρ,S,fl,ρ',S',E,R,x,e,q⟩,?_⟩;intro i k σ H ⟨m,ρ,S,fl,ρ',S',E,R,x,e,q⟩;cases k with
 | zero=>simp [eF] at e
 | succ k=>
  simp only [eF] at e;cases hn:nx i S with
  | none=>rw [hn] at e;cases e
  | some o=>
   rw [hn] at e;obtain ⟨h1,h2⟩:=hI m S H i (x.toB fun b hb=>absurd hb (by simp)) R;cases o with
   | none=>cases e;exact .inl ⟨h1 hn,q m H (Aft.refl R) σ E⟩
   | some d=>
    obtain ⟨go,hy⟩:=h2 d hn;dsimp only at e;cases hb:ay tg d ρ with
    | none=>rw [hb] at e;cases e
    | some ρ1=>
     rw [hb] at e;dsimp only at e;cases hx:b ρ1 S with
     | none=>rw [hx] at e;cases e
     | some r=>
      obtain ⟨f2,ρ2,S2⟩:=r;rw [hx] at e;refine .inr ⟨go,fun σ' H'=>∃ m ρ S fl ρ' S',EnvR K m H' ρ σ'/\Rel K m S H'/\Ext m1 H1 m H'/\eF nx tg b k (i+1) ρ S=some (fl,ρ',S')/\∀ m' H'',Aft K m H' S' m' H''->vR K m' H'' fl ρ' D,fun σ' H' z=>⟨k,YX k,z⟩,fun y H' yl=>?_⟩;obtain ⟨A,vd⟩:=hy y H' yl;refine ⟨m,S,ρ,d,ρ1,A.rel,E.mono R A.ext,vd,hb,fun σ2 E2=>⟨m,ρ1,S,f2,ρ2,S2,E2,A.rel,hx,fun m3 H3 A3=>?_⟩⟩;cases f2 with
      | nx=>exact fun σ3 E3=>⟨m3,ρ2,S2,fl,ρ',S',E3,A3.rel,(x.trans A.ext).trans A3.ext,e,fun m4 H4 A4=>q m4 H4 ((A.trans A3).trans A4)⟩
      | ct=>exact fun σ3 E3=>⟨m3,ρ2,S2,fl,ρ',S',E3,A3.rel,(x.trans A.ext).trans A3.ext,e,fun m4 H4 A4=>q m4 H4 ((A.trans A3).trans A4)⟩
      | bk=>cases e;exact fun σ3 E3=>q m3 H3 (A.trans A3) σ3 E3
      | rt d=>cases e;exact fun v vd=>q m3 H3 (A.trans A3) v vd
theorem Ii {it:XI} {tg:Tg} {b:XS} {k:Nat} {D:Ends} {σ:L2.St} {H:Hp} (h:tSt K (zZ it tg b k) D σ H):LB (tIt K [] it) (tTg K tg) (tSt K b) D σ H:=by
 obtain ⟨m,ρ,S,fl,ρ',S',E,R,e,q⟩:=h;unfold zZ at e;cases hi:it ρ S with
 | none=>rw [hi] at e;cases e
 | some r=>
  obtain ⟨nx,S1⟩:=r;rw [hi] at e;exact ⟨m,ρ,S,nx,S1,E,R,fun b hb=>absurd hb (by simp),hi,fun m1 H1 J A1 hI=>Dl hI k (E.mono R A1.ext) A1.rel (Ext.refl _ _) e fun m2 H2 A2=>q m2 H2 (A1.trans A2)⟩
end
end Ev
namespace Ev
open PySem PySem.Spec PyProof.Rows L2
mutual
noncomputable def dD:Tg->Rho->Bool
 | .name i,ρ=>match ρ[i]? with
  | some none=>true
  | _=>false
 | .tup ts,ρ=>fU ts ρ
noncomputable def fU:List Tg->Rho->Bool
 | [],_=>true
 | t::ts,ρ=>dD t ρ && fU ts ρ
end
structure LeR (ρ ρ':Rho):Prop where
 len:ρ.length=ρ'.length
 at_:∀ (i:Nat) (d:D),ρ[i]?=some (some d)->ρ'[i]?=some (some d)
theorem LeR.refl (ρ:Rho):LeR ρ ρ:=⟨rfl,fun _ _ h=>h⟩
mutual
theorem rT {ρ0:Rho}:∀ {t:Tg} {d:D} {ρ ρ':Rho},LeR ρ0 ρ->dD t ρ0=true->ay t d ρ=some ρ'->LeR ρ0 ρ'
 | .name i,d,ρ,ρ',l,f,e=>by
  simp only [ay] at e;split at e
  ·cases e;refine ⟨by simp [l.len],fun j d' h=>?_⟩;rw [Yv];by_cases hj:i=j
   ·subst hj;simp only [dD] at f;rw [h] at f;cases f
   ·rw [if_neg hj];exact l.at_ j d' h
  ·cases e
 | .tup ts,.tup ds,ρ,ρ',l,f,e=>by
  simp only [ay] at e;simp only [dD] at f;exact oJ l f e
 | .tup ts,.non,_,_,_,_,e=>by simp [ay] at e
 | .tup ts,.bl _,_,_,_,_,e=>by simp [ay] at e
 | .tup ts,.int _,_,_,_,_,e=>by simp [ay] at e
 | .tup ts,.str _,_,_,_,_,e=>by simp [ay] at e
 | .tup ts,.ref _,_,_,_,_,e=>by simp [ay] at e
theorem oJ {ρ0:Rho}:∀ {ts:List Tg} {ds:List D} {ρ ρ':Rho},LeR ρ0 ρ->fU ts ρ0=true->aN ts ds ρ=some ρ'->LeR ρ0 ρ'
 | [],[],ρ,ρ',l,_,e=>by simp only [aN] at e;cases e;exact l
 | [],_::_,_,_,_,_,e=>by simp [aN] at e
 | _::_,[],_,_,_,_,e=>by simp [aN] at e
 | t::ts,d::ds,ρ,ρ',l,f,e=>by
  simp only [aN] at e;simp only [fU,bAE] at f;cases hb:ay t d ρ with
  | none=>rw [hb] at e;cases e
  | some ρ1=>rw [hb] at e;exact oJ (rT l f.1 hb) f.2 e
end
section
variable {X:Cx} {K:PySem.W.Frag} {m:List Addr} {H:Hp} {S:Sto}
theorem EnvR.weaken {ρ ρ':Rho} {σ:L2.St} (E:EnvR K m H ρ' σ) (l:LeR ρ ρ'):EnvR K m H ρ σ:=⟨l.len.trans E.len,fun i d h=>E.at_ i d (l.at_ i d h)⟩
noncomputable def bh (nx:Nxt) (tg:Tg) (c:XA) (ρ:Rho):Nat->Nat->Sto->Option (List D × Sto)
 | 0,_,_=>none
 | k+1,i,S=>match nx i S with
  | none=>none
  | some none=>some ([],S)
  | some (some d)=>match ay tg d ρ with
   | none=>none
   | some ρ1=>bnd (c ρ1 S) fun es S1=>bnd (bh nx tg c ρ k (i+1) S1) fun rs S2=>some (es++rs,S2)
noncomputable def z5 (t:XT) (c:XA):XA:=fun ρ S=>bnd (t ρ S) fun b S1=>if b=true then c ρ S1 else some ([],S1)
noncomputable def F1 (x:XE):XA:=fun ρ S=>bnd (x ρ S) fun d S1=>some ([d],S1)
noncomputable def jU (it:XI) (tg:Tg) (c:XA) (k:Nat):XA:=fun ρ S=>if dD tg ρ=true then bnd (it ρ S) fun nx S1=>bh nx tg c ρ k 0 S1 else none
noncomputable def mH (own:Nat) (it:XI) (tg:Tg) (c:XA) (k:Nat):XA:=fun ρ S=>bnd (it ρ S) fun nx S1=>if dD tg (ρ++Zo own none)=true then
 (bnd (bh nx tg c (ρ++Zo own none) k 0 S1) fun es S2=>if es.length<=100000 then some (es,S2) else none) else none
noncomputable def tCl (K:PySem.W.Frag) (acc:Addr) (c:XA):TS:=fun D σ H=>∃ m ρ S es S' zs vs,EnvR K m H ρ σ/\Rel K m S H/\acc ∉ m/\H acc=some (.lst vs)/\VDs K m H zs vs/\zs.length+es.length<=100000/\c ρ S=some (es,S') ∧
 ∀ m' H' σ' vs',ExtB [acc] m H m' H'->Rel K m' S' H'->H' acc=some (.lst vs')->VDs K m' H' (zs++es) vs'->EnvR K m' H' ρ σ'->D.nx σ' H'
theorem z6 {acc:Addr} {vs:List V} (h:H acc=some (.lst vs)) (n:acc ∉ m):AtB [acc] m H:=fun b hb=>by simp at hb;subst hb;exact ⟨⟨vs,h⟩,n⟩
theorem ExtB.refl {acc:Addr} (n:acc ∉ m):ExtB [acc] m H m H:=⟨Z9 m,fun _ _ h _ _=>h,fun _ h n=>absurd h n,fun b hb=>by simp at hb;subst hb;exact n⟩
theorem ExtB.put {acc:Addr} (n:acc ∉ m) (o:HO):ExtB [acc] m H m (upd H acc o):=⟨Z9 m,fun a u h _ nb=>by
 rw [aG (fun z=>nb (by simp [z]))];exact h,fun _ h n=>absurd h n,fun b hb=>by simp at hb;subst hb;exact n⟩
theorem Rel.extB {acc:Addr} {H':Hp} (R:Rel K m S H) (hB:AtB [acc] m H) (x:ExtB [acc] m H m H') (k:∀ b ∈ m,H' b=H b):Rel K m S H':=by
 refine ⟨R.len,R.nd,fun i o e=>?_⟩;obtain ⟨b,hb,r⟩:=R.ob i o e;have hm:b ∈ m:=Zm hb;refine ⟨b,hb,?_⟩;cases o with
 | lst ds=>obtain ⟨vs,p,q⟩:=r;exact ⟨vs,(k b hm).trans p,VDs.monoB R hB x q⟩
 | frz ds=>obtain ⟨o,vs,p,q⟩:=r;exact ⟨o,vs,(k b hm).trans p,VDs.monoB R hB x q⟩
 | dic ks ds=>obtain ⟨vs,p,l,q⟩:=r;exact ⟨vs,(k b hm).trans p,l,VDs.monoB R hB x q⟩
theorem Dm {acc:Addr} {x:XE} {D:Ends} {σ:L2.St} {H:Hp} (h:tCl K acc (F1 x) D σ H):FT acc (tE K x) D σ H:=by
 obtain ⟨m,ρ,S,es,S',zs,vs,E,R,na,ha,vz,hl,e,q⟩:=h;obtain ⟨d,S1,e1,e⟩:=ae e;cases e;refine ⟨m,ρ,S,d,_,E,R,e1,fun m1 H1 v A1 vd=>?_⟩;have hB:=z6 ha na;have ha1:H1 acc=some (.lst vs):=A1.ext.keep _ _ ha na;have xB:=A1.ext.toB hB;have na1:acc ∉ m1:=xB.nb acc (by simp);have xp:=ExtB.put (H:=H1) na1 (.lst (vs++[v]));have hB1:=z6 ha1 na1;have lz:=vz.length;simp only [ZI] at hl;refine ⟨vs,ha1,by rw [sizeLine_eq];omega,q m1 _ σ (vs++[v]) (xB.trans xp) (A1.rel.extB hB1 xp fun b hb=>aG fun z=>na1 (z ▸ hb)) bf ?_ ((E.mono R A1.ext).monoB A1.rel hB1 xp)⟩;exact VDs.append ((vz.mono R A1.ext).monoB A1.rel hB1 xp) (.cons (vd.monoB A1.rel hB1 xp) .nil)
theorem Dn {acc:Addr} {t:XT} {c:XA} {D:Ends} {σ:L2.St} {H:Hp} (h:tCl K acc (z5 t c) D σ H):fD (tT K t) (tCl K acc c) D σ H:=by
 obtain ⟨m,ρ,S,es,S',zs,vs,E,R,na,ha,vz,hl,e,q⟩:=h;obtain ⟨b,S1,e1,e⟩:=ae e;refine ⟨m,ρ,S,b,S1,E,R,e1,fun m1 H1 A1=>?_⟩;have hB:=z6 ha na;have ha1:H1 acc=some (.lst vs):=A1.ext.keep _ _ ha na;have xB:=A1.ext.toB hB;have na1:acc ∉ m1:=xB.nb acc (by simp);dsimp only;split
 ·rename_i hb;rw [if_pos hb] at e;exact ⟨m1,ρ,S1,es,S',zs,vs,E.mono R A1.ext,A1.rel,na1,ha1,vz.mono R A1.ext,hl,e,fun m2 H2 σ2 vs2 x2 R2 h2 v2 E2=>q m2 H2 σ2 vs2 (xB.trans x2) R2 h2 v2 E2⟩
 ·rename_i hb;rw [if_neg hb] at e;cases e;refine q m1 H1 σ vs xB A1.rel ha1 ?_ (E.mono R A1.ext);rw [Ye];exact vz.mono R A1.ext
theorem rV {t:TS} {D:Ends} {σ:L2.St} {H:Hp} (h:t D σ H):fD CF t D σ H:=by
 show if true=true then t D σ H else D.nx σ H
 rw [if_pos rfl];exact h
theorem Ij {acc:Addr} {c:XA} {D:Ends} {σ:L2.St} {H:Hp} (h:tCl K acc c D σ H):fD CF (tCl K acc c) D σ H:=by
 exact rV h
theorem vS {acc:Addr} {nx:Nxt} {tg:Tg} {c:XA} {J:It} {ts:TS} {m1:List Addr} {H1:Hp} {EE:Ends} (hI:IOk K [acc] J nx m1 H1) (hts:∀ D σ H,tCl K acc c D σ H->ts D σ H) (k:Nat) {m:List Addr} {ρ:Rho} {S S':Sto} {es zs:List D} {vs:List V} {σ:L2.St} {H:Hp}
  (fr:dD tg ρ=true) (E:EnvR K m H ρ σ) (R:Rel K m S H) (x:ExtB [acc] m1 H1 m H) (ha:H acc=some (.lst vs)) (vz:VDs K m H zs vs) (hl:zs.length+es.length<=100000) (e:bh nx tg c ρ k 0 S=some (es,S'))
  (q:∀ m' H' σ' vs',ExtB [acc] m H m' H'->Rel K m' S' H'->H' acc=some (.lst vs')->VDs K m' H' (zs++es) vs'->EnvR K m' H' ρ σ'->EE.nx σ' H'):q8 J (tTg K tg) ts EE σ H:=by
 refine ⟨fun i k σ H=>∃ m S S' es zs vs,EnvR K m H ρ σ/\Rel K m S H/\ExtB [acc] m1 H1 m H/\H acc=some (.lst vs)/\VDs K m H zs vs/\zs.length+es.length<=100000/\bh nx tg c ρ k i S=some (es,S') ∧
  ∀ m' H' σ' vs',ExtB [acc] m H m' H'->Rel K m' S' H'->H' acc=some (.lst vs')->VDs K m' H' (zs++es) vs'->EnvR K m' H' ρ σ'->EE.nx σ' H',⟨k,m,S,S',es,zs,vs,E,R,x,ha,vz,hl,e,q⟩,?_⟩
 intro i k σ H ⟨m,S,S',es,zs,vs,E,R,x,ha,vz,hl,e,q⟩;have na:acc ∉ m:=x.nb acc (by simp);have hB:=z6 ha na;cases k with
 | zero=>simp [bh] at e
 | succ k=>
  simp only [bh] at e;cases hn:nx i S with
  | none=>rw [hn] at e;cases e
  | some o=>
   rw [hn] at e;obtain ⟨h1,h2⟩:=hI m S H i x R;cases o with
   | none=>
    cases e;exact .inl ⟨h1 hn,q m H σ vs (ExtB.refl na) R ha (by rw [Ye];exact vz) E⟩
   | some d=>
    obtain ⟨go,hy⟩:=h2 d hn;dsimp only at e;cases hb:ay tg d ρ with
    | none=>rw [hb] at e;cases e
    | some ρ1=>
     rw [hb] at e;dsimp only at e;obtain ⟨e1,S1,c1,e⟩:=ae e;obtain ⟨rs,S2,c2,e⟩:=ae e;cases e;rw [Zr] at hl
     refine .inr ⟨go,fun σ' H'=>∃ m S S' es zs vs,EnvR K m H' ρ σ'/\Rel K m S H'/\ExtB [acc] m1 H1 m H'/\H' acc=some (.lst vs)/\VDs K m H' zs vs/\zs.length+es.length<=100000/\bh nx tg c ρ k (i+1) S=some (es,S') ∧
      ∀ m' H'' σ' vs',ExtB [acc] m H' m' H''->Rel K m' S' H''->H'' acc=some (.lst vs')->VDs K m' H'' (zs++es) vs'->EnvR K m' H'' ρ σ'->EE.nx σ' H'',fun σ' H' z=>⟨k,YX k,z⟩,fun y H' yl=>?_⟩
     obtain ⟨A,vd⟩:=hy y H' yl;have xA:=A.ext.toB hB;have ha':H' acc=some (.lst vs):=A.ext.keep _ _ ha na;refine ⟨m,S,ρ,d,ρ1,A.rel,E.mono R A.ext,vd,hb,fun σ2 E2=>hts _ _ _ ⟨m,ρ1,S,e1,S1,zs,vs,E2,A.rel,na,ha',vz.mono R A.ext,by omega,c1,fun m3 H3 σ3 vs3 x3 R3 h3 v3 E3=>?_⟩⟩;refine ⟨m3,S1,_,rs,zs++e1,vs3,E3.weaken (rT (LeR.refl ρ) fr hb),R3,(x.trans xA).trans x3,h3,v3,by rw [Zr];omega,c2,fun m4 H4 σ4 vs4 x4 R4 h4 v4 E4=>?_⟩;refine q m4 H4 σ4 vs4 ((xA.trans x3).trans x4) R4 h4 ?_ E4;rw [<-Z6];exact v4
theorem z7 {acc:Addr} {it:XI} {tg:Tg} {t:TT} {c c':XA} {k:Nat} {D:Ends} {σ:L2.St} {H:Hp} (hts:∀ D σ H,tCl K acc c D σ H->fD t (tCl K acc c') D σ H) (h:tCl K acc (jU it tg c k) D σ H):zf (tIt K [acc] it) (tTg K tg) t (tCl K acc c') D σ H:=by
 obtain ⟨m,ρ,S,es,S',zs,vs,E,R,na,ha,vz,hl,e,q⟩:=h;unfold jU at e;split at e
 ·rename_i fr;obtain ⟨nx,S1,e1,e⟩:=ae e;have hB:=z6 ha na;refine ⟨m,ρ,S,nx,S1,E,R,hB,e1,fun m1 H1 J A1 hI=>?_⟩;have xB:=A1.ext.toB hB;have na1:acc ∉ m1:=xB.nb acc (by simp);exact vS hI hts k fr (E.mono R A1.ext) A1.rel (ExtB.refl na1) (A1.ext.keep _ _ ha na) (vz.mono R A1.ext) hl e fun m2 H2 σ2 vs2 x2 R2 h2 v2 E2=>q m2 H2 σ2 vs2 (xB.trans x2) R2 h2 v2 E2
 ·cases e
theorem EnvR.more {ρ:Rho} {σ:L2.St} (E:EnvR K m H ρ σ) (n:Nat):EnvR K m H (ρ++Zo n none) (σ++Zo n none):=by
 refine ⟨by simp [E.len],fun i d e=>?_⟩;by_cases hi:i < ρ.length
 ·rw [Zw hi] at e;rw [Zw (by rw [<-E.len];exact hi)];exact E.at_ i d e
 ·rw [Zq (by omega),Yk] at e;split at e <;> cases e
theorem vT {own:Nat} {it:XI} {tg:Tg} {t:TT} {c c':XA} {k:Nat} {σ:L2.St} {H:Hp} {Q:VK} (hts:∀ acc D σ H,tCl K acc c D σ H->fD t (tCl K acc c') D σ H) (h:eR K (mH own it tg c k) σ H Q):zg own (tIt K [] it) (tTg K tg) (fun acc=>fD t (tCl K acc c')) σ H Q:=by
 obtain ⟨m,ρ,S,es,S',E,R,e,q⟩:=h;obtain ⟨nx,S1,e1,e⟩:=ae e;split at e
 ·rename_i fr;obtain ⟨es',S2,e2,e⟩:=ae e;split at e
  ·rename_i hl;cases e;refine ⟨m,ρ,S,nx,S1,E,R,fun b hb=>absurd hb (by simp),e1,fun m1 H1 J A1 hI acc hacc=>?_⟩;have x0:=Ext.beside A1.rel hacc (.lst []);have R0:=A1.rel.beside hacc (.lst []);have na:=A1.rel.no hacc
   have hI':IOk K [acc] J nx m1 (upd H1 acc (.lst [])):=by
    intro m2 S2 H2 i x2 R2;refine hI m2 S2 H2 i ⟨x2.pre,fun a o h n _=>?_,fun a h n=>?_,fun b hb=>absurd hb (by simp)⟩ R2
    ·have ne:a ≠ acc:=aS h hacc;exact x2.keep a o (by rw [aG ne];exact h) n (by simp [ne])
    ·have:=x2.new a h n;by_cases hz:a=acc
     ·subst hz;exact hacc
     ·rw [aG hz] at this;exact this
   refine vS (zs:=[]) (vs:=[]) hI' (hts acc) k fr ((E.mono R A1.ext |>.mono A1.rel x0).more own) R0 (ExtB.refl na) bf .nil (by simpa using hl) e2 fun m2 H2 σ2 vs2 x2 R2 h2 v2 E2=>?_
   have xx:Ext m1 H1 m2 H2:=⟨x2.pre,fun a o h n=>by
    have ne:a ≠ acc:=aS h hacc;exact x2.keep a o (by rw [aG ne];exact h) n (by simp [ne]),fun a h n=>by
    have:=x2.new a h n;by_cases hz:a=acc
    ·subst hz;exact hacc
    ·rw [aG hz] at this;exact this⟩
   have hn:H acc=none:=by
    cases eh:H acc with
    | none=>rfl
    | some o=>
     by_cases hm:acc ∈ m
     ·exact absurd (A1.ext.pre.subset hm) na
     ·have:=A1.ext.keep acc o eh hm;rw [hacc] at this;cases this
   exact q m2 H2 acc vs2 (A1.trans ⟨xx,R2⟩) h2 (x2.nb acc (by simp)) (fun b hb z=>na (A1.ext.pre.subset (z ▸ hb))) hn (by simpa using v2)
  ·cases e
 ·cases e
end
end Ev
namespace Ev
open PySem PySem.Spec PyProof.Rows L2
section
variable {X:Cx} {K:PySem.W.Frag} {m:List Addr} {H:Hp} {S:Sto}
noncomputable def z8 (x y:XE):XE:=fun ρ S=>bnd (x ρ S) fun d S1=>match d with
 | .bl true=>y ρ S1
 | .bl false=>some (.bl false,S1)
 | _=>none
noncomputable def xOr (x y:XE):XE:=fun ρ S=>bnd (x ρ S) fun d S1=>match d with
 | .bl true=>some (.bl true,S1)
 | .bl false=>y ρ S1
 | _=>none
noncomputable def xW:D->Sto->Option (D × Sto)
 | .bl b,S=>some (.bl (!b),S)
 | _,_=>none
noncomputable def Ik:D->Sto->Option (D × Sto)
 | .int i,S=>some (.int (-i),S)
 | _,_=>none
theorem z9 {x y:XE} {σ:L2.St} {H:Hp} {Q:VK} (h:tE K (z8 x y) σ H Q):FH (tE K x) (tE K y) σ H Q:=by
 obtain ⟨m,ρ,S,d,S',E,R,e,q⟩:=h;obtain ⟨a,S1,e1,e⟩:=ae e;refine ⟨m,ρ,S,a,S1,E,R,e1,fun m1 H1 v A1 va=>?_⟩;cases a with
 | bl b=>
  refine ⟨b,va.bls,?_⟩;cases b with
  | true=>exact ⟨m1,ρ,S1,d,S',E.mono R A1.ext,A1.rel,e,fun m2 H2 w A2 vd=>q m2 H2 w (A1.trans A2) vd⟩
  | false=>cases e;exact q m1 H1 _ A1 bQ
 | _=>cases e
theorem F2 {x y:XE} {σ:L2.St} {H:Hp} {Q:VK} (h:tE K (xOr x y) σ H Q):Ls (tE K x) (tE K y) σ H Q:=by
 obtain ⟨m,ρ,S,d,S',E,R,e,q⟩:=h;obtain ⟨a,S1,e1,e⟩:=ae e;refine ⟨m,ρ,S,a,S1,E,R,e1,fun m1 H1 v A1 va=>?_⟩;cases a with
 | bl b=>
  refine ⟨b,va.bls,?_⟩;cases b with
  | false=>exact ⟨m1,ρ,S1,d,S',E.mono R A1.ext,A1.rel,e,fun m2 H2 w A2 vd=>q m2 H2 w (A1.trans A2) vd⟩
  | true=>cases e;exact q m1 H1 _ A1 bQ
 | _=>cases e
theorem Il {x:XE} {σ:L2.St} {H:Hp} {Q:VK} (h:tE K (xUn xW x) σ H Q):FI (tE K x) σ H Q:=by
 obtain ⟨m,ρ,S,d,S',E,R,e,q⟩:=h;obtain ⟨a,S1,e1,e⟩:=ae e;refine ⟨m,ρ,S,a,S1,E,R,e1,fun m1 H1 v A1 va=>?_⟩;cases a with
 | bl b=>cases e;exact ⟨b,va.bls,q m1 H1 _ A1 bQ⟩
 | _=>cases e
theorem Dp:UnR X (unaryOp .USub) (rS1 X.K Ik):=by
 intro pins s σ H x v Q I rx h;refine G7 pins s σ H x v Q I rx ?_;obtain ⟨m,S,a,d,S',R,va,e,q⟩:=h;cases a with
 | int i=>cases e;exact ⟨i,va.ints,q m H _ (Aft.refl R) bq⟩
 | _=>cases e
noncomputable def xX (f g:D->D->Sto->Option (D × Sto)) (x y z:XE):XE:=fun ρ S=>bnd (x ρ S) fun a S1=>bnd (y ρ S1) fun b S2=>bnd (f a b S2) fun r S3=>match r with
 | .bl true=>bnd (z ρ S3) fun c S4=>g b c S4
 | .bl false=>some (.bl false,S3)
 | _=>none
theorem Aa {f g:D->D->Sto->Option (D × Sto)} {x y z:XE} {σ:L2.St} {H:Hp} {Q:VK} (h:tE K (xX f g x y z) σ H Q):tI (rS K f) (rS K g) (tE K x) (tE K y) (tE K z) σ H Q:=by
 obtain ⟨m,ρ,S,d,S',E,R,e,q⟩:=h;obtain ⟨a,S1,e1,e⟩:=ae e;obtain ⟨b,S2,e2,e⟩:=ae e;obtain ⟨r,S3,e3,e⟩:=ae e;refine ⟨m,ρ,S,a,S1,E,R,e1,fun m1 H1 v A1 va=>⟨m1,ρ,S1,b,S2,E.mono R A1.ext,A1.rel,e2,fun m2 H2 w A2 vb=>?_⟩⟩;refine ⟨m2,S2,a,b,r,S3,A2.rel,va.mono A1.rel A2.ext,vb,e3,fun m3 H3 u A3 vr=>?_⟩;cases r with
 | bl k=>
  refine ⟨k,vr.bls,?_⟩;cases k with
  | true=>
   dsimp only at e;obtain ⟨c,S4,e4,e⟩:=ae e;exact ⟨m3,ρ,S3,c,S4,E.mono R ((A1.trans A2).trans A3).ext,A3.rel,e4,fun m4 H4 y A4 vc=>⟨m4,S4,b,c,d,S',A4.rel,vb.mono A2.rel (A3.trans A4).ext,vc,e,fun m5 H5 t A5 vd=>q m5 H5 t ((((A1.trans A2).trans A3).trans A4).trans A5) vd⟩⟩
  | false=>cases e;exact q m3 H3 _ ((A1.trans A2).trans A3) bQ
 | _=>cases e
noncomputable def Ab (x y:XT):XT:=fun ρ S=>bnd (x ρ S) fun b S1=>if b=true then y ρ S1 else some (false,S1)
noncomputable def Im (x y:XT):XT:=fun ρ S=>bnd (x ρ S) fun b S1=>if b=true then some (true,S1) else y ρ S1
noncomputable def Ac (x:XT):XT:=fun ρ S=>bnd (x ρ S) fun b S1=>some (!b,S1)
theorem Ad {x y:XT} {σ:L2.St} {H:Hp} {Q:Bool->Hp->Prop} (h:tT K (Ab x y) σ H Q):Lq (tT K x) (tT K y) σ H Q:=by
 obtain ⟨m,ρ,S,d,S',E,R,e,q⟩:=h;obtain ⟨b,S1,e1,e⟩:=ae e;refine ⟨m,ρ,S,b,S1,E,R,e1,fun m1 H1 A1=>?_⟩;dsimp only;split
 ·rename_i hb;rw [if_pos hb] at e;exact ⟨m1,ρ,S1,d,S',E.mono R A1.ext,A1.rel,e,fun m2 H2 A2=>q m2 H2 (A1.trans A2)⟩
 ·rename_i hb;rw [if_neg hb] at e;cases e;exact q m1 H1 A1
theorem F3 {x y:XT} {σ:L2.St} {H:Hp} {Q:Bool->Hp->Prop} (h:tT K (Im x y) σ H Q):tOr (tT K x) (tT K y) σ H Q:=by
 obtain ⟨m,ρ,S,d,S',E,R,e,q⟩:=h;obtain ⟨b,S1,e1,e⟩:=ae e;refine ⟨m,ρ,S,b,S1,E,R,e1,fun m1 H1 A1=>?_⟩;dsimp only;split
 ·rename_i hb;rw [if_pos hb] at e;cases e;exact q m1 H1 A1
 ·rename_i hb;rw [if_neg hb] at e;exact ⟨m1,ρ,S1,d,S',E.mono R A1.ext,A1.rel,e,fun m2 H2 A2=>q m2 H2 (A1.trans A2)⟩
theorem Io {x:XT} {σ:L2.St} {H:Hp} {Q:Bool->Hp->Prop} (h:tT K (Ac x) σ H Q):Lr (tT K x) σ H Q:=by
 obtain ⟨m,ρ,S,d,S',E,R,e,q⟩:=h;obtain ⟨b,S1,e1,e⟩:=ae e;cases e;exact ⟨m,ρ,S,b,_,E,R,e1,fun m1 H1 A1=>q m1 H1 A1⟩
noncomputable abbrev Calls:=Nat->List D->Sto->Option (D × Sto)
noncomputable def spC (K:PySem.W.Frag) (g:List D->Sto->Option (D × Sto)) (n:Nat):Sp:=fun vs H Q _=>∃ m ds S d S',VDs K m H ds vs/\Rel K m S H/\ds.length=n/\g ds S=some (d,S')/\∀ m' H' v,Aft K m H S' m' H'->VD K m' H' d v->Q v H'
noncomputable def rX (g:List D->Sto->Option (D × Sto)) (n:Nat) (x:XA):XE:=fun ρ S=>bnd (x ρ S) fun ds S1=>if ds.length=n then g ds S1 else none
theorem Dq {g:List D->Sto->Option (D × Sto)} {n:Nat} {x:XA} {σ:L2.St} {H:Hp} {Q:VK} (h:tE K (rX g n x) σ H Q):FQ (spC K g n) [] E0 (tAr K x) σ H Q:=by
 obtain ⟨m,ρ,S,d,S',E,R,e,q⟩:=h;obtain ⟨ds,S1,e1,e⟩:=ae e;split at e
 ·rename_i hl;refine ⟨m,ρ,S,ds,S1,E,R,e1,fun m1 H1 vs A1 vd=>⟨m1,ds,S1,d,S',by rw [Ye];exact vd,A1.rel,hl,e,fun m2 H2 v A2 vv=>q m2 H2 v (A1.trans A2) vv⟩⟩
 ·cases e
end
end Ev
namespace Ev
open PySem PySem.Spec PyProof.Rows L2
mutual
inductive CE where | non | bl (b:Bool) | int (i:Int) | str (x:Str) | var (i:Nat) | con (k:Nat) (v:Int) | tup (es:List CE) | lst (es:List CE) | dic0 | dic1 (i j:Int) | bin (o:BOp) (a b:CE) | neg (a:CE) | cmp (o:COp) (a b:CE) | chn (o p:COp) (a b c:CE) | and (a b:CE) | or (a b:CE) | not (a:CE) | ix (a b:CE) | sl (a:CE) (lo hi:Option CE) | call (f:Nat) (es:List CE) | inst (t:Ty) (a:CE) | len (a:CE) | all (a:CE) | any (a:CE) | tupOf (a:CE) | listOf (a:CE) | listR (a:CE) | srt (a:CE) | mxL (a:CE) | intOf (a:CE) | mx (a b:CE) | mn (a b:CE) | rep (a:CE) | comp (own:List Str) (elt:CE) (cls:List Cl) | app (o e:CE) | popAt (o e:CE) | ins (o i e:CE) | cnt (o e:CE)
inductive CI where
 | val (a:CE) | r1 (a:CE) | r2 (a b:CE) | en (a:CE)
inductive Cl where
 | mk (tg:Tg) (it:CI) (cond:Option CE)
end
noncomputable def ag:CE->Bool
 | .lst _=>true | .comp _ _ _=>true | .listOf _=>true | .listR _=>true | .srt _=>true
 | _=>false
noncomputable def LF:Nat:=1000000
noncomputable def xNo {α:Type}:Rho->Sto->Option (α × Sto):=fun _ _=>none
noncomputable def mI (x:XE):XA:=fun ρ S=>bnd (x ρ S) fun d S1=>(aj d S1).map fun r=>(r.2,S1)
noncomputable def cO (tu:Bool) (ds:List D):Option (List D):=if tu=false then ur tu ds else none
noncomputable def xY (f:Bool->List D->Option (List D)) (x:XA):XA:=fun ρ S=>bnd (x ρ S) fun ds S1=>(f false ds).map fun es=>(es,S1)
noncomputable def xZ (f:Bool->List D->Option (List D)) (x:XE):XA:=fun ρ S=>bnd (x ρ S) fun d S1=>match aj d S1 with
 | some r=>(f r.1 r.2).map fun es=>(es,S1)
 | none=>none
noncomputable def nZ (i:Int):Key:=Sum.inl i
noncomputable def x8 (x:XE):XA:=fun ρ S=>bnd (x ρ S) fun d S1=>match d with
 | .int i=>if 0<=i/\i<=1000 then some ((Zj i.toNat).map fun j=>.int (Int.ofNat j),S1) else none
 | _=>none
noncomputable def Ae:XE:=fun _ S=>some (.ref S.length,S++[.dic [] []])
noncomputable def Af (i j:Int):XE:=fun _ S=>some (.ref S.length,S++[.dic [nZ i] [.int j]])
noncomputable def cnd (t:CE->XT):Option CE->XA->XA
 | some c,x=>z5 (t c) x
 | none,x=>x
noncomputable def opt (t:CE->XE):Option CE->XO
 | some l=>ue (t l)
 | none=>ud
mutual
noncomputable def evE (C:Calls) (ar:Nat->Nat):Nat->CE->XE
 | 0,_=>xNo
 | n+1,e=>match e with
  | .non=>xC .non
  | .bl b=>xC (.bl b)
  | .int i=>xC (.int i)
  | .str x=>xC (.str x)
  | .var i=>xD i
  | .con _ v=>xC (.int v)
  | .tup es=>k7 k8 (evA C ar n es)
  | .lst es=>dN (oC (evA C ar n es))
  | .dic0=>Ae
  | .dic1 i j=>Af i j
  | .bin o a b=>rB (bL o) (evE C ar n a) (evE C ar n b)
  | .neg a=>xUn Ik (evE C ar n a)
  | .cmp o a b=>rB (av o) (evE C ar n a) (evE C ar n b)
  | .chn o p a b c=>xX (av o) (av p) (evE C ar n a) (evE C ar n b) (evE C ar n c)
  | .and a b=>z8 (evE C ar n a) (evE C ar n b)
  | .or a b=>xOr (evE C ar n a) (evE C ar n b)
  | .not a=>xUn xW (evE C ar n a)
  | .ix a b=>if ag a=true then ua (cz C ar n a) (evE C ar n b) else rB ixS (evE C ar n a) (evE C ar n b)
  | .sl a lo hi=>xSl (evE C ar n a) (opt (evE C ar n) lo) (opt (evE C ar n) hi)
  | .call f es=>rX (C f) (ar f) (evA C ar n es)
  | .inst t a=>xUn (mw t) (evE C ar n a)
  | .len a=>if ag a=true then rC ce (cz C ar n a) else rD ce (evE C ar n a)
  | .all a=>if ag a=true then rC nW (cz C ar n a) else rD nW (evE C ar n a)
  | .any a=>if ag a=true then rC nX (cz C ar n a) else rD nX (evE C ar n a)
  | .tupOf a=>if ag a=true then rC jQ (cz C ar n a) else rD jQ (evE C ar n a)
  | .listOf a=>dN (if ag a=true then cz C ar n a else mI (evE C ar n a))
  | .listR a=>dN (x8 (evE C ar n a))
  | .srt a=>dN (if ag a=true then xY cO (cz C ar n a) else xZ cO (evE C ar n a))
  | .mxL a=>if ag a=true then rC lb (cz C ar n a) else rD lb (evE C ar n a)
  | .intOf a=>xUn zQ (evE C ar n a)
  | .mx a b=>k7 (two zJ) (evA C ar n [a,b])
  | .mn a b=>k7 (two zK) (evA C ar n [a,b])
  | .rep a=>xUn ji (evE C ar n a)
  | .comp own elt cls=>dN (match cls with
   | []=>xNo
   | ⟨tg,it,cond⟩::rest=>mH own.length (evI C ar n it) tg (cnd (evT C ar n) cond (g8 C ar n elt rest)) LF)
  | .app o a=>xS eC uu (evE C ar n o) (evA C ar n [a])
  | .popAt o a=>xS eC eV (evE C ar n o) (evA C ar n [a])
  | .ins o i a=>xS eC ux (evE C ar n o) (evA C ar n [i,a])
  | .cnt o a=>xS (fun d _=>isTup d) uv (evE C ar n o) (evA C ar n [a])
noncomputable def evA (C:Calls) (ar:Nat->Nat):Nat->List CE->XA
 | 0,_=>xNo
 | n+1,es=>match es with
  | []=>CZ
  | e::es=>vM (evE C ar n e) (evA C ar n es)
noncomputable def cz (C:Calls) (ar:Nat->Nat):Nat->CE->XA
 | 0,_=>xNo
 | n+1,e=>match e with
  | .lst es=>oC (evA C ar n es)
  | .listOf a=>if ag a=true then cz C ar n a else mI (evE C ar n a)
  | .listR a=>x8 (evE C ar n a)
  | .srt a=>if ag a=true then xY cO (cz C ar n a) else xZ cO (evE C ar n a)
  | .comp own elt cls=>match cls with
   | []=>xNo
   | ⟨tg,it,cond⟩::rest=>mH own.length (evI C ar n it) tg (cnd (evT C ar n) cond (g8 C ar n elt rest)) LF
  | _=>xNo
noncomputable def g8 (C:Calls) (ar:Nat->Nat):Nat->CE->List Cl->XA
 | 0,_,_=>xNo
 | n+1,elt,cls=>match cls with
  | []=>F1 (evE C ar n elt)
  | ⟨tg,it,cond⟩::rest=>jU (evI C ar n it) tg (cnd (evT C ar n) cond (g8 C ar n elt rest)) LF
noncomputable def evI (C:Calls) (ar:Nat->Nat):Nat->CI->XI
 | 0,_=>xNo
 | n+1,it=>match it with
  | .val a=>if ag a=true then xIT (cz C ar n a) else xIV (evE C ar n a)
  | .r1 a=>xR1 (evE C ar n a)
  | .r2 a b=>xR2 (evE C ar n a) (evE C ar n b)
  | .en a=>if ag a=true then xET (cz C ar n a) else xEV (evE C ar n a)
noncomputable def evT (C:Calls) (ar:Nat->Nat):Nat->CE->XT
 | 0,_=>xNo
 | n+1,e=>match e with
  | .cmp o a b=>xB (rB (av o) (evE C ar n a) (evE C ar n b))
  | .chn o p a b c=>xB (xX (av o) (av p) (evE C ar n a) (evE C ar n b) (evE C ar n c))
  | .and a b=>Ab (evT C ar n a) (evT C ar n b)
  | .or a b=>Im (evT C ar n a) (evT C ar n b)
  | .not a=>Ac (evT C ar n a)
  | e=>C8 (evE C ar n e)
end
end Ev
namespace Ev
open PySem PySem.Spec PyProof.Rows L2
structure Tab where
 con:List (Str × Int)
 fns:List (Str × Nat)
noncomputable def jj:List Str:=["len", "isinstance", "all", "any", "tuple", "list", "max", "min", "repr", "range", "enumerate", "int", "bool", "str", "sorted", "zip"]
structure Blk where
 sc:Scope
 fs:Option Scope
 N:List Str
noncomputable def Blk.glo (b:Blk) (x:Str):Bool:=b.sc.names.lookup x == some .globalImplicit && !(x == ("__debug__" : Str))
noncomputable def Blk.vis (b:Blk) (x:Str):Bool:=(match b.sc.names.lookup x with
 | some .local=>true
 | some .cell=>true
 | some .free=>true
 | _=>false) && !(x == ("__debug__" : Str)) && !(x == ("__classdict__" : Str))
noncomputable def Blk.own (b:Blk) (x:Str):Bool:=match b.sc.names.lookup x with
 | some .local=>true
 | some .cell=>(match b.fs with
  | none=>true
  | some sc=>sc.names.lookup x == some .cell)
 | _=>false
theorem bS {P:Prop} [Decidable P] {f:P->Bool} (h:(if p:P then f p else false)=true):∃ p,f p=true:=by
 by_cases p:P
 ·rw [dif_pos p] at h;exact ⟨p,h⟩
 ·rw [dif_neg p] at h;cases h
theorem an2 {a b:Bool} (h:(a && b)=true):a=true/\b=true:=by cases a;cases h;exact ⟨rfl,h⟩
theorem an3 {a b c:Bool} (h:(a && b && c)=true):a=true/\b=true/\c=true:=⟨(an2 (an2 h).1).1,(an2 (an2 h).1).2,(an2 h).2⟩
theorem an4 {a b c d:Bool} (h:(a && b && c && d)=true):a=true/\b=true/\c=true/\d=true:=⟨(an3 (an2 h).1).1,(an3 (an2 h).1).2.1,(an3 (an2 h).1).2.2,(an2 h).2⟩
theorem an5 {a b c d e:Bool} (h:(a && b && c && d && e)=true):a=true/\b=true/\c=true/\d=true/\e=true:=⟨(an4 (an2 h).1).1,(an4 (an2 h).1).2.1,(an4 (an2 h).1).2.2.1,(an4 (an2 h).1).2.2.2,(an2 h).2⟩
theorem an6 {a b c d e f:Bool} (h:(a && b && c && d && e && f)=true):a=true/\b=true/\c=true/\d=true/\e=true/\f=true:=⟨(an5 (an2 h).1).1,(an5 (an2 h).1).2.1,(an5 (an2 h).1).2.2.1,(an5 (an2 h).1).2.2.2.1,(an5 (an2 h).1).2.2.2.2,(an2 h).2⟩
noncomputable def l1 {α:Type} (l:List α) (k:α->Bool):Bool:=match l with
 | []=>false
 | x::t=>t.isEmpty && k x
noncomputable def lC {α:Type} (l:List α) (k:α->List α->Bool):Bool:=match l with
 | []=>false
 | x::t=>k x t
theorem eW {α:Type} {l:List α} {k:α->List α->Bool} (h:lC l k=true):∃ x t,l=x::t/\k x t=true:=by
 cases l with
 | nil=>cases h
 | cons x t=>exact ⟨x,t,rfl,h⟩
theorem fV {α:Type} {l:List α} (h:l.isEmpty=true):l=[]:=by cases l;rfl;cases h
theorem jk {α:Type} {l:List α} {k:α->Bool} (h:l1 l k=true):∃ x,l=[x]/\k x=true:=by
 cases l with
 | nil=>cases h
 | cons x t=>obtain ⟨h1,h2⟩:=an2 h;cases fV h1;exact ⟨x,rfl,h2⟩
noncomputable def aO (e:Expr):Bool:=!(e.ctorIdx == 22 || e.ctorIdx == 26 || e.ctorIdx == 7)
noncomputable def ql (e:Expr) (k:BoolOp->List Expr->Pos->Bool):Bool:=if h:e.ctorIdx=0 then @Expr.BoolOp.elim (fun _=>Bool) e h k else false
theorem oK {e:Expr} {k:BoolOp->List Expr->Pos->Bool} (h:ql e k=true):∃ x0 x1 x2,e = .BoolOp x0 x1 x2/\k x0 x1 x2=true:=by
 obtain ⟨h1,h⟩:=bS h;exact Expr.BoolOp.elim (motive_1:=fun e=>∀ h',@Expr.BoolOp.elim (fun _=>Bool) e h' k=true->∃ x0 x1 x2,e = .BoolOp x0 x1 x2/\k x0 x1 x2=true) e h1 (fun x0 x1 x2 _ hh=>⟨x0,x1,x2,rfl,hh⟩) h1 h
noncomputable def Ag (e:Expr) (k:Expr->Operator->Expr->Pos->Bool):Bool:=if h:e.ctorIdx=2 then @Expr.BinOp.elim (fun _=>Bool) e h k else false
theorem Ah {e:Expr} {k:Expr->Operator->Expr->Pos->Bool} (h:Ag e k=true):∃ x0 x1 x2 x3,e = .BinOp x0 x1 x2 x3/\k x0 x1 x2 x3=true:=by
 obtain ⟨h1,h⟩:=bS h;exact Expr.BinOp.elim (motive_1:=fun e=>∀ h',@Expr.BinOp.elim (fun _=>Bool) e h' k=true->∃ x0 x1 x2 x3,e = .BinOp x0 x1 x2 x3/\k x0 x1 x2 x3=true) e h1 (fun x0 x1 x2 x3 _ hh=>⟨x0,x1,x2,x3,rfl,hh⟩) h1 h
noncomputable def jl (e:Expr) (k:UnaryOp->Expr->Pos->Bool):Bool:=if h:e.ctorIdx=3 then @Expr.UnaryOp.elim (fun _=>Bool) e h k else false
theorem mJ {e:Expr} {k:UnaryOp->Expr->Pos->Bool} (h:jl e k=true):∃ x0 x1 x2,e = .UnaryOp x0 x1 x2/\k x0 x1 x2=true:=by
 obtain ⟨h1,h⟩:=bS h;exact Expr.UnaryOp.elim (motive_1:=fun e=>∀ h',@Expr.UnaryOp.elim (fun _=>Bool) e h' k=true->∃ x0 x1 x2,e = .UnaryOp x0 x1 x2/\k x0 x1 x2=true) e h1 (fun x0 x1 x2 _ hh=>⟨x0,x1,x2,rfl,hh⟩) h1 h
noncomputable def Ai (e:Expr) (k:List (Option Expr)->List Expr->Pos->Bool):Bool:=if h:e.ctorIdx=6 then @Expr.Dict.elim (fun _=>Bool) e h k else false
theorem vU {e:Expr} {k:List (Option Expr)->List Expr->Pos->Bool} (h:Ai e k=true):∃ x0 x1 x2,e = .Dict x0 x1 x2/\k x0 x1 x2=true:=by
 obtain ⟨h1,h⟩:=bS h;exact Expr.Dict.elim (motive_1:=fun e=>∀ h',@Expr.Dict.elim (fun _=>Bool) e h' k=true->∃ x0 x1 x2,e = .Dict x0 x1 x2/\k x0 x1 x2=true) e h1 (fun x0 x1 x2 _ hh=>⟨x0,x1,x2,rfl,hh⟩) h1 h
noncomputable def jV (e:Expr) (k:Expr->List Comprehension->Scope->Pos->Bool):Bool:=if h:e.ctorIdx=8 then @Expr.ListComp.elim (fun _=>Bool) e h k else false
theorem ky {e:Expr} {k:Expr->List Comprehension->Scope->Pos->Bool} (h:jV e k=true):∃ x0 x1 x2 x3,e = .ListComp x0 x1 x2 x3/\k x0 x1 x2 x3=true:=by
 obtain ⟨h1,h⟩:=bS h;exact Expr.ListComp.elim (motive_1:=fun e=>∀ h',@Expr.ListComp.elim (fun _=>Bool) e h' k=true->∃ x0 x1 x2 x3,e = .ListComp x0 x1 x2 x3/\k x0 x1 x2 x3=true) e h1 (fun x0 x1 x2 x3 _ hh=>⟨x0,x1,x2,x3,rfl,hh⟩) h1 h
noncomputable def mK (e:Expr) (k:Expr->List CmpOp->List Expr->Pos->Bool):Bool:=if h:e.ctorIdx=15 then @Expr.Compare.elim (fun _=>Bool) e h k else false
theorem mL {e:Expr} {k:Expr->List CmpOp->List Expr->Pos->Bool} (h:mK e k=true):∃ x0 x1 x2 x3,e = .Compare x0 x1 x2 x3/\k x0 x1 x2 x3=true:=by
 obtain ⟨h1,h⟩:=bS h;exact Expr.Compare.elim (motive_1:=fun e=>∀ h',@Expr.Compare.elim (fun _=>Bool) e h' k=true->∃ x0 x1 x2 x3,e = .Compare x0 x1 x2 x3/\k x0 x1 x2 x3=true) e h1 (fun x0 x1 x2 x3 _ hh=>⟨x0,x1,x2,x3,rfl,hh⟩) h1 h
noncomputable def vV (e:Expr) (k:Expr->List Expr->List Keyword->Pos->Bool):Bool:=if h:e.ctorIdx=16 then @Expr.Call.elim (fun _=>Bool) e h k else false
theorem vW {e:Expr} {k:Expr->List Expr->List Keyword->Pos->Bool} (h:vV e k=true):∃ x0 x1 x2 x3,e = .Call x0 x1 x2 x3/\k x0 x1 x2 x3=true:=by
 obtain ⟨h1,h⟩:=bS h;exact Expr.Call.elim (motive_1:=fun e=>∀ h',@Expr.Call.elim (fun _=>Bool) e h' k=true->∃ x0 x1 x2 x3,e = .Call x0 x1 x2 x3/\k x0 x1 x2 x3=true) e h1 (fun x0 x1 x2 x3 _ hh=>⟨x0,x1,x2,x3,rfl,hh⟩) h1 h
noncomputable def eG (e:Expr) (k:Const->Nat->Pos->Bool):Bool:=if h:e.ctorIdx=19 then @Expr.Constant.elim (fun _=>Bool) e h k else false
theorem dF {e:Expr} {k:Const->Nat->Pos->Bool} (h:eG e k=true):∃ x0 x1 x2,e = .Constant x0 x1 x2/\k x0 x1 x2=true:=by
 obtain ⟨h1,h⟩:=bS h;exact Expr.Constant.elim (motive_1:=fun e=>∀ h',@Expr.Constant.elim (fun _=>Bool) e h' k=true->∃ x0 x1 x2,e = .Constant x0 x1 x2/\k x0 x1 x2=true) e h1 (fun x0 x1 x2 _ hh=>⟨x0,x1,x2,rfl,hh⟩) h1 h
noncomputable def mM (e:Expr) (k:Expr->Str->Pos->Bool):Bool:=if h:e.ctorIdx=20 then @Expr.Attribute.elim (fun _=>Bool) e h k else false
theorem qm {e:Expr} {k:Expr->Str->Pos->Bool} (h:mM e k=true):∃ x0 x1 x2,e = .Attribute x0 x1 x2/\k x0 x1 x2=true:=by
 obtain ⟨h1,h⟩:=bS h;exact Expr.Attribute.elim (motive_1:=fun e=>∀ h',@Expr.Attribute.elim (fun _=>Bool) e h' k=true->∃ x0 x1 x2,e = .Attribute x0 x1 x2/\k x0 x1 x2=true) e h1 (fun x0 x1 x2 _ hh=>⟨x0,x1,x2,rfl,hh⟩) h1 h
noncomputable def cZ (e:Expr) (k:Expr->Expr->Pos->Bool):Bool:=if h:e.ctorIdx=21 then @Expr.Subscript.elim (fun _=>Bool) e h k else false
theorem cP {e:Expr} {k:Expr->Expr->Pos->Bool} (h:cZ e k=true):∃ x0 x1 x2,e = .Subscript x0 x1 x2/\k x0 x1 x2=true:=by
 obtain ⟨h1,h⟩:=bS h;exact Expr.Subscript.elim (motive_1:=fun e=>∀ h',@Expr.Subscript.elim (fun _=>Bool) e h' k=true->∃ x0 x1 x2,e = .Subscript x0 x1 x2/\k x0 x1 x2=true) e h1 (fun x0 x1 x2 _ hh=>⟨x0,x1,x2,rfl,hh⟩) h1 h
noncomputable def Aj (e:Expr) (k:Str->Pos->Bool):Bool:=if h:e.ctorIdx=23 then @Expr.Name.elim (fun _=>Bool) e h k else false
theorem vX {e:Expr} {k:Str->Pos->Bool} (h:Aj e k=true):∃ x0 x1,e = .Name x0 x1/\k x0 x1=true:=by
 obtain ⟨h1,h⟩:=bS h;exact Expr.Name.elim (motive_1:=fun e=>∀ h',@Expr.Name.elim (fun _=>Bool) e h' k=true->∃ x0 x1,e = .Name x0 x1/\k x0 x1=true) e h1 (fun x0 x1 _ hh=>⟨x0,x1,rfl,hh⟩) h1 h
noncomputable def F4 (e:Expr) (k:List Expr->Pos->Bool):Bool:=if h:e.ctorIdx=24 then @Expr.List.elim (fun _=>Bool) e h k else false
theorem Ds {e:Expr} {k:List Expr->Pos->Bool} (h:F4 e k=true):∃ x0 x1,e = .List x0 x1/\k x0 x1=true:=by
 obtain ⟨h1,h⟩:=bS h;exact Expr.List.elim (motive_1:=fun e=>∀ h',@Expr.List.elim (fun _=>Bool) e h' k=true->∃ x0 x1,e = .List x0 x1/\k x0 x1=true) e h1 (fun x0 x1 _ hh=>⟨x0,x1,rfl,hh⟩) h1 h
noncomputable def Ak (e:Expr) (k:List Expr->Nat->Pos->Bool):Bool:=if h:e.ctorIdx=25 then @Expr.Tuple.elim (fun _=>Bool) e h k else false
theorem Al {e:Expr} {k:List Expr->Nat->Pos->Bool} (h:Ak e k=true):∃ x0 x1 x2,e = .Tuple x0 x1 x2/\k x0 x1 x2=true:=by
 obtain ⟨h1,h⟩:=bS h;exact Expr.Tuple.elim (motive_1:=fun e=>∀ h',@Expr.Tuple.elim (fun _=>Bool) e h' k=true->∃ x0 x1 x2,e = .Tuple x0 x1 x2/\k x0 x1 x2=true) e h1 (fun x0 x1 x2 _ hh=>⟨x0,x1,x2,rfl,hh⟩) h1 h
noncomputable def Am (e:Expr) (k:Option Expr->Option Expr->Option Expr->Pos->Bool):Bool:=if h:e.ctorIdx=26 then @Expr.Slice.elim (fun _=>Bool) e h k else false
theorem An {e:Expr} {k:Option Expr->Option Expr->Option Expr->Pos->Bool} (h:Am e k=true):∃ x0 x1 x2 x3,e = .Slice x0 x1 x2 x3/\k x0 x1 x2 x3=true:=by
 obtain ⟨h1,h⟩:=bS h;exact Expr.Slice.elim (motive_1:=fun e=>∀ h',@Expr.Slice.elim (fun _=>Bool) e h' k=true->∃ x0 x1 x2 x3,e = .Slice x0 x1 x2 x3/\k x0 x1 x2 x3=true) e h1 (fun x0 x1 x2 x3 _ hh=>⟨x0,x1,x2,x3,rfl,hh⟩) h1 h
noncomputable def uA (e:Expr):Bool:=!(e.ctorIdx == 22 || vV e fun f es ks _=>f.ctorIdx == 23 && es.isEmpty && ks.isEmpty)
noncomputable def Ip (e:Expr):Bool:=!(e.ctorIdx == 0 || e.ctorIdx == 5 || e.ctorIdx == 15 || jl e fun o _ _=>decide (o = .Not))
noncomputable def mN (own N:List Str):List Nat:=(Zj N.length).filter fun i=>match N[i]? with
 | some x=>own.contains x
 | none=>false
noncomputable def Blk.inner (b:Blk) (own:List Str) (scope:Scope):Blk:=⟨fR scope b.sc,some scope,cT (mN own b.N) b.N++own⟩
noncomputable def Ao (e:Expr):Option (Str × Pos):=if h:e.ctorIdx=23 then some (@Expr.Name.elim (fun _=>Str × Pos) e h fun x p=>(x,p)) else none
noncomputable def rY (e:Expr):Option (List Expr × Nat × Pos):=if h:e.ctorIdx=25 then some (@Expr.Tuple.elim (fun _=>List Expr × Nat × Pos) e h fun es k p=>(es,k,p)) else none
theorem F5 {α:Type} {P:Prop} [Decidable P] {f:P->α} {r:α} (h:(if p:P then some (f p) else none)=some r):∃ p,f p=r:=by
 by_cases p:P
 ·rw [dif_pos p] at h;cases h;exact ⟨p,rfl⟩
 ·rw [dif_neg p] at h;cases h
theorem qo {e:Expr} {x:Str} {p:Pos} (h:Ao e=some (x,p)):e = .Name x p:=by
 obtain ⟨h1,h⟩:=F5 h;exact Expr.Name.elim (motive_1:=fun e=>∀ h',Expr.Name.elim (motive_1:=fun _=>Str × Pos) e h' (fun x p=>(x,p))=(x,p)->e = .Name x p) e h1 (fun _ _ _ hh=>by cases hh;rfl) h1 h
theorem jm {e:Expr} {es:List Expr} {k:Nat} {p:Pos} (h:rY e=some (es,k,p)):e = .Tuple es k p:=by
 obtain ⟨h1,h⟩:=F5 h;exact Expr.Tuple.elim (motive_1:=fun e=>∀ h',Expr.Tuple.elim (motive_1:=fun _=>List Expr × Nat × Pos) e h' (fun es k p=>(es,k,p))=(es,k,p)->e = .Tuple es k p) e h1 (fun _ _ _ _ hh=>by cases hh;rfl) h1 h
noncomputable def oA {α:Type} (o:Option α) (k:α->Bool):Bool:=match o with
 | some r=>k r
 | none=>false
theorem uB {α:Type} {o:Option α} {k:α->Bool} (h:oA o k=true):∃ r,o=some r/\k r=true:=by
 cases o with
 | none=>cases h
 | some r=>exact ⟨r,rfl,h⟩
theorem Dt {a b:Bool} (h:(a || b)=true):a=true\/b=true:=by cases a;exact .inr h;exact .inl rfl
mutual
noncomputable def uC (b:Blk) (e:Expr):Tg->Bool
 | .name i=>oA (Ao e) fun r=>b.N[i]? == some r.1 && b.own r.1
 | .tup ts=>oA (rY e) fun r=>mO b r.1 ts
noncomputable def mO (b:Blk) (es:List Expr):List Tg->Bool
 | []=>es.isEmpty
 | t::ts=>lC es fun e es=>uC b e t && aO e && mO b es ts
end
noncomputable def Mj (e:Expr):Bool:=eG e fun c _ _=>decide (c = .none)
noncomputable def sBl (v:Bool) (e:Expr):Bool:=eG e fun c _ _=>decide (c = .bool v)
noncomputable def Du (v:Int) (e:Expr):Bool:=eG e fun c _ _=>decide (c = .int v)
noncomputable def Mk (v:Str) (e:Expr):Bool:=eG e fun c _ _=>decide (c = .str v)
noncomputable def vY (k:Str->Bool) (e:Expr):Bool:=Aj e fun x _=>k x
noncomputable def Iq (k:List Expr->Bool) (e:Expr):Bool:=Ak e fun es _ _=>k es
noncomputable def Ml (k:List Expr->Bool) (e:Expr):Bool:=F4 e fun es _=>k es
noncomputable def Mm (o:Operator) (k l:Expr->Bool) (e:Expr):Bool:=Ag e fun x op y _=>decide (op=o) && k x && l y
noncomputable def Mn (k:Expr->Bool) (e:Expr):Bool:=jl e fun o x _=>decide (o = .USub) && k x
noncomputable def Ir (k:Expr->Bool) (e:Expr):Bool:=jl e fun o x _=>decide (o = .Not) && k x
noncomputable def Iu (o:CmpOp) (k l:Expr->Bool) (e:Expr):Bool:=mK e fun x os ys _=>l1 os fun op=>l1 ys fun y=>decide (op=o) && k x && l y && aO y
noncomputable def Iv (o p:CmpOp) (k l m:Expr->Bool) (e:Expr):Bool:=mK e fun x os ys _=>lC os fun op os=>l1 os fun op'=>lC ys fun y ys=>l1 ys fun z=>decide (op=o) && decide (op'=p) && k x && l y && m z && aO z
noncomputable def Ap (o:BoolOp) (k l:Expr->Bool) (e:Expr):Bool:=ql e fun op vs _=>lC vs fun x vs=>l1 vs fun y=>decide (op=o) && k x && l y
noncomputable def Aq (o:BoolOp) (k l:Expr->Bool) (e:Expr):Bool:=ql e fun op vs p=>lC vs fun x vs=>lC vs fun y vs=>lC vs fun z ys=>decide (op=o) && k x && l (.BoolOp o (y::z::ys) p)
noncomputable def sIx (k l:Expr->Bool) (e:Expr):Bool:=cZ e fun x y _=>k x && l y && aO y
noncomputable def sSl (k:Expr->Bool) (l m:Option Expr->Bool) (e:Expr):Bool:=cZ e fun x s _=>Am s fun y z w _=>w.isNone && k x && l y && m z
noncomputable def sCN (e:Expr) (k:Str->List Expr->List Keyword->Bool):Bool:=vV e fun f es ks _=>Aj f fun x _=>k x es ks
noncomputable def F6 (k:Str->Bool) (l:List Expr->Bool) (e:Expr):Bool:=sCN e fun x es ks=>lC es fun e es=>ks.isEmpty && k x && l (e::es)
noncomputable def uD (b:Blk) (f:Str) (k:List Expr->Bool) (e:Expr):Bool:=sCN e fun x es ks=>lC es fun e es=>ks.isEmpty && x == f && b.glo x && k (e::es)
noncomputable def bZ (b:Blk) (f:Str) (k:Expr->Bool) (e:Expr):Bool:=sCN e fun x es ks=>l1 es fun e=>ks.isEmpty && x == f && b.glo x && k e && aO e
noncomputable def uE (b:Blk) (f:Str) (k l:Expr->Bool) (e:Expr):Bool:=sCN e fun x es ks=>lC es fun e es=>l1 es fun e'=>ks.isEmpty && (x == f && b.glo x && k e && aO e && l e' && aO e')
noncomputable def Ar (m:Str) (k:Expr->Bool) (l:List Expr->Bool) (e:Expr):Bool:=vV e fun f es ks p=>mM f fun x m' ap=>ks.isEmpty && m' == m && uA x && (ap.endLine == p.line) && k x && l es
noncomputable def F7 (k:Expr->Expr->Expr->List Expr->List Comprehension->Scope->Bool) (e:Expr):Bool:=jV e fun e gs scope _=>lC gs fun g gs=>decide (g.is_async=0) && k e g.target g.iter g.ifs gs scope
noncomputable def F8 (e:Expr):Bool:=Ai e fun ks vs _=>ks.isEmpty && vs.isEmpty
noncomputable def F9 (k l:Expr->Bool) (e:Expr):Bool:=Ai e fun ks vs _=>l1 ks fun x=>l1 vs fun y=>match x with
 | some x=>k x && l y
 | none=>false
theorem dG {x y:Str} (h:(x == y)=true):x=y:=eq_of_beq h
section
variable {e:Expr} {k l m:Expr->Bool}
theorem Iw (h:Mj e=true):∃ a p,e = .Constant .none a p:=by
 obtain ⟨c,a,p,rfl,h⟩:=dF h;cases of_decide_eq_true h;exact ⟨a,p,rfl⟩
theorem Mo {v:Bool} (h:sBl v e=true):∃ a p,e = .Constant (.bool v) a p:=by
 obtain ⟨c,a,p,rfl,h⟩:=dF h;cases of_decide_eq_true h;exact ⟨a,p,rfl⟩
theorem uF {v:Int} (h:Du v e=true):∃ a p,e = .Constant (.int v) a p:=by
 obtain ⟨c,a,p,rfl,h⟩:=dF h;cases of_decide_eq_true h;exact ⟨a,p,rfl⟩
theorem Ix {v:Str} (h:Mk v e=true):∃ a p,e = .Constant (.str v) a p:=by
 obtain ⟨c,a,p,rfl,h⟩:=dF h;cases of_decide_eq_true h;exact ⟨a,p,rfl⟩
theorem qp {k:Str->Bool} (h:vY k e=true):∃ x p,e = .Name x p/\k x=true:=vX h
theorem As {k:List Expr->Bool} (h:Iq k e=true):∃ x a p,e = .Tuple x a p/\k x=true:=Al h
theorem Iy {k:List Expr->Bool} (h:Ml k e=true):∃ x p,e = .List x p/\k x=true:=Ds h
theorem Iz {o:Operator} (h:Mm o k l e=true):∃ x y p,e = .BinOp x o y p/\k x=true/\l y=true:=by
 obtain ⟨x,op,y,p,rfl,h⟩:=Ah h;obtain ⟨h1,z0⟩:=an3 h;cases of_decide_eq_true h1;exact ⟨x,y,p,rfl,z0⟩
theorem IA (h:Mn k e=true):∃ x p,e = .UnaryOp .USub x p/\k x=true:=by
 obtain ⟨op,x,p,rfl,h⟩:=mJ h;obtain ⟨h1,z0⟩:=an2 h;cases of_decide_eq_true h1;exact ⟨x,p,rfl,z0⟩
theorem Au (h:Ir k e=true):∃ x p,e = .UnaryOp .Not x p/\k x=true:=by
 obtain ⟨op,x,p,rfl,h⟩:=mJ h;obtain ⟨h1,z0⟩:=an2 h;cases of_decide_eq_true h1;exact ⟨x,p,rfl,z0⟩
theorem Av {o:CmpOp} (h:Iu o k l e=true):∃ x y p,e = .Compare x [o] [y] p/\k x=true/\l y=true/\aO y=true:=by
 obtain ⟨x,os,ys,p,rfl,h⟩:=mL h;obtain ⟨op,rfl,h⟩:=jk h;obtain ⟨y,rfl,h⟩:=jk h;obtain ⟨h1,z0⟩:=an4 h;cases of_decide_eq_true h1;exact ⟨x,y,p,rfl,z0⟩
theorem Aw {o p:CmpOp} (h:Iv o p k l m e=true):∃ x y z q,e = .Compare x [o,p] [y,z] q/\k x=true/\l y=true/\m z=true/\aO z=true:=by
 obtain ⟨x,os,ys,q,rfl,h⟩:=mL h;obtain ⟨op,os,rfl,h⟩:=eW h;obtain ⟨op',rfl,h⟩:=jk h;obtain ⟨y,ys,rfl,h⟩:=eW h;obtain ⟨z,rfl,h⟩:=jk h;obtain ⟨h1,h2,z0⟩:=an6 h;cases of_decide_eq_true h1;cases of_decide_eq_true h2;exact ⟨x,y,z,q,rfl,z0⟩
theorem qq {o:BoolOp} (h:Ap o k l e=true):∃ x y p,e = .BoolOp o [x,y] p/\k x=true/\l y=true:=by
 obtain ⟨op,vs,p,rfl,h⟩:=oK h;obtain ⟨x,vs,rfl,h⟩:=eW h;obtain ⟨y,rfl,h⟩:=jk h;obtain ⟨h1,z0⟩:=an3 h;cases of_decide_eq_true h1;exact ⟨x,y,p,rfl,z0⟩
theorem qr {o:BoolOp} (h:Aq o k l e=true):∃ x y z ys p,e = .BoolOp o (x::y::z::ys) p/\k x=true/\l (.BoolOp o (y::z::ys) p)=true:=by
 obtain ⟨op,vs,p,rfl,h⟩:=oK h;obtain ⟨x,vs,rfl,h⟩:=eW h;obtain ⟨y,vs,rfl,h⟩:=eW h;obtain ⟨z,vs,rfl,h⟩:=eW h;obtain ⟨h1,z0⟩:=an3 h;cases of_decide_eq_true h1;exact ⟨x,y,z,vs,p,rfl,z0⟩
theorem Mp (h:sIx k l e=true):∃ x y p,e = .Subscript x y p/\k x=true/\l y=true/\aO y=true:=by
 obtain ⟨x,y,p,rfl,h⟩:=cP h;exact ⟨x,y,p,rfl,an3 h⟩
theorem Mq {l m:Option Expr->Bool} (h:sSl k l m e=true):∃ x y z p q,e = .Subscript x (.Slice y z none p) q/\k x=true/\l y=true/\m z=true:=by
 obtain ⟨x,s,q,rfl,h⟩:=cP h;obtain ⟨y,z,w,p,rfl,h⟩:=An h;obtain ⟨h1,z0⟩:=an4 h;cases w;exact ⟨x,y,z,p,q,rfl,z0⟩;cases h1
theorem vZ {k:Str->List Expr->List Keyword->Bool} (h:sCN e k=true):∃ x p es ks q,e = .Call (.Name x p) es ks q/\k x es ks=true:=by
 obtain ⟨f,es,ks,q,rfl,h⟩:=vW h;obtain ⟨x,p,rfl,h⟩:=vX h;exact ⟨x,p,es,ks,q,rfl,h⟩
theorem Dv {k:Str->Bool} {l:List Expr->Bool} (h:F6 k l e=true):∃ x x1 es p q,e = .Call (.Name x p) (x1::es) [] q/\k x=true/\l (x1::es)=true:=by
 obtain ⟨x,p,es,ks,q,rfl,h⟩:=vZ h;obtain ⟨x1,es,rfl,h⟩:=eW h;obtain ⟨h1,z0⟩:=an3 h;cases fV h1;exact ⟨x,x1,es,p,q,rfl,z0⟩
theorem rZ {b:Blk} {f:Str} {k:List Expr->Bool} (h:uD b f k e=true):∃ x es p q,e = .Call (.Name f p) (x::es) [] q/\b.glo f=true/\k (x::es)=true:=by
 obtain ⟨x,p,es,ks,q,rfl,h⟩:=vZ h;obtain ⟨x1,es,rfl,h⟩:=eW h;obtain ⟨h1,h2,z0⟩:=an4 h;cases fV h1;cases dG h2;exact ⟨x1,es,p,q,rfl,z0⟩
theorem a9 {b:Blk} {f:Str} (h:bZ b f k e=true):∃ x p q,e = .Call (.Name f p) [x] [] q/\b.glo f=true/\k x=true/\aO x=true:=by
 obtain ⟨x,p,es,ks,q,rfl,h⟩:=vZ h;obtain ⟨x1,rfl,h⟩:=jk h;obtain ⟨h1,h2,z0⟩:=an5 h;cases fV h1;cases dG h2;exact ⟨x1,p,q,rfl,z0⟩
theorem mP {b:Blk} {f:Str} (h:uE b f k l e=true):∃ x y p q,e = .Call (.Name f p) [x,y] [] q/\b.glo f=true/\k x=true/\aO x=true/\l y=true/\aO y=true:=by
 obtain ⟨x,p,es,ks,q,rfl,h⟩:=vZ h;obtain ⟨x1,es,rfl,h⟩:=eW h;obtain ⟨y,rfl,h⟩:=jk h;obtain ⟨h1,y0⟩:=an2 h;obtain ⟨h2,z0⟩:=an6 y0;cases fV h1;cases dG h2;exact ⟨x1,y,p,q,rfl,z0⟩
theorem qt {m:Str} {l:List Expr->Bool} (h:Ar m k l e=true):∃ x ap es p,e = .Call (.Attribute x m ap) es [] p/\uA x=true/\(ap.endLine == p.line)=true/\k x=true/\l es=true:=by
 obtain ⟨f,es,ks,p,rfl,h⟩:=vW h;obtain ⟨x,m',ap,rfl,h⟩:=qm h;obtain ⟨h1,h2,z0⟩:=an6 h;cases fV h1;cases dG h2;exact ⟨x,ap,es,p,rfl,z0⟩
theorem v0 {k:Expr->Expr->Expr->List Expr->List Comprehension->Scope->Bool} (h:F7 k e=true):∃ el t i ifs gs scope p,e = .ListComp el (⟨t,i,ifs,0⟩::gs) scope p/\k el t i ifs gs scope=true:=by
 obtain ⟨el,gs,scope,p,rfl,h⟩:=ky h;obtain ⟨⟨t,i,ifs,as⟩,gs,rfl,h⟩:=eW h;obtain ⟨h1,z0⟩:=an2 h;cases of_decide_eq_true h1;exact ⟨el,t,i,ifs,gs,scope,p,rfl,z0⟩
theorem Dx (h:F8 e=true):∃ p,e = .Dict [] [] p:=by
 obtain ⟨ks,vs,p,rfl,h⟩:=vU h;obtain ⟨h1,h2⟩:=an2 h;cases fV h1;cases fV h2;exact ⟨p,rfl⟩
theorem Dy (h:F9 k l e=true):∃ x y p,e = .Dict [some x] [y] p/\k x=true/\l y=true:=by
 obtain ⟨ks,vs,p,rfl,h⟩:=vU h;obtain ⟨x,rfl,h⟩:=jk h;obtain ⟨y,rfl,h⟩:=jk h;cases x with
 | none=>cases h
 | some x=>exact ⟨x,y,p,rfl,an2 h⟩
end
noncomputable def Ax (f:Expr->CE->Bool) (l:Option Expr):Option CE->Bool
 | none=>l.isNone
 | some c=>oA l fun e=>f e c
noncomputable def Ay (f:Expr->CE->Bool) (l:List Expr):Option CE->Bool
 | none=>l.isEmpty
 | some c=>l1 l fun e=>f e c
noncomputable def clC (cls:List Cl) (k:Tg->CI->Option CE->List Cl->Bool):Bool:=match cls with
 | []=>false
 | ⟨tg,it,cond⟩::rest=>k tg it cond rest
theorem Ga {cls:List Cl} {k:Tg->CI->Option CE->List Cl->Bool} (h:clC cls k=true):∃ tg it cond rest,cls=⟨tg,it,cond⟩::rest/\k tg it cond rest=true:=by
 cases cls with
 | nil=>cases h
 | cons g rest=>obtain ⟨tg,it,cond⟩:=g;exact ⟨tg,it,cond,rest,rfl,h⟩
mutual
noncomputable def aI (T:Tab):Nat->Blk->Expr->CE->Bool
 | 0,_,_,_=>false
 | n+1,b,e,c=>match c with
  | .non=>Mj e
  | .bl v=>sBl v e
  | .int i=>Du i e
  | .str x=>Mk x e
  | .var i=>vY (fun x=>b.N[i]? == some x && b.vis x) e
  | .con k v=>vY (fun x=>T.con[k]? == some (x,v) && b.glo x) e
  | .tup cs=>Iq (fun es=>eX T n b es cs) e
  | .lst cs=>Ml (fun es=>eX T n b es cs) e
  | .dic0=>F8 e
  | .dic1 i j=>F9 (Du i) (Du j) e
  | .bin o a c=>Mm o.op (fun x=>aI T n b x a) (fun x=>aI T n b x c) e
  | .neg a=>Mn (fun x=>aI T n b x a) e
  | .cmp o a c=>Iu o.op (fun x=>aI T n b x a) (fun x=>aI T n b x c) e
  | .chn o p a c d=>Iv o.op p.op (fun x=>aI T n b x a) (fun x=>aI T n b x c) (fun x=>aI T n b x d) e
  | .and a c=>Ap .And (fun x=>aI T n b x a) (fun x=>aI T n b x c) e || Aq .And (fun x=>aI T n b x a) (fun x=>aI T n b x c) e
  | .or a c=>Ap .Or (fun x=>aI T n b x a) (fun x=>aI T n b x c) e || Aq .Or (fun x=>aI T n b x a) (fun x=>aI T n b x c) e
  | .not a=>Ir (fun x=>aI T n b x a) e
  | .ix a c=>sIx (fun x=>aI T n b x a) (fun x=>aI T n b x c) e
  | .sl a lo hi=>sSl (fun x=>aI T n b x a) (fun l=>Ax (aI T n b) l lo) (fun l=>Ax (aI T n b) l hi) e
  | .call f cs=>F6 (fun x=>oA T.fns[f]? (fun y=>y.1 == x) && b.glo x) (fun es=>eX T n b es cs) e
  | .inst t a=>uE b "isinstance" (fun x=>aI T n b x a) (vY fun y=>y == Str.ofString t.nm && b.glo y) e
  | .len a=>bZ b "len" (fun x=>aI T n b x a) e
  | .all a=>bZ b "all" (fun x=>aI T n b x a) e
  | .any a=>bZ b "any" (fun x=>aI T n b x a) e
  | .tupOf a=>bZ b "tuple" (fun x=>aI T n b x a) e
  | .listOf a=>bZ b "list" (fun x=>aI T n b x a) e
  | .listR a=>bZ b "list" (bZ b "range" fun x=>aI T n b x a) e
  | .srt a=>bZ b "sorted" (fun x=>aI T n b x a) e
  | .mxL a=>bZ b "max" (fun x=>aI T n b x a) e
  | .intOf a=>bZ b "int" (fun x=>aI T n b x a) e
  | .mx a c=>uD b "max" (fun es=>eX T n b es [a,c]) e
  | .mn a c=>uD b "min" (fun es=>eX T n b es [a,c]) e
  | .rep a=>bZ b "repr" (fun x=>aI T n b x a) e
  | .comp own elt cls=>clC cls fun tg it cond rest=>F7 (fun el t i ifs gs scope=>cmB own (mN own b.N) b.N scope b.sc && r9 T n b t i it && uC (b.inner own scope) t tg && Ay (fW T n (b.inner own scope)) ifs cond && oM T n (b.inner own scope) el gs elt rest) e
  | .app o a=>Ar "append" (fun x=>aI T n b x o) (fun es=>eX T n b es [a]) e
  | .popAt o a=>Ar "pop" (fun x=>aI T n b x o) (fun es=>eX T n b es [a]) e
  | .ins o i a=>Ar "insert" (fun x=>aI T n b x o) (fun es=>eX T n b es [i,a]) e
  | .cnt o a=>Ar "count" (fun x=>aI T n b x o) (fun es=>eX T n b es [a]) e
noncomputable def eX (T:Tab):Nat->Blk->List Expr->List CE->Bool
 | 0,_,_,_=>false
 | n+1,b,es,cs=>match cs with
  | []=>es.isEmpty
  | c::cs=>lC es fun e es=>aI T n b e c && aO e && eX T n b es cs
noncomputable def oM (T:Tab):Nat->Blk->Expr->List Comprehension->CE->List Cl->Bool
 | 0,_,_,_,_,_=>false
 | n+1,b,e,gs,elt,cls=>match cls with
  | []=>gs.isEmpty && aI T n b e elt
  | ⟨tg,it,cond⟩::rest=>lC gs fun g gs=>decide (g.is_async=0) && r9 T n b g.target g.iter it && uC b g.target tg && Ay (fW T n b) g.ifs cond && oM T n b e gs elt rest
noncomputable def r9 (T:Tab):Nat->Blk->Expr->Expr->CI->Bool
 | 0,_,_,_,_=>false
 | n+1,b,t,e,c=>match c with
  | .val a=>aI T n b e a && aO e
  | .r1 a=>bZ b "range" (fun x=>aI T n b x a) e
  | .r2 a c=>uE b "range" (fun x=>aI T n b x a) (fun x=>aI T n b x c) e
  | .en a=>bZ b "enumerate" (fun x=>aI T n b x a) e && Iq (fun _=>true) t
noncomputable def fW (T:Tab):Nat->Blk->Expr->CE->Bool
 | 0,_,_,_=>false
 | n+1,b,e,c=>match c with
  | .cmp o a c=>Iu o.op (fun x=>aI T n b x a) (fun x=>aI T n b x c) e
  | .chn o p a c d=>Iv o.op p.op (fun x=>aI T n b x a) (fun x=>aI T n b x c) (fun x=>aI T n b x d) e
  | .and a c=>Ap .And (fun x=>fW T n b x a) (fun x=>fW T n b x c) e || Aq .And (fun x=>fW T n b x a) (fun x=>fW T n b x c) e
  | .or a c=>Ap .Or (fun x=>fW T n b x a) (fun x=>fW T n b x c) e || Aq .Or (fun x=>fW T n b x a) (fun x=>fW T n b x c) e
  | .not a=>Ir (fun x=>fW T n b x a) e
  | c=>aI T n b e c && Ip e
end
theorem gO {T:Tab} {n:Nat} {b:Blk} {t e:Expr} {c:CI} (h:r9 T n b t e c=true) (hp:∀ e,aO e=true->∀ env x,foldedSetIterable e env x=pure x):∀ env x,foldedSetIterable e env x=pure x:=by
 cases n with
 | zero=>cases h
 | succ n=>
  cases c with
  | val a=>exact hp e (an2 h).2
  | r1 a=>obtain ⟨x,p,q,rfl,_⟩:=a9 h;intro _ _;rfl
  | r2 a c=>obtain ⟨x,y,p,q,rfl,_⟩:=mP h;intro _ _;rfl
  | en a=>obtain ⟨x,p,q,rfl,_⟩:=a9 (an2 h).1;intro _ _;rfl
end Ev
namespace Ev
open PySem PySem.Spec PyProof.Rows L2
structure CtxOk (T:Tab) (C:Calls) (ar:Nat->Nat) (k:Nat) (b:Blk) (X:Cx):Prop where
 calm:X.calm=true
 xe:X.xe=fun _ _=>False
 hN:X.N=b.N
 hs:X.env.scope=b.sc
 nd:b.N.Nodup
 fn:∀ x,(match b.fs with | none=>true | some sc=>sc.names.lookup x == some .cell)=true->X.fn x=true
 room:Room k X.A
 con:∀ (i:Nat) (x:Str) (v:Int),T.con[i]?=some (x,v)->∃ tk,X.mg x=some (.int v tk)
 bl:∀ x,x ∈ jj->X.mg x=none
 fns:∀ (i:Nat) (y:Str × Nat),T.fns[i]?=some y->ar i=y.2/\∃ f fd ps,X.mg y.1=some (.ref f)/\PySem.W.keepIn X.K (.ref f)=true/\n9 X.K fd ps []/\FnOk X.prog X.w X.K X.mg X.base CX0 k f fd ps (spC X.K (C i) (ar i))
section
variable {T:Tab} {C:Calls} {ar:Nat->Nat} {k:Nat} {b:Blk} {X:Cx}
theorem aq {e:Expr} {es:List Expr} {env:Env} (h:aO e=true):starEach (e::es) env=(false,eval e env)::starEach es env:=by
 cases e <;> first | rfl | (exact absurd h Zf)
theorem se {e:Expr} (h:aO e=true):vA e:=by
 intro o i;cases e <;> first | rfl | (exact absurd h Zf)
theorem iG {e:Expr} {op:CmpOp} (h:aO e=true):behindInMarks op e=false:=by
 cases e <;> first | rfl | (exact absurd h Zf)
theorem mQ {e f:Expr} {op op':CmpOp} (h:aO e=true):lastMarks [op,op'] [f,e]=false:=by
 show behindInMarks op' e=false;exact iG h
theorem eY {e:Expr} {env:Env} (h:aO e=true):∀ x,foldedSetIterable e env x=pure x:=by
 intro x;cases e <;> first | rfl | (exact absurd h Zf)
theorem eZ {e:Expr} {m:Str} {env:Env} {w:Sem Value} (h:uA e=true):attributeBase e m env w=w:=by
 cases e with
 | Call f as ks p=>
  cases f with
  | Name x q=>
   cases as with
   | nil=>cases ks with | nil=>exact absurd h Zf | cons _ _=>rfl
   | cons _ _=>rfl
  | _=>rfl
 | _=>first | rfl | (exact absurd h Zf)
theorem uG {e:Expr} {env:Env} (h:Ip e=true):∀ whole,isTrue e env whole=(do let v <-whole;standAt e.pos;holding [v] (truthy v)):=by
 intro whole;cases e with
 | UnaryOp op x p=>cases op <;> first | rfl | (exact absurd h Zf)
 | _=>first | rfl | (exact absurd h Zf)
theorem jW {es:List Expr} {env:Env} {pos:Pos} (h:∀ e ∈ es,aO e=true):(backTo pos (starEach es env)).any (·.1)=false:=by
 induction es with
 | nil=>rfl
 | cons e es ih=>
  rw [aq (h e Zg)];show (false || (backTo pos (starEach es env)).any (·.1))=false;rw [ih fun e he=>h e (Ze _ he)];rfl
theorem bu:∀ {n:Nat} {es:List Expr} {cs:List CE},eX T n b es cs=true->∀ e ∈ es,aO e=true
 | 0,_,_,h=>absurd h Zf
 | n+1,es,[],h=>fun x hx=>by rw [fV h] at hx;cases hx
 | n+1,es,c::cs,h=>by
  obtain ⟨e,es,rfl,h⟩:=eW h;obtain ⟨_,h1,h⟩:=an3 h;intro x hx;rcases Zk.mp hx with rfl | hx
  ·exact h1
  ·exact bu h x hx
theorem CtxOk.gl (G:CtxOk T C ar k b X) {x:Str} (h:b.glo x=true):Gl X x/\(x == ("__debug__" : Str))=false:=by
 unfold Blk.glo at h;rw [bAE] at h;refine ⟨?_,by simpa using h.2⟩;show X.env.scope.names.lookup x=_;rw [G.hs]
 simpa using h.1
theorem CtxOk.vis (G:CtxOk T C ar k b X) {x:Str} (h:b.vis x=true):Vis X.env.scope x/\(x == ("__debug__" : Str))=false/\(x == ("__classdict__" : Str))=false:=by
 unfold Blk.vis at h;rw [bAE,bAE] at h;refine ⟨?_,by simpa using h.1.2,by simpa using h.2⟩;unfold Vis;rw [G.hs];have h1:=h.1.1;split at h1
 ·rename_i e;exact .inl e
 ·rename_i e;exact .inr (.inl e)
 ·rename_i e;exact .inr (.inr e)
 ·cases h1
theorem CtxOk.own (G:CtxOk T C ar k b X) {x:Str} (h:b.own x=true):L2.Loc X.env.scope x/\(X.fn x=true\/X.env.scope.names.lookup x=some .local):=by
 unfold Blk.own at h;unfold L2.Loc;rw [G.hs];split at h
 ·rename_i e;exact ⟨.inl e,.inr e⟩
 ·rename_i e;refine ⟨.inr e,.inl (G.fn x ?_)⟩;cases hf:b.fs with
  | none=>rfl
  | some sc=>rw [hf] at h;exact h
 ·cases h
theorem CtxOk.inner (G:CtxOk T C ar k b X) {own:List Str} {scope:Scope} (S:CmScope own (mN own b.N) b.N scope b.sc) {C':Addr} {ex:List Addr} {s:Shared} {H:Hp}:CtxOk T C ar k (b.inner own scope) (cxC X own (mN own b.N) scope C' ex s H):=
 ⟨G.calm,rfl,by show cT (mN own b.N) X.N++own=_;rw [G.hN];rfl,by show fR scope X.env.scope=_;rw [G.hs];rfl,S.nd,fun x h=>h,G.room,G.con,G.bl,G.fns⟩
theorem oO {e:Expr} {es:List Expr} {env:Env} (h:aO e=true):assignEach (e::es) env=(false,assign e env)::assignEach es env:=by
 cases e <;> first | rfl | (exact absurd h Zf)
mutual
theorem gP (G:CtxOk T C ar k b X):∀ {e:Expr} {t:Tg},uC b e t=true->PG X e (tTg X.K t)
 | e,.name i,h=>by
  obtain ⟨r,hx,h⟩:=uB h;obtain ⟨h1,h2⟩:=an2 h;rw [qo hx];have o:=G.own h2;exact PG.imp (Cg (i:=i) (x:=r.1) (by rw [G.hN];exact G.nd) (by rw [G.hN];exact eq_of_beq h1) o.1 o.2) fun x σ H Q q=>qk q
 | e,.tup ts,h=>by
  obtain ⟨r,hx,h⟩:=uB h;rw [jm hx];have hl:=oP h;exact PG.imp (yI G.calm (sf G h) rfl hl.2) fun x σ H Q q=>Ib hl.1 q
theorem sf (G:CtxOk T C ar k b X):∀ {es:List Expr} {ts:List Tg},mO b es ts=true->PGs X es (zT X.K ts)
 | es,[],h=>by
  rw [fV h];exact PGs.imp vn fun x σ H Q q=>Dg q
 | es,t::ts,h=>by
  obtain ⟨e,es,rfl,h⟩:=eW h;obtain ⟨h1,h2,h⟩:=an3 h;exact PGs.imp (lU (gP G h1) (sf G h) (by rw [oO h2];rfl)) fun x σ H Q q=>zU q
theorem oP:∀ {es:List Expr} {ts:List Tg},mO b es ts=true->(assignEach es X.env).length=ts.length/\(assignEach es X.env).findIdx? (·.1)=none
 | es,[],h=>by
  rw [fV h];exact ⟨rfl,rfl⟩
 | es,t::ts,h=>by
  obtain ⟨e,es,rfl,h⟩:=eW h;obtain ⟨h1,h2,h⟩:=an3 h;have ih:=oP h;rw [oO h2];refine ⟨congrArg (·+1) ih.1,?_⟩;rw [List.findIdx?_cons];simp [ih.2]
end
end
end Ev
namespace Ev
open PySem PySem.Spec PyProof.Rows L2
structure Snd (T:Tab) (C:Calls) (ar:Nat->Nat) (k n:Nat):Prop where
 e:∀ (b:Blk) (X:Cx) (e:Expr) (c:CE),CtxOk T C ar k b X->aI T n b e c=true->PE X e (tE X.K (evE C ar n c))
 tm:∀ (b:Blk) (X:Cx) (e:Expr) (c:CE),CtxOk T C ar k b X->ag c=true->aI T n b e c=true->PE X e (eR X.K (cz C ar n c))
 a:∀ (b:Blk) (X:Cx) (es:List Expr) (cs:List CE),CtxOk T C ar k b X->eX T n b es cs=true->PA X es (tAr X.K (evA C ar n cs))
 t:∀ (b:Blk) (X:Cx) (e:Expr) (c:CE),CtxOk T C ar k b X->fW T n b e c=true->PT X e (tT X.K (evT C ar n c))
 i:∀ (B:List Addr) (b:Blk) (X:Cx) (t e:Expr) (c:CI),CtxOk T C ar k b X->r9 T n b t e c=true->PI X t e (tIt X.K B (evI C ar n c))
 cl:∀ (b:Blk) (X:Cx) (e:Expr) (gs:List Comprehension) (elt:CE) (cls:List Cl),CtxOk T C ar k b X->oM T n b e gs elt cls=true ->
  ∀ (gens:List Comprehension) (scope:Scope) (pos:Pos) (acc:Addr) (d:Nat),gens.drop (d+1)=gs->PTl X e gens scope pos acc d (tCl X.K acc (g8 C ar n elt cls))
section
variable {T:Tab} {C:Calls} {ar:Nat->Nat} {k n:Nat} {b:Blk} {X:Cx}
theorem jp {e:Expr} {es:List Expr} {te:TE} {t:TA} (ha:PE X e te) (hr:PA X es t) (hp:aO e=true):PA X (e::es) (fC te t):=Cp ha hr (aq hp)
theorem Mr (ih:Snd T C ar k n) (es:List Expr) (cs:List CE) (G:CtxOk T C ar k b X) (h:eX T (n+1) b es cs=true):PA X es (tAr X.K (evA C ar (n+1) cs)):=by
 cases cs with
 | nil=>rw [fV h];exact PA.imp yQ fun σ H Q q=>HD q
 | cons c cs=>
  obtain ⟨e,es,rfl,h⟩:=eW h;obtain ⟨h1,h2,h⟩:=an3 h;exact PA.imp (jp (ih.e b X e c G h1) (ih.a b X es cs G h) h2) fun σ H Q q=>C0 q
theorem dQ {e:Expr} {te:TE} (h:PE X e te) (hp:aO e=true):PA X [e] (fC te pC):=jp h yQ hp
theorem e8 {x:Str} {id:String} {e:Expr} {te:TE} {r:V->Hp->VK->Prop} {p pos:Pos} (hc:aR X (.builtin id) (r1 r)) (G:CtxOk T C ar k b X) (hg:b.glo x=true) (hb:x ∈ jj) (hv:bootBuiltins x=some (.builtin id)) (hn:x ≠ "__name__") (h:PE X e te) (hp:aO e=true) :
  PE X (.Call (.Name x p) [e] [] pos) (tUn r te):=
 PE.imp (iY hc (G.gl hg).1 (G.bl x hb) hv (dQ h hp) hn (G.gl hg).2 (aq hp) rfl) fun σ H Q q=>q
theorem lD {x:Str} {id:String} {e:Expr} {te:TE} {r:V->Hp->VK->Prop} {p pos:Pos} (hc:aR X (.type id) (r1 r)) (G:CtxOk T C ar k b X) (hg:b.glo x=true) (hb:x ∈ jj) (hv:bootBuiltins x=some (.type id)) (hn:x ≠ "__name__") (h:PE X e te) (hp:aO e=true) :
  PE X (.Call (.Name x p) [e] [] pos) (tUn r te):=
 PE.imp (jL hc (G.gl hg).1 (G.bl x hb) hv (dQ h hp) hn (G.gl hg).2 (aq hp) rfl) fun σ H Q q=>q
theorem mR {x:Str} {e:Expr} {a:CE} {f:Bool->List D->Sto->Option (D × Sto)} {ks:List Keyword} {p pos:Pos} (ih:Snd T C ar k n) (G:CtxOk T C ar k b X) (hq:∀ te:TE,PE X e te->PE X (.Call (.Name x p) [e] ks pos) (tUn (rSq X.K f) te)) (h:aI T n b e a=true) :
  PE X (.Call (.Name x p) [e] ks pos) (tE X.K (if ag a=true then rC f (cz C ar n a) else rD f (evE C ar n a))):=by
 split
 ·rename_i ht;exact PE.imp (hq _ (ih.tm b X e a G ht h)) fun σ H Q q=>HB q
 ·exact PE.imp (hq _ (ih.e b X e a G h)) fun σ H Q q=>HF q
theorem v5 {x y:Str} (h:(x == y)=true):x=y:=eq_of_beq h
theorem qu {K:PySem.W.Frag} {x:XE} {σ:L2.St} {H:Hp} {Q Q':VK} (h:tE K x σ H Q) (f:∀ v H',Q v H'->Q' v H'):tE K x σ H Q':=by
 obtain ⟨m,ρ,S,d,S',E,R,e,q⟩:=h;exact ⟨m,ρ,S,d,S',E,R,e,fun m' H' v A vd=>f _ _ (q m' H' v A vd)⟩
theorem Az {x:XE} {σ:L2.St} {H:Hp} {Q:VK} {K:PySem.W.Frag} (h:eR K (mI x) σ H Q):tUn (rTm K fun _ ds=>some ds) (tE K x) σ H Q:=by
 obtain ⟨m,ρ,S,ds,S',E,R,e,q⟩:=h;obtain ⟨d,S1,e1,e⟩:=ae e;cases hi:aj d S1 with
 | none=>rw [hi] at e;cases e
 | some r=>
  rw [hi] at e;cases e;refine ⟨m,ρ,S,d,_,E,R,e1,fun m1 H1 v A1 vd=>?_⟩;obtain ⟨a,vs,ev,sq,vds⟩:=eB (tu:=r.1) (ds:=r.2) A1.rel vd hi;refine ⟨m1,_,r.1,r.2,a,vs,r.2,A1.rel,ev,sq,vds,rfl,fun m2 H2 p ws A2 hp n1 n2 n3 vw=>?_⟩
  have hn:H p=none:=by
   cases eh:H p with
   | none=>rfl
   | some o=>
    by_cases hm:p ∈ m
    ·exact absurd rfl (n2 p (A1.ext.pre.subset hm))
    ·have:=A1.ext.keep p o eh hm;rw [n3] at this;cases this
  exact q m2 H2 p ws (A1.trans A2) hp n1 (fun b hb=>n2 b (A1.ext.pre.subset hb)) hn vw
theorem AA {x:XA} {σ:L2.St} {H:Hp} {Q:VK} {K:PySem.W.Frag} (h:eR K x σ H Q):tUn (rTm K fun _ ds=>some ds) (eR K x) σ H Q:=by
 obtain ⟨m,ρ,S,ds,S',E,R,e,q⟩:=h;refine ⟨m,ρ,S,ds,S',E,R,e,fun m1 H1 a vs A1 ha na _ _ vd=>?_⟩;refine ⟨m1,_,false,ds,a,vs,ds,A1.rel,rfl,show SqL K H1 a vs from SqL.of ha,vd,rfl,fun m2 H2 p ws A2 hp n1 n2 n3 vw=>?_⟩
 have hn:H p=none:=by
  cases eh:H p with
  | none=>rfl
  | some o=>
   by_cases hm:p ∈ m
   ·exact absurd rfl (n2 p (A1.ext.pre.subset hm))
   ·have:=A1.ext.keep p o eh hm;rw [n3] at this;cases this
 exact q m2 H2 p ws (A1.trans A2) hp n1 (fun b hb=>n2 b (A1.ext.pre.subset hb)) hn vw
noncomputable def ifT (C:Calls) (ar:Nat->Nat) (n:Nat) (K:PySem.W.Frag):Option CE->TT
 | none=>CF
 | some c=>tT K (evT C ar n c)
theorem mS (ih:Snd T C ar k n) (G:CtxOk T C ar k b X) {ifs:List Expr} {cond:Option CE} (h:Ay (fW T n b) ifs cond=true):PTs X ifs (ifT C ar n X.K cond):=by
 cases cond with
 | none=>rw [fV h];exact CG
 | some c=>obtain ⟨e,rfl,h⟩:=jk h;exact CH (ih.t b X e c G h)
theorem uH {K:PySem.W.Frag} {cond:Option CE} {acc:Addr} {c:XA} {D:Ends} {σ:L2.St} {H:Hp} (q:tCl K acc (cnd (evT C ar n) cond c) D σ H):fD (ifT C ar n K cond) (tCl K acc c) D σ H:=by
 cases cond with
 | none=>exact Ij q
 | some c=>exact Dn q
theorem sg (ih:Snd T C ar k n) (G:CtxOk T C ar k b X) {l:Option Expr} {lo:Option CE} (h:Ax (aI T n b) l lo=true):PO X l (tOI X.K (opt (evE C ar n) lo)):=by
 cases lo with
 | none=>
  cases l with
  | none=>exact PO.imp Cs fun σ H Q q=>C6 q
  | some _=>cases h
 | some c=>obtain ⟨e,rfl,h⟩:=uB h;exact PO.imp (Ct (ih.e b X e c G h)) fun σ H Q q=>C7 q
theorem IB (ih:Snd T C ar k n) (e:Expr) (gs:List Comprehension) (elt:CE) (cls:List Cl) (G:CtxOk T C ar k b X) (h:oM T (n+1) b e gs elt cls=true) (gens:List Comprehension) (scope:Scope) (pos:Pos) (acc:Addr) (d:Nat) (hd:gens.drop (d+1)=gs) :
  PTl X e gens scope pos acc d (tCl X.K acc (g8 C ar (n+1) elt cls)):=by
 have imp:∀ {t t':TS},PTl X e gens scope pos acc d t->(∀ D σ H,t' D σ H->t D σ H)->PTl X e gens scope pos acc d t':=fun h f pins s σ H D I q=>h pins s σ H D I (f D σ H q);cases cls with
 | nil=>
  obtain ⟨h0,h⟩:=an2 h;cases fV h0
  have hn:gens[d+1]?=none:=by
   have:=congrArg Zb hd;simp at this;exact Yd.mpr (by omega)
  exact imp (ze G.xe hn (ih.e b X e elt G h)) fun D σ H q=>Dm q
 | cons g rest=>
  obtain ⟨tg,it,cond⟩:=g;obtain ⟨⟨t,i,ifs,as⟩,gs',rfl,h⟩:=eW h;obtain ⟨h0,h1,h2,h3,h4⟩:=an5 h;cases of_decide_eq_true h0
  have hn:gens[d+1]?=some ⟨t,i,ifs,0⟩:=by
   have:=congrArg (·[0]?) hd
   simpa using this
  have hd':gens.drop (d+1+1)=gs':=by
   have:=congrArg (Yb 1) hd
   simpa [List.drop_drop] using this
  have hpl:=gO h1 (fun e he env=>eY he) X.env;exact imp (CJ hn (ih.i [acc] b X t i it G h1) (gP G h2) (mS ih G h3) (ih.cl b X e gs' elt rest G h4 gens scope pos acc (d+1) hd') G.xe G.calm hpl) fun D σ H q=>z7 (fun D σ H z=>uH z) q
theorem Ms (ih:Snd T C ar k n) (B:List Addr) (t e:Expr) (c:CI) (G:CtxOk T C ar k b X) (h:r9 T (n+1) b t e c=true):PI X t e (tIt X.K B (evI C ar (n+1) c)):=by
 cases c with
 | val a=>
  have h:=an2 h;show PI X t _ (tIt X.K B (if ag a=true then xIT (cz C ar n a) else xIV (evE C ar n a)));split
  ·rename_i ht;exact PI.imp (vo (ih.tm b X _ a G ht h.1)) fun σ H R q=>Ot q
  ·exact PI.imp (PI.or (vo (ih.e b X _ a G h.1)) (GZ (ih.e b X _ a G h.1))) fun σ H R q=>Os q
 | r1 a=>
  obtain ⟨x,p,q,rfl,h2,h3,h4⟩:=a9 h;exact PI.imp (wY (G.gl h2).1 (G.bl _ (by decide)) (dQ (ih.e b X x a G h3) h4) (aq h4)) fun σ H R q=>Mf q
 | r2 a c=>
  obtain ⟨x,y,p,q,rfl,h2,h3,h4,h5,h6⟩:=mP h;exact PI.imp (wZ (G.gl h2).1 (G.bl _ (by decide)) (jp (ih.e b X x a G h3) (dQ (ih.e b X y c G h5) h6) h4) (by rw [aq h4,aq h6];rfl) (aq h6)) fun σ H R q=>Mg q
 | en a=>
  have h:=an2 h;obtain ⟨x,p,q,rfl,h2,h3,h4⟩:=a9 h.1;obtain ⟨elts,x1,tp,rfl,_⟩:=As h.2;show PI X _ _ (tIt X.K B (if ag a=true then xET (cz C ar n a) else xEV (evE C ar n a)));split
  ·rename_i ht;exact PI.imp (zj (G.gl h2).1 (G.bl _ (by decide)) (dQ (ih.tm b X x a G ht h3) h4) (aq h4)) fun σ H R q=>Me q
  ·exact PI.imp (PI.or (zj (G.gl h2).1 (G.bl _ (by decide)) (dQ (ih.e b X x a G h3) h4) (aq h4)) (Hr (G.gl h2).1 (G.bl _ (by decide)) (dQ (ih.e b X x a G h3) h4) (aq h4))) fun σ H R q=>Md q
end
end Ev
namespace Ev
open PySem PySem.Spec PyProof.Rows L2
section
variable {T:Tab} {C:Calls} {ar:Nat->Nat} {k n:Nat} {b:Blk} {X:Cx}
theorem si {k:Nat} {A:Around} (r:Room k A):A.units+64 < cLine:=r.units
theorem jq (K:PySem.W.Frag) (m:List Addr) (H:Hp):∀ l:List Nat,VDs K m H (l.map fun j=>D.int (Int.ofNat j)) (l.map fun (j:Nat)=>V.int j)
 | []=>by rw [ZZ,ZZ,VDs]
 | a::l=>by rw [Zt,Zt,VDs];exact ⟨_,_,rfl,bq,jq K m H l⟩
theorem vj {H:Hp} {p:Addr} {x y:HO}:upd (upd H p x) p y=upd H p y:=by
 funext b
 unfold upd;split <;> rfl
theorem Rel.adoptO {K:PySem.W.Frag} {m:List Addr} {S:Sto} {H:Hp} {a:Addr} (R:Rel K m S H) (n:a ∉ m) {ob:Ob} (h:ObR K (m++[a]) H a ob):Rel K (m++[a]) (S++[ob]) H:=by
 have p:=Yr m [a];have g:∀ {es:List D} {ws:List V},VDs K m H es ws->VDs K (m++[a]) H es ws:=fun z=>VDs.mono0 p (fun _ _ t=>t) z;refine ⟨by simp [R.len],Xn.mpr ⟨R.nd,by simp,fun x hx y hy=>by simp at hy;subst hy;exact fun z=>n (z ▸ hx)⟩,fun i o e=>?_⟩;by_cases hi:i < S.length
 ·rw [Zw hi] at e;obtain ⟨b,hb,r⟩:=R.ob i o e;refine ⟨b,lp p hb,?_⟩;cases o with
  | lst ds=>obtain ⟨vs,p,q⟩:=r;exact ⟨vs,p,g q⟩
  | frz ds=>obtain ⟨o,vs,p,q⟩:=r;exact ⟨o,vs,p,g q⟩
  | dic ks ds=>obtain ⟨vs,p,l,q⟩:=r;exact ⟨vs,p,l,g q⟩
 ·rw [Zq (by omega)] at e
  have hz:i - S.length=0:=by
   have:=(Zc.mp e).1;simp at this;omega
  rw [hz] at e;have e':ob=o:=by simpa using e
  subst e';refine ⟨a,?_,h⟩;rw [Zq (by rw [R.len];omega),R.len,hz];rfl
theorem v7 {K:PySem.W.Frag} {m:List Addr} {H:Hp} {S:Sto} {p:Addr} {ks:List Key} {ds:List D} {vs:List V} {Q:VK} (R:Rel K m S H) (hp:H p=none) (vd:VDs K m H ds vs) (hl:ks.length=ds.length) (q:∀ m' H' u,Aft K m H (S++[.dic ks ds]) m' H'->VD K m' H' (.ref S.length) u->Q u H'):Q (.ref p) (upd H p (.dK (ks.zip vs))):=by
 have x:=Ext.beside R hp (.dK (ks.zip vs));have R1:=R.beside hp (.dK (ks.zip vs));refine q (m++[p]) _ _ ⟨x.adopt hp,?_⟩ ?_
 ·exact R1.adoptO (R.no hp) (ob:=.dic ks ds) ⟨vs,bf,hl,VDs.mono0 (Yr m [p]) (fun _ _ t=>t) (vd.mono R x)⟩
 ·rw [VD];exact ⟨p,by rw [Zq (by rw [R.len];exact Zd _),R.len,Yh];rfl,rfl⟩
theorem qv {es:List Expr} {a:CE} (h:eX T n b es [a]=true):∃ y,es=[y]:=by
 cases n with
 | zero=>exact absurd h Zf
 | succ n=>
  obtain ⟨e,es,rfl,h⟩:=eW h;have h:=(an2 h).2;cases n with
  | zero=>exact absurd h Zf
  | succ n=>cases fV h;exact ⟨e,rfl⟩
theorem Dz (ih:Snd T C ar k n) {own:List Str} {elt:CE} {tg:Tg} {it:CI} {cond:Option CE} {rest:List Cl} {e t i:Expr} {ifs:List Expr} {gs:List Comprehension} {scope:Scope} {pos:Pos} (G:CtxOk T C ar k b X)
  (h0:cmB own (mN own b.N) b.N scope b.sc=true) (h1:r9 T n b t i it=true) (h2:uC (b.inner own scope) t tg=true) (h3:Ay (fW T n (b.inner own scope)) ifs cond=true) (h4:oM T n (b.inner own scope) e gs elt rest=true) :
  PE X (.ListComp e (⟨t,i,ifs,0⟩::gs) scope pos) (eR X.K (mH own.length (evI C ar n it) tg (cnd (evT C ar n) cond (g8 C ar n elt rest)) LF)):=by
 have S:CmScope own (mN own b.N) b.N scope b.sc:=zk _ h0;have S':CmScope own (mN own b.N) X.N scope X.env.scope:=by rw [G.hN,G.hs];exact S
 have hpl:=gO h1 (fun e he env=>eY he) X.env
 refine PE.imp (CK (g:=tTg X.K tg) (ti:=ifT C ar n X.K cond) (t:=fun acc=>tCl X.K acc (g8 C ar n elt rest)) G.calm S' (ih.i [] b X t i it G h1) (fun C' ex s H=>gP (G.inner S (C':=C') (ex:=ex) (s:=s) (H:=H)) h2) (fun C' ex s H=>mS ih (G.inner S (C':=C') (ex:=ex) (s:=s) (H:=H)) h3)
  (fun C' ex s H acc=>ih.cl _ _ e gs elt rest (G.inner S (C':=C') (ex:=ex) (s:=s) (H:=H)) h4 _ scope pos acc 0 rfl) hpl) fun σ H Q q=>?_
 exact vT (fun acc D σ H z=>uH z) q
theorem IC {x:XE} {σ:L2.St} {H:Hp} {Q:VK} {K:PySem.W.Frag} (h:eR K (x8 x) σ H Q):tE K x σ H fun v H1=>∃ i:Nat,v = .int i/\i<=1000/\∀ p,H1 p=none->∀ l,upd H1 p (.rng 0 i) l=none->Q (.ref l) (upd (upd H1 p (.rng 0 i)) l (.lst ((Zj i).map fun (j:Nat)=>V.int j))):=by
 obtain ⟨m,ρ,S,ds,S',E,R,e,q⟩:=h;obtain ⟨d,S1,e1,e⟩:=ae e;cases d with
 | int i=>
  dsimp only at e;split at e
  ·rename_i hi;cases e;refine ⟨m,ρ,S,.int i,_,E,R,e1,fun m1 H1 v A1 vd=>⟨i.toNat,by rw [vd.ints];congr 1;omega,by omega,fun p hp l hl=>?_⟩⟩;have A2:Aft K m1 H1 S' m1 (upd H1 p (.rng 0 i.toNat)):=⟨Ext.beside A1.rel hp _,A1.rel.beside hp _⟩;have A3:Aft K m1 (upd H1 p (.rng 0 i.toNat)) S' m1 (upd (upd H1 p (.rng 0 i.toNat)) l (.lst ((Zj i.toNat).map fun (j:Nat)=>V.int j))):=⟨Ext.beside A2.rel hl _,A2.rel.beside hl _⟩;have nl:l ∉ m1:=A2.rel.no hl
   have n1:H1 l=none:=by
    cases hh:H1 l with
    | none=>rfl
    | some o=>rw [(Ext.beside A1.rel hp (.rng 0 i.toNat)).keep l o hh nl] at hl;cases hl
   have nH:H l=none:=by
    cases hh:H l with
    | none=>rfl
    | some o=>
     by_cases hm:l ∈ m
     ·exact absurd (A1.ext.pre.subset hm) nl
     ·rw [A1.ext.keep l o hh hm] at n1;cases n1
   refine q m1 _ l _ (A1.trans (A2.trans A3)) bf nl (fun b hb z=>nl (z ▸ A1.ext.pre.subset hb)) nH ?_;exact jq _ _ _ _
  ·cases e
 | _=>cases e
theorem DA {σ:L2.St} {H:Hp} {Q:VK} {K:PySem.W.Frag} (h:tE K Ae σ H Q):y7 σ H Q:=by
 obtain ⟨m,ρ,S,d,S',E,R,e,q⟩:=h;cases e;exact fun p hp=>v7 R hp (show VDs K m H [] [] by rw [VDs]) rfl q
theorem DB {σ:L2.St} {H:Hp} {Q:VK} {K:PySem.W.Frag} {i j:Int} (h:tE K (Af i j) σ H Q):zc [(tC (.int i),tC (.int j))] σ H Q:=by
 obtain ⟨m,ρ,S,d,S',E,R,e,q⟩:=h;cases e;intro p hp;refine ⟨bf,[(nZ i,.int j)],rfl,by simp,?_⟩;rw [vj];exact v7 R hp (ks:=[nZ i]) (vs:=[.int j]) (show VDs K m H [.int j] [.int j] by rw [VDs];exact ⟨_,_,rfl,bq,by rw [VDs]⟩) rfl q
theorem IE {f:Bool->List D->Option (List D)} {x:XE} {σ:L2.St} {H:Hp} {Q:VK} {K:PySem.W.Frag} (h:eR K (xZ f x) σ H Q):tUn (rTm K f) (tE K x) σ H Q:=by
 obtain ⟨m,ρ,S,ds,S',E,R,e,q⟩:=h;obtain ⟨d,S1,e1,e⟩:=ae e;cases hi:aj d S1 with
 | none=>rw [hi] at e;cases e
 | some r=>
  rw [hi] at e;dsimp only at e;cases hf:f r.1 r.2 with
  | none=>rw [hf] at e;cases e
  | some es=>
  rw [hf] at e;cases e;refine ⟨m,ρ,S,d,_,E,R,e1,fun m1 H1 v A1 vd=>?_⟩;obtain ⟨a,vs,ev,sq,vds⟩:=eB (tu:=r.1) (ds:=r.2) A1.rel vd hi;refine ⟨m1,_,r.1,r.2,a,vs,ds,A1.rel,ev,sq,vds,hf,fun m2 H2 p ws A2 hp n1 n2 n3 vw=>?_⟩
  have hn:H p=none:=by
   cases eh:H p with
   | none=>rfl
   | some o=>
    by_cases hm:p ∈ m
    ·exact absurd rfl (n2 p (A1.ext.pre.subset hm))
    ·have:=A1.ext.keep p o eh hm;rw [n3] at this;cases this
  exact q m2 H2 p ws (A1.trans A2) hp n1 (fun b hb=>n2 b (A1.ext.pre.subset hb)) hn vw
theorem IG {f:Bool->List D->Option (List D)} {x:XA} {σ:L2.St} {H:Hp} {Q:VK} {K:PySem.W.Frag} (h:eR K (xY f x) σ H Q):tUn (rTm K f) (eR K x) σ H Q:=by
 obtain ⟨m,ρ,S,es,S',E,R,e,q⟩:=h;obtain ⟨ds,S1,e1,e⟩:=ae e;cases hf:f false ds with
 | none=>rw [hf] at e;cases e
 | some es'=>
 rw [hf] at e;cases e;refine ⟨m,ρ,S,ds,_,E,R,e1,fun m1 H1 a vs A1 ha na _ _ vd=>?_⟩;refine ⟨m1,_,false,ds,a,vs,es,A1.rel,rfl,show SqL K H1 a vs from SqL.of ha,vd,hf,fun m2 H2 p ws A2 hp n1 n2 n3 vw=>?_⟩
 have hn:H p=none:=by
  cases eh:H p with
  | none=>rfl
  | some o=>
   by_cases hm:p ∈ m
   ·exact absurd rfl (n2 p (A1.ext.pre.subset hm))
   ·have:=A1.ext.keep p o eh hm;rw [n3] at this;cases this
 exact q m2 H2 p ws (A1.trans A2) hp n1 (fun b hb=>n2 b (A1.ext.pre.subset hb)) hn vw
theorem AB (ih:Snd T C ar k n) (e:Expr) (c:CE) (G:CtxOk T C ar k b X) (ht:ag c=true) (h:aI T (n+1) b e c=true):PE X e (eR X.K (cz C ar (n+1) c)):=by
 cases c with
 | lst cs=>
  obtain ⟨es,p,rfl,hh⟩:=Iy h;exact PE.imp (Hb (ih.a b X es cs G hh)) fun σ H Q q=>C1 q
 | listOf a=>
  obtain ⟨x,p,q,rfl,h2,h3,h4⟩:=a9 h;show PE X _ (eR X.K (if ag a=true then cz C ar n a else mI (evE C ar n a)));split
  ·rename_i ht;exact PE.imp (lD mv G h2 (by decide) PyProof.Rows.boot_list (by decide) (ih.tm b X x a G ht h3) h4) fun σ H Q q=>AA q
  ·exact PE.imp (lD mv G h2 (by decide) PyProof.Rows.boot_list (by decide) (ih.e b X x a G h3) h4) fun σ H Q q=>Az q
 | listR a=>
  obtain ⟨x,p,q,rfl,h2,h3,h4⟩:=a9 h;obtain ⟨y,p',q',rfl,h5,h6,h7⟩:=a9 h3
  exact PE.imp (jL (pM G.calm) (G.gl h2).1 (G.bl _ (by decide)) PyProof.Rows.boot_list (dQ (jL rf (G.gl h5).1 (G.bl _ (by decide)) PyProof.Rows.boot_range (dQ (ih.e b X y a G h6) h7) (by decide) (G.gl h5).2 (aq h7) rfl) h4) (by decide) (G.gl h2).2 (aq h4) rfl) fun σ H Q q=>qu (IC q) fun v H1 ⟨i,ev,hi,z⟩=>by
    subst ev;exact ⟨i,rfl,fun p hp=>⟨p,i,rfl,bf,hi,fun l hl=>z p hp l hl⟩⟩
 | srt a=>
  obtain ⟨x,p,q,rfl,h2,h3,h4⟩:=a9 h;show PE X _ (eR X.K (if ag a=true then xY cO (cz C ar n a) else xZ cO (evE C ar n a)));split
  ·rename_i ht;exact PE.imp (e8 oH G h2 (by decide) PyProof.Rows.boot_sorted (by decide) (ih.tm b X x a G ht h3) h4) fun σ H Q q=>IG (f:=cO) q
  ·exact PE.imp (e8 oH G h2 (by decide) PyProof.Rows.boot_sorted (by decide) (ih.e b X x a G h3) h4) fun σ H Q q=>IE (f:=cO) q
 | comp own elt cls=>
  obtain ⟨tg,it,cond,rest,rfl,hc⟩:=Ga h;obtain ⟨el,t,i,ifs,gs,scope,p,rfl,hh⟩:=v0 hc;obtain ⟨h0,h1,h2,h3,h4⟩:=an5 hh;exact Dz ih G h0 h1 h2 h3 h4
 | _=>cases ht
theorem qw {y:Expr} {pos:Pos} (h:aO y=true):((backTo pos (starEach [y] X.env)).all (fun x=>!x.1) && (backToKw pos (keywordEach [] X.env)).all (fun x=>x.1.isSome) && decide (([y]:List Expr).length+([]:List Keyword).length+(if ([]:List Keyword).isEmpty then 0 else 1) < 30))=true:=by
 rw [aq h];rfl
theorem IH {es:List Expr} {a c:CE} (h:eX T n b es [a,c]=true):∃ y z,es=[y,z]:=by
 cases n with
 | zero=>exact absurd h Zf
 | succ n=>
  obtain ⟨e,es,rfl,h⟩:=eW h;obtain ⟨z,rfl⟩:=qv (an2 h).2;exact ⟨e,z,rfl⟩
theorem Mt (ih:Snd T C ar k n) (e:Expr) (c:CE) (G:CtxOk T C ar k b X) (h:aI T (n+1) b e c=true):PE X e (tE X.K (evE C ar (n+1) c)):=by
 have hu:=si G.room
 have tmp:ag c=true->evE C ar (n+1) c=dN (cz C ar (n+1) c)->PE X e (tE X.K (evE C ar (n+1) c)):=fun ht he=>by
  rw [he];exact PE.imp (AB ih e c G ht h) fun σ H Q q=>rE q
 cases c with
 | non=>obtain ⟨_,_,rfl⟩:=Iw h;exact PE.imp GM fun σ H Q q=>zC (fun _ _=>pX) q
 | bl v=>obtain ⟨_,_,rfl⟩:=Mo h;exact PE.imp Lp fun σ H Q q=>zC (fun _ _=>bQ) q
 | int v=>obtain ⟨_,_,rfl⟩:=uF h;exact PE.imp tz fun σ H Q q=>zC (fun _ _=>bq) q
 | str v=>obtain ⟨_,_,rfl⟩:=Ix h;exact PE.imp GN fun σ H Q q=>zC (fun _ _=>pY) q
 | var i=>
  obtain ⟨x,p,rfl,hh⟩:=qp h;have hh:=an2 hh;have v:=G.vis hh.2;exact PE.imp (GL (i:=i) (by rw [G.hN];exact eq_of_beq hh.1) v.1 v.2.1 v.2.2) fun σ H Q q=>HC q
 | con k' v=>
  obtain ⟨x,p,rfl,hh⟩:=qp h;have hh:=an2 hh;have g:=G.gl hh.2;obtain ⟨tk,hm⟩:=G.con k' x v (eq_of_beq hh.1);exact PE.imp (Cb (v:=.int v) g.1 hm ⟨tk,rfl⟩ g.2) fun σ H Q q=>zC (fun _ _=>bq) q
 | tup cs=>obtain ⟨es,_,_,rfl,hh⟩:=As h;exact PE.imp (Ha (ih.a b X es cs G hh)) fun σ H Q q=>HE q
 | lst cs=>exact tmp rfl rfl
 | dic0=>obtain ⟨p,rfl⟩:=Dx h;exact PE.imp y8 fun σ H Q q=>DA q
 | dic1 i j=>
  obtain ⟨x,y,p,rfl,h1,h2⟩:=Dy h;obtain ⟨_,_,rfl⟩:=uF h1;obtain ⟨_,_,rfl⟩:=uF h2;exact PE.imp (zl tz tz) fun σ H Q q=>DB q
 | bin o a c'=>obtain ⟨l,r,p,rfl,h2,h3⟩:=Iz h;exact PE.imp (LC (C5 o) (ih.e b X l a G h2) (ih.e b X r c' G h3)) fun σ H Q q=>pW q
 | neg a=>obtain ⟨x,p,rfl,hh⟩:=IA h;exact PE.imp (LD Dp (ih.e b X x a G hh)) fun σ H Q q=>zA q
 | cmp o a c'=>obtain ⟨l,r,p,rfl,h2,h3,h4⟩:=Av h;exact PE.imp (Ck (gM hu o) (ih.e b X l a G h2) (ih.e b X r c' G h3) (iG h4)) fun σ H Q q=>pW q
 | chn o p' a c' d=>obtain ⟨l,r,s,p,rfl,h2,h3,h4,h5⟩:=Aw h;exact PE.imp (yN (gM hu o) (gM hu p') (ih.e b X l a G h2) (ih.e b X r c' G h3) (ih.e b X s d G h4) (mQ h5)) fun σ H Q q=>Aa q
 | and a c'=>
  rcases Dt h with h | h
  ·obtain ⟨x,y,p,rfl,h1,h2⟩:=qq h;exact PE.imp (yF (ih.e b X x a G h1) (yE (ih.e b X y c' G h2))) fun σ H Q q=>z9 q
  ·obtain ⟨x,y,z,ys,p,rfl,h1,h2⟩:=qr h;exact PE.imp (yF (ih.e b X x a G h1) (ih.e b X _ c' G h2)) fun σ H Q q=>z9 q
 | or a c'=>
  rcases Dt h with h | h
  ·obtain ⟨x,y,p,rfl,h1,h2⟩:=qq h;exact PE.imp (FJ (ih.e b X x a G h1) (yE (ih.e b X y c' G h2))) fun σ H Q q=>F2 q
  ·obtain ⟨x,y,z,ys,p,rfl,h1,h2⟩:=qr h;exact PE.imp (FJ (ih.e b X x a G h1) (ih.e b X _ c' G h2)) fun σ H Q q=>F2 q
 | not a=>obtain ⟨x,p,rfl,hh⟩:=Au h;exact PE.imp (GQ (ih.e b X x a G hh)) fun σ H Q q=>Il q
 | ix a c'=>
  obtain ⟨x,y,p,rfl,h1,h2,h3⟩:=Mp h;show PE X _ (tE X.K (if ag a=true then ua (cz C ar n a) (evE C ar n c') else rB ixS (evE C ar n a) (evE C ar n c')));split
  ·rename_i ht;exact PE.imp (FS yV (ih.tm b X x a G ht h1) (ih.e b X y c' G h2) (se h3)) fun σ H Q q=>HQ q
  ·exact PE.imp (FS Op (ih.e b X x a G h1) (ih.e b X y c' G h2) (se h3)) fun σ H Q q=>pW q
 | sl a lo hi=>obtain ⟨x,y,z,p,p',rfl,h1,h2,h3⟩:=Mq h;exact PE.imp (yT Oq (ih.e b X x a G h1) (sg ih G h2) (sg ih G h3)) fun σ H Q q=>L7 q
 | call f cs=>
  obtain ⟨x,e,es,p,p',rfl,h12,h3⟩:=Dv (k:=fun x=>oA T.fns[f]? (fun y=>y.1 == x) && b.glo x) (l:=fun es=>eX T n b es cs) (e:=e) h;obtain ⟨h1,h2⟩:=an2 h12
  ·obtain ⟨y,hy,h1⟩:=uB h1;have hx:=v5 h1;subst hx;obtain ⟨ha,fa,fd,ps,hm,hk,hb,F⟩:=G.fns f y hy;have hpl:=bu h3;have g:=G.gl h2;exact PE.imp (Cq F G.room g.1 hm hk hb .nil LW (ih.a b X (e::es) cs G h3) g.2 (aq (hpl e Zg)) (jW fun e he=>hpl e (Ze _ he))) fun σ H Q q=>Dq q
 | inst t a=>
  obtain ⟨x,y,p,p',rfl,h2,h5,h6,h7,_⟩:=mP h;obtain ⟨y,p'',rfl,h8⟩:=qp h7;obtain ⟨h3,h4⟩:=an2 h8;have hy:=v5 h3;subst hy
  have ty:PE X (.Name (Str.ofString t.nm) p'') (tC (.ty t.nm)):=by
   have g:=G.gl h4;cases t with
   | int=>exact iX g.1 (G.bl _ (by decide)) PyProof.Rows.boot_int rfl (by decide) g.2
   | bool=>exact iX g.1 (G.bl _ (by decide)) PyProof.Rows.boot_bool rfl (by decide) g.2
   | tuple=>exact iX g.1 (G.bl _ (by decide)) PyProof.Rows.boot_tuple rfl (by decide) g.2
   | list=>exact iX g.1 (G.bl _ (by decide)) PyProof.Rows.boot_list rfl (by decide) g.2
   | str=>exact iX g.1 (G.bl _ (by decide)) PyProof.Rows.boot_str rfl (by decide) g.2
  exact PE.imp (iY (pN X.K) (G.gl h2).1 (G.bl _ (by decide)) PyProof.Rows.boot_isinstance (jp (ih.e b X x a G h5) (dQ ty rfl) h6) (by decide) (G.gl h2).2 (aq h6) rfl) fun σ H Q q=>Da q
 | len a=>obtain ⟨x,p,p',rfl,h2,h3,h4⟩:=a9 h;exact mR ih G (fun te z=>e8 xJ G h2 (by decide) PySem.boot_len (by decide) z h4) h3
 | all a=>obtain ⟨x,p,p',rfl,h2,h3,h4⟩:=a9 h;exact mR ih G (fun te z=>e8 (xL G.calm) G h2 (by decide) PyProof.Rows.boot_all (by decide) z h4) h3
 | any a=>obtain ⟨x,p,p',rfl,h2,h3,h4⟩:=a9 h;exact mR ih G (fun te z=>e8 (xM G.calm) G h2 (by decide) PyProof.Rows.boot_any (by decide) z h4) h3
 | mxL a=>obtain ⟨x,p,p',rfl,h2,h3,h4⟩:=a9 h;exact mR ih G (fun te z=>e8 (xQ G.calm) G h2 (by decide) PyProof.Rows.boot_max (by decide) z h4) h3
 | intOf a=>obtain ⟨x,p,p',rfl,h2,h3,h4⟩:=a9 h;exact PE.imp (lD xR G h2 (by decide) PyProof.Rows.boot_int (by decide) (ih.e b X x a G h3) h4) fun σ H Q q=>zA q
 | tupOf a=>obtain ⟨x,p,p',rfl,h2,h3,h4⟩:=a9 h;exact mR ih G (fun te z=>lD xK G h2 (by decide) PyProof.Rows.boot_tuple (by decide) z h4) h3
 | listOf a=>exact tmp rfl rfl
 | listR a=>exact tmp rfl rfl
 | srt a=>exact tmp rfl rfl
 | mx a c'=>
  obtain ⟨x,es,p,p',rfl,h2,h3⟩:=rZ (b:=b) (f := "max") (k:=fun es=>eX T n b es [a,c']) (e:=e) h;have hpl:=bu h3;exact PE.imp (iY (uh G.calm) (G.gl h2).1 (G.bl _ (by decide)) PyProof.Rows.boot_max (ih.a b X (x::es) [a,c'] G h3) (by decide) (G.gl h2).2 (aq (hpl x Zg)) (jW fun e he=>hpl e (Ze _ he))) fun σ H Q q=>zB q
 | mn a c'=>
  obtain ⟨x,es,p,p',rfl,h2,h3⟩:=rZ (b:=b) (f := "min") (k:=fun es=>eX T n b es [a,c']) (e:=e) h;have hpl:=bu h3;exact PE.imp (iY (ui G.calm) (G.gl h2).1 (G.bl _ (by decide)) PyProof.Rows.boot_min (ih.a b X (x::es) [a,c'] G h3) (by decide) (G.gl h2).2 (aq (hpl x Zg)) (jW fun e he=>hpl e (Ze _ he))) fun σ H Q q=>zB q
 | rep a=>obtain ⟨x,p,p',rfl,h2,h3,h4⟩:=a9 h;exact PE.imp (e8 (uw G.room) G h2 (by decide) PyProof.Rows.boot_repr (by decide) (ih.e b X x a G h3) h4) fun σ H Q q=>zA q
 | comp own elt cls=>exact tmp rfl rfl
 | app o a=>
  obtain ⟨x,ap,es,p,rfl,h2,h3,h4,h5⟩:=qt h;obtain ⟨y,rfl⟩:=qv h5;have hpl:=bu h5 y (by simp);exact PE.imp (vB PySem.F.plainAttrs_list PySem.F.slot_list_append PySem.F.type_list_append HZ (ih.e b X x o G h4) (ih.a b X [y] [a] G h5) (eZ h2) (qw hpl) h3 (aq hpl) rfl) fun σ H Q q=>qh (fun R vd c=>ut R vd c) q
 | popAt o a=>
  obtain ⟨x,ap,es,p,rfl,h2,h3,h4,h5⟩:=qt h;obtain ⟨y,rfl⟩:=qv h5;have hpl:=bu h5 y (by simp);exact PE.imp (vB PySem.F.plainAttrs_list PySem.F.slot_list_pop PySem.F.type_list_pop xT (ih.e b X x o G h4) (ih.a b X [y] [a] G h5) (eZ h2) (qw hpl) h3 (aq hpl) rfl) fun σ H Q q=>qh (fun R vd c=>ut R vd c) q
 | ins o i a=>
  obtain ⟨x,ap,es,p,rfl,h2,h3,h4,h5⟩:=qt h;obtain ⟨y,z,rfl⟩:=IH h5;have hpl:=bu h5 y (by simp);have hpz:=bu h5 z (by simp);exact PE.imp (vB PySem.F.plainAttrs_list PySem.F.slot_list_insert PySem.F.type_list_insert Dd (ih.e b X x o G h4) (ih.a b X [y,z] [i,a] G h5) (eZ h2) (by rw [aq hpl,aq hpz];rfl) h3 (aq hpl) (by rw [aq hpz];rfl)) fun σ H Q q=>qh (fun R vd c=>ut R vd c) q
 | cnt o a=>
  obtain ⟨x,ap,es,p,rfl,h2,h3,h4,h5⟩:=qt h;obtain ⟨y,rfl⟩:=qv h5;have hpl:=bu h5 y (by simp);exact PE.imp (vB PySem.F.plainAttrs_tuple PySem.F.slot_tuple_count PySem.F.type_tuple_count Dc (ih.e b X x o G h4) (ih.a b X [y] [a] G h5) (eZ h2) (qw hpl) h3 (aq hpl) rfl) fun σ H Q q=>qh (fun R vd c=>HY R vd c) q
end
end Ev
namespace Ev
open PySem PySem.Spec PyProof.Rows L2
section
variable {T:Tab} {C:Calls} {ar:Nat->Nat} {k n:Nat} {b:Blk} {X:Cx}
theorem v8 {op:BoolOp} {vs:List Expr} {p:Pos} {t:TT} (h:PT X (.BoolOp op vs p) t):PW X (.BoolOp op vs p) t:=fun whole pins s σ H Q I q=>h pins s σ H Q I q
theorem Mu (ih:Snd T C ar k n) (e:Expr) (c:CE) (G:CtxOk T C ar k b X) (h:fW T (n+1) b e c=true):PT X e (tT X.K (evT C ar (n+1) c)):=by
 have hu:=si G.room
 have dflt:evT C ar (n+1) c=C8 (evE C ar n c)->(aI T n b e c && Ip e)=true->PT X e (tT X.K (evT C ar (n+1) c)):=fun e1 hh=>by
  rw [e1];have hh:=an2 hh;exact PT.imp (yP (ih.e b X e c G hh.1) (uG hh.2)) fun σ H Q q=>HS q
 cases c with
 | cmp o a c'=>obtain ⟨l,r,p,rfl,h2,h3,h4⟩:=Av h;exact PT.imp (Cm (gM hu o) (ih.e b X l a G h2) (ih.e b X r c' G h3) (iG h4)) fun σ H Q q=>pW (L8 (t:=tE X.K (evE C ar n a)) q)
 | chn o p' a c' d=>obtain ⟨l,r,s,p,rfl,h2,h3,h4,h5⟩:=Aw h;exact PT.imp (yO (gM hu o) (gM hu p') (ih.e b X l a G h2) (ih.e b X r c' G h3) (ih.e b X s d G h4) (mQ h5)) fun σ H Q q=>Aa (L8 (t:=tE X.K (evE C ar n a)) q)
 | and a c'=>
  rcases Dt h with h | h
  ·obtain ⟨x,y,p,rfl,h1,h2⟩:=qq h;exact PT.imp (yD (ih.t b X x a G h1) (Cc (ih.t b X y c' G h2))).pt fun σ H Q q=>Ad q
  ·obtain ⟨x,y,z,ys,p,rfl,h1,h2⟩:=qr h;exact PT.imp (yD (ih.t b X x a G h1) (v8 (ih.t b X _ c' G h2))).pt fun σ H Q q=>Ad q
 | or a c'=>
  rcases Dt h with h | h
  ·obtain ⟨x,y,p,rfl,h1,h2⟩:=qq h;exact PT.imp (FG (ih.t b X x a G h1) (GO (ih.t b X y c' G h2))).pt fun σ H Q q=>F3 q
  ·obtain ⟨x,y,z,ys,p,rfl,h1,h2⟩:=qr h;exact PT.imp (FG (ih.t b X x a G h1) (v8 (ih.t b X _ c' G h2))).pt fun σ H Q q=>F3 q
 | not a=>obtain ⟨x,p,rfl,h1⟩:=Au h;exact PT.imp (GP (ih.t b X x a G h1)) fun σ H Q q=>Io q
 | _=>exact dflt rfl h
theorem snd:∀ n,Snd T C ar k n
 | 0=>⟨fun b X e c _ h=>absurd h Zf,fun b X e c _ _ h=>absurd h Zf,fun b X e c _ h=>absurd h Zf,fun b X e c _ h=>absurd h Zf,fun B b X t e c _ h=>absurd h Zf,fun b X e gs elt cls _ h=>absurd h Zf⟩
 | n+1=>⟨fun b X e c G h=>Mt (snd n) e c G h,fun b X e c G ht h=>AB (snd n) e c G ht h,fun b X es cs G h=>Mr (snd n) es cs G h,fun b X e c G h=>Mu (snd n) e c G h,fun B b X t e c G h=>Ms (snd n) B t e c G h,fun b X e gs elt cls G h=>IB (snd n) e gs elt cls G h⟩
end
end Ev
namespace Ev
open PySem PySem.Spec PyProof.Rows L2
inductive CS where | asg (t:Tg) (e:CE) | setI (v o i:CE) | swp (v o i q j:CE) | ex (e:CE) | ret (e:CE) | ifs (c:CE) (a b:List CS) | for_ (t:Tg) (it:CI) (b:List CS) | cnt | never
noncomputable def DC:XS:=fun _ _=>none
mutual
noncomputable def evS (C:Calls) (ar:Nat->Nat):Nat->CS->XS
 | 0,_=>DC
 | n+1,s=>match s with
  | .asg t e=>mF (evE C ar n e) t
  | .setI v o i=>rR (evE C ar n v) (evE C ar n o) (evE C ar n i)
  | .swp v o i q j=>zX (evE C ar n v) (evE C ar n o) (evE C ar n i) (evE C ar n q) (evE C ar n j)
  | .ex e=>rQ (evE C ar n e)
  | .ret e=>zW (evE C ar n e)
  | .ifs c a b=>xIf (evT C ar n c) (g9 C ar n a) (g9 C ar n b)
  | .for_ t it b=>zZ (evI C ar n it) t (g9 C ar n b) LF
  | .cnt=>Mh
  | .never=>DC
noncomputable def g9 (C:Calls) (ar:Nat->Nat):Nat->List CS->XS
 | 0,_=>DC
 | n+1,ss=>match ss with
  | []=>F0
  | s::ss=>zV (evS C ar n s) (g9 C ar n ss)
end
noncomputable def AC:Expr->Bool
 | .Starred _ _=>true
 | _=>false
noncomputable def gQ (sc:Scope) (line:Nat) (ts:List Expr):List Str:=ts.filterMap fun
 | .Name id pos=>if sc.names.lookup id == some .local && pos.line == line then some id else none
 | _=>none
noncomputable def mT (sc:Scope) (ts vs:List Expr):Option (Option (List Str)):=
 if (!(ts.length == 2 || ts.length == 3) || vs.length != ts.length)=true then some none
 else if (vs.any AC)=true then some none
 else if ((gQ sc ((ts.head?.map (·.pos.line)).getD 0) ts).length != ts.length || (gQ sc ((ts.head?.map (·.pos.line)).getD 0) ts).eraseDups.length != (gQ sc ((ts.head?.map (·.pos.line)).getD 0) ts).length)=true then some none
 else if (vs.all (foldedForSure 8))=true then some none
 else if (vs.all (constantsAlone 8))=true then none
 else some (some (gQ sc ((ts.head?.map (·.pos.line)).getD 0) ts))
theorem Gb {sc:Scope} {ts vs:List Expr} {env:Env} {r:Option (List Str)} {k k2:Nat} {p p2:Pos} (hk:env.blockKind = .function) (hs:env.scope=sc) (h:mT sc ts vs=some r):swappedStores [.Tuple ts k p] (.Tuple vs k2 p2) env=pure r:=by
 unfold mT at h;unfold swappedStores
 have e1:(vs.any fun | .Starred ..=>true | _=>false)=vs.any AC:=by
  congr 1
 have e2:(ts.filterMap fun
   | .Name id pos=>if env.kindOf id == some .local && pos.line == ((ts.head?.map (·.pos.line)).getD 0) then some id else none
   | _=>none)=gQ sc ((ts.head?.map (·.pos.line)).getD 0) ts:=by
  unfold gQ Env.kindOf;rw [hs]
 have e3:(env.blockKind != .function)=false:=by rw [hk];rfl
 simp only [e3,XG];split at h
 ·rename_i c1;rw [if_pos c1];cases h;rfl
 rename_i c1;rw [if_neg c1];split at h
 ·rename_i c2;cases h;exact if_pos (e1.trans c2)
 rename_i c2;refine Eq.trans (if_neg fun z=>c2 (e1.symm.trans z)) ?_;split at h
 ·rename_i c3;cases h;rw [<-e2] at c3;exact if_pos c3
 rename_i c3;rw [<-e2] at c3 h;refine Eq.trans (if_neg c3) ?_;split at h
 ·rename_i c4;cases h;exact if_pos c4
 rename_i c4;refine Eq.trans (if_neg c4) ?_;split at h
 ·cases h
 rename_i c5;cases h;exact if_neg c5
noncomputable def AD:Expr->Option (Scope × Pos)
 | .ListComp _ _ s p=>some (s,p)
 | .SetComp _ _ s p=>some (s,p)
 | .DictComp _ _ _ s p=>some (s,p)
 | _=>none
noncomputable def swW (sc:Scope) (v:Expr) (t:Str) (pos:Pos):Bool:=match AD v with
 | none=>false
 | some (s,p)=>sc.names.lookup t == some .local && pos.line == p.line && !(s.names.any fun y=>y.1 == t && (y.2 == .local || y.2 == .cell))
theorem II {sc:Scope} {v:Expr} {t:Str} {pos:Pos} {line:Nat} {env:Env} (hk:env.blockKind = .function) (hs:env.scope=sc):swapsWith v (some (.Name t pos)) line env=pure (swW sc v t pos):=by
 unfold swapsWith swW AD;have e3:(env.blockKind == .function)=true:=by rw [hk];rfl
 cases v <;> first | rfl | (simp only [e3,ZT,Env.kindOf,hs];rfl)
theorem mU {v tg:Expr} {line:Nat} {env:Env} (h:∀ x p,tg ≠ .Name x p):swapsWithSole [tg] v line env=pure false:=by
 show swapsWith v (some tg) line env=pure false;unfold swapsWith;cases v <;> first | rfl | (cases tg <;> first | rfl | (exact absurd rfl (h _ _)))
theorem v9 {v tg:Expr} {env:Env} (h:(∀ es k p,v ≠ .Tuple es k p)\/(∃ x p,tg = .Name x p)\/(∃ o i p,tg = .Subscript o i p)):swappedStores [tg] v env=pure none:=by
 unfold swappedStores;rcases h with h | ⟨x,p,rfl⟩ | ⟨o,i,p,rfl⟩
 ·split
  ·rename_i e;split at e
   ·exact absurd rfl (h _ _ _)
   ·exact absurd rfl (h _ _ _)
   ·cases e
  ·rfl
 ·rfl
 ·rfl
end Ev
namespace Ev
open PySem PySem.Spec PyProof.Rows L2
noncomputable def nmL:List Expr->Option (List Str)
 | []=>some []
 | e::es=>match Ao e,nmL es with
  | some r,some xs=>some (r.1::xs)
  | _,_=>none
theorem fX {es:List Expr} {x:Str} {xs:List Str} (h:nmL es=some (x::xs)):∃ p es',es = .Name x p::es'/\nmL es'=some xs:=by
 cases es with
 | nil=>cases h
 | cons e es=>
  rw [nmL] at h;split at h
  ·rename_i r ys h1 h2;cases h;exact ⟨_,es,by rw [qo h1],h2⟩
  ·cases h
theorem wa {es:List Expr} (h:nmL es=some []):es=[]:=by
 cases es with
 | nil=>rfl
 | cons e es=>
  rw [nmL] at h;split at h <;> cases h
noncomputable def tgL:List Tg->Option (List Nat)
 | []=>some []
 | .name i::ts=>match tgL ts with
  | some is=>some (i::is)
  | none=>none
 | .tup _::_=>none
theorem AE:∀ {ts:List Tg} {is:List Nat},tgL ts=some is->ts=is.map Tg.name
 | [],_,h=>by cases h;rfl
 | .name i::ts,is,h=>by
  rw [tgL] at h;cases e:tgL ts with
  | none=>rw [e] at h;cases h
  | some js=>rw [e] at h;cases h;rw [AE e];rfl
 | .tup _::_,_,h=>by cases h
noncomputable def Mv (b:Blk) (ns:List Str) (is:List Nat):Bool:=match ns with
 | [x,y]=>(match is with
  | [i,j]=>b.N[i]? == some x && b.N[j]? == some y && i != j && b.sc.names.lookup x == some .local && b.sc.names.lookup y == some .local
  | _=>false)
 | [x,y,z]=>(match is with
  | [i,j,l]=>b.N[i]? == some x && b.N[j]? == some y && b.N[l]? == some z && i != j && i != l && j != l && b.sc.names.lookup x == some .local && b.sc.names.lookup y == some .local && b.sc.names.lookup z == some .local
  | _=>false)
 | _=>false
noncomputable def Ou (e:Expr):Bool:=jV e fun _ _ _ _=>true
noncomputable def Ov (e:Expr):Bool:=e.ctorIdx == 24
noncomputable def uI (T:Tab) (n:Nat) (b:Blk) (tg e:Expr) (t:Tg) (c:CE):Bool:=match t with
 | .name i=>(match Ao tg with
  | some r=>aI T n b e c && b.N[i]? == some r.1 && b.own r.1 && (!(swW b.sc e r.1 r.2) || (Ou e && b.sc.names.lookup r.1 == some .local))
  | none=>false)
 | .tup gs=>(match rY tg with
  | some r=>aI T n b e c && (match rY e with
   | some q=>(match mT b.sc r.1 q.1 with
    | some none=>mO b r.1 gs
    | some (some ns)=>(match tgL gs with
     | some is=>nmL r.1 == some ns && q.1.length == ns.length && Mv b ns is
     | none=>false)
    | none=>false)
   | none=>!(Ov e) && mO b r.1 gs)
  | none=>false)
noncomputable def wb (e:Stmt) (k:Option Expr->Pos->Bool):Bool:=if h:e.ctorIdx=3 then @Stmt.Return.elim (fun _=>Bool) e h k else false
theorem x9 {e:Stmt} {k:Option Expr->Pos->Bool} (h:wb e k=true):∃ x0 x1,e = .Return x0 x1/\k x0 x1=true:=by
 obtain ⟨h1,h⟩:=bS h;exact Stmt.Return.elim (motive_2:=fun e=>∀ h',@Stmt.Return.elim (fun _=>Bool) e h' k=true->∃ x0 x1,e = .Return x0 x1/\k x0 x1=true) e h1 (fun x0 x1 _ hh=>⟨x0,x1,rfl,hh⟩) h1 h
noncomputable def lH (e:Stmt) (k:List Expr->Expr->Pos->Bool):Bool:=if h:e.ctorIdx=5 then @Stmt.Assign.elim (fun _=>Bool) e h k else false
theorem jX {e:Stmt} {k:List Expr->Expr->Pos->Bool} (h:lH e k=true):∃ x0 x1 x2,e = .Assign x0 x1 x2/\k x0 x1 x2=true:=by
 obtain ⟨h1,h⟩:=bS h;exact Stmt.Assign.elim (motive_2:=fun e=>∀ h',@Stmt.Assign.elim (fun _=>Bool) e h' k=true->∃ x0 x1 x2,e = .Assign x0 x1 x2/\k x0 x1 x2=true) e h1 (fun x0 x1 x2 _ hh=>⟨x0,x1,x2,rfl,hh⟩) h1 h
noncomputable def Mw (e:Stmt) (k:Expr->Expr->List Stmt->List Stmt->Pos->Bool):Bool:=if h:e.ctorIdx=9 then @Stmt.For.elim (fun _=>Bool) e h k else false
theorem IJ {e:Stmt} {k:Expr->Expr->List Stmt->List Stmt->Pos->Bool} (h:Mw e k=true):∃ x0 x1 x2 x3 x4,e = .For x0 x1 x2 x3 x4/\k x0 x1 x2 x3 x4=true:=by
 obtain ⟨h1,h⟩:=bS h;exact Stmt.For.elim (motive_2:=fun e=>∀ h',@Stmt.For.elim (fun _=>Bool) e h' k=true->∃ x0 x1 x2 x3 x4,e = .For x0 x1 x2 x3 x4/\k x0 x1 x2 x3 x4=true) e h1 (fun x0 x1 x2 x3 x4 _ hh=>⟨x0,x1,x2,x3,x4,rfl,hh⟩) h1 h
noncomputable def jIf (e:Stmt) (k:Expr->List Stmt->List Stmt->Pos->Bool):Bool:=if h:e.ctorIdx=12 then @Stmt.If.elim (fun _=>Bool) e h k else false
theorem Mx {e:Stmt} {k:Expr->List Stmt->List Stmt->Pos->Bool} (h:jIf e k=true):∃ x0 x1 x2 x3,e = .If x0 x1 x2 x3/\k x0 x1 x2 x3=true:=by
 obtain ⟨h1,h⟩:=bS h;exact Stmt.If.elim (motive_2:=fun e=>∀ h',@Stmt.If.elim (fun _=>Bool) e h' k=true->∃ x0 x1 x2 x3,e = .If x0 x1 x2 x3/\k x0 x1 x2 x3=true) e h1 (fun x0 x1 x2 x3 _ hh=>⟨x0,x1,x2,x3,rfl,hh⟩) h1 h
noncomputable def Gc (e:Stmt) (k:Expr->Pos->Bool):Bool:=if h:e.ctorIdx=24 then @Stmt.Expr.elim (fun _=>Bool) e h k else false
theorem DD {e:Stmt} {k:Expr->Pos->Bool} (h:Gc e k=true):∃ x0 x1,e = .Expr x0 x1/\k x0 x1=true:=by
 obtain ⟨h1,h⟩:=bS h;exact Stmt.Expr.elim (motive_2:=fun e=>∀ h',@Stmt.Expr.elim (fun _=>Bool) e h' k=true->∃ x0 x1,e = .Expr x0 x1/\k x0 x1=true) e h1 (fun x0 x1 _ hh=>⟨x0,x1,rfl,hh⟩) h1 h
noncomputable def oQ (e:Stmt) (k:Pos->Bool):Bool:=if h:e.ctorIdx=27 then @Stmt.Continue.elim (fun _=>Bool) e h k else false
theorem sj {e:Stmt} {k:Pos->Bool} (h:oQ e k=true):∃ x0,e = .Continue x0/\k x0=true:=by
 obtain ⟨h1,h⟩:=bS h;exact Stmt.Continue.elim (motive_2:=fun e=>∀ h',@Stmt.Continue.elim (fun _=>Bool) e h' k=true->∃ x0,e = .Continue x0/\k x0=true) e h1 (fun x0 _ hh=>⟨x0,rfl,hh⟩) h1 h
noncomputable def qx (e:Expr):Bool:=e.ctorIdx == 8 || e.ctorIdx == 9 || e.ctorIdx == 10
noncomputable def My (k:Expr->Expr->Bool) (s:Stmt):Bool:=lH s fun ts v _=>l1 ts fun tg=>k tg v
noncomputable def Gd (k l m:Expr->Bool) (s:Stmt):Bool:=lH s fun ts z _=>l1 ts fun tg=>cZ tg fun x y _=>k z && l x && m y && aO y
noncomputable def AF (e:Expr) (l m:Expr->Bool):Bool:=cZ e fun x y _=>l x && m y && aO y
noncomputable def Mz (k:Expr->Bool) (l m l' m':Expr->Bool) (b:Blk) (s:Stmt):Bool:=lH s fun ts z _=>l1 ts fun tg=>oA (rY tg) fun r=>lC r.1 fun t1 t=>l1 t fun t2=>oA (rY z) fun w=>k z && AF t1 l m && AF t2 l' m' && (match mT b.sc r.1 w.1 with | some none=>true | _=>false)
noncomputable def zEx (k:Expr->Bool) (s:Stmt):Bool:=Gc s fun v _=>k v && !(qx v)
noncomputable def MA (k:Expr->Bool) (s:Stmt):Bool:=wb s fun v _=>oA v k
noncomputable def zIf (k:Expr->Bool) (l m:List Stmt->Bool) (s:Stmt):Bool:=jIf s fun t p q _=>k t && l p && m q
noncomputable def MB (k:Expr->Expr->Bool) (l:List Stmt->Bool) (s:Stmt):Bool:=Mw s fun tg i p q _=>q.isEmpty && k tg i && l p
noncomputable def MC (s:Stmt):Bool:=oQ s fun _=>true
section
variable {s:Stmt} {k l m:Expr->Bool}
theorem IK {k:Expr->Expr->Bool} (h:My k s=true):∃ tg v p,s = .Assign [tg] v p/\k tg v=true:=by
 obtain ⟨ts,v,p,rfl,h⟩:=jX h;obtain ⟨tg,rfl,h⟩:=jk h;exact ⟨tg,v,p,rfl,h⟩
theorem DE (h:Gd k l m s=true):∃ x y q z p,s = .Assign [.Subscript x y q] z p/\k z=true/\l x=true/\m y=true/\aO y=true:=by
 obtain ⟨ts,v,p,rfl,h⟩:=jX h;obtain ⟨tg,rfl,h⟩:=jk h;obtain ⟨x,y,q,rfl,h⟩:=cP h;exact ⟨x,y,q,v,p,rfl,an4 h⟩
theorem AG {e:Expr} (h:AF e l m=true):∃ x y q,e = .Subscript x y q/\l x=true/\m y=true/\aO y=true:=by
 obtain ⟨x,y,q,rfl,h⟩:=cP h;exact ⟨x,y,q,rfl,an3 h⟩
theorem IL {l' m':Expr->Bool} {b:Blk} (h:Mz k l m l' m' b s=true):∃ t1 t2 kt pt es ke pe p,s = .Assign [.Tuple [t1,t2] kt pt] (.Tuple es ke pe) p/\k (.Tuple es ke pe)=true/\AF t1 l m=true/\AF t2 l' m'=true/\mT b.sc [t1,t2] es=some none:=by
 obtain ⟨ts,z,p,rfl,h⟩:=jX h;obtain ⟨tg,rfl,h⟩:=jk h;obtain ⟨⟨r1,r2,r3⟩,hr,h⟩:=uB h;obtain ⟨t1,t,e1,h⟩:=eW h;obtain ⟨t2,e2,h⟩:=jk h;obtain ⟨⟨w1,w2,w3⟩,hw,h⟩:=uB h;obtain ⟨h1,h2,h3,h4⟩:=an4 h;have e1:r1=t1::t:=e1;subst e2;subst e1;rw [jm hr];rw [jm hw] at h1 ⊢;refine ⟨t1,t2,r2,r3,w1,w2,w3,p,rfl,h1,h2,h3,?_⟩;have h4:(match mT b.sc [t1,t2] w1 with | some none=>true | _=>false)=true:=h4;split at h4
 ·rename_i e;exact e
 ·cases h4
theorem MD (h:zEx k s=true):∃ v p,s = .Expr v p/\k v=true/\qx v=false:=by
 obtain ⟨v,p,rfl,h⟩:=DD h;obtain ⟨h1,h2⟩:=an2 h;exact ⟨v,p,rfl,h1,by cases e:qx v;rfl;rw [e] at h2;cases h2⟩
theorem IM (h:MA k s=true):∃ v p,s = .Return (some v) p/\k v=true:=by
 obtain ⟨v,p,rfl,h⟩:=x9 h;obtain ⟨v,rfl,h⟩:=uB h;exact ⟨v,p,rfl,h⟩
theorem ME {l m:List Stmt->Bool} (h:zIf k l m s=true):∃ t p q r,s = .If t p q r/\k t=true/\l p=true/\m q=true:=by
 obtain ⟨t,p,q,r,rfl,h⟩:=Mx h;exact ⟨t,p,q,r,rfl,an3 h⟩
theorem IO {k:Expr->Expr->Bool} {l:List Stmt->Bool} (h:MB k l s=true):∃ tg i p q,s = .For tg i p [] q/\k tg i=true/\l p=true:=by
 obtain ⟨tg,i,p,q,r,rfl,h⟩:=IJ h;obtain ⟨h1,z0⟩:=an3 h;cases fV h1;exact ⟨tg,i,p,r,rfl,z0⟩
theorem IP (h:MC s=true):∃ p,s = .Continue p:=by obtain ⟨p,rfl,_⟩:=sj h;exact ⟨p,rfl⟩
end
mutual
noncomputable def MF (T:Tab):Nat->Blk->Stmt->CS->Bool
 | 0,_,_,_=>false
 | n+1,b,s,c=>match c with
  | .asg t e=>My (fun tg v=>uI T n b tg v t e) s
  | .setI v o i=>Gd (fun x=>aI T n b x v) (fun x=>aI T n b x o) (fun x=>aI T n b x i) s
  | .swp v o i q j=>Mz (fun x=>aI T n b x v) (fun x=>aI T n b x o) (fun x=>aI T n b x i) (fun x=>aI T n b x q) (fun x=>aI T n b x j) b s
  | .ex e=>zEx (fun x=>aI T n b x e) s
  | .ret e=>MA (fun x=>aI T n b x e) s
  | .ifs c x y=>zIf (fun e=>fW T n b e c) (fun p=>oS T n b p x) (fun p=>oS T n b p y) s
  | .for_ t it x=>MB (fun tg i=>r9 T n b tg i it && uC b tg t) (fun p=>oS T n b p x) s
  | .cnt=>MC s
  | .never=>true
noncomputable def oS (T:Tab):Nat->Blk->List Stmt->List CS->Bool
 | 0,_,_,_=>false
 | n+1,b,ss,cs=>match cs with
  | []=>ss.isEmpty
  | c::cs=>lC ss fun s ss=>MF T n b s c && oS T n b ss cs
end
section
variable {T:Tab} {C:Calls} {ar:Nat->Nat} {k n:Nat} {b:Blk} {X:Cx}
theorem DF {es:List Expr} {cs:List CE} {k':Nat} {p:Pos} (h:aI T (n+1) b (.Tuple es k' p) (.tup cs)=true):eX T n b es cs=true:=h
theorem AH {es:List Expr} {c:CE} {k':Nat} {p:Pos} (h:aI T (n+1) b (.Tuple es k' p) c=true):∃ cs,c = .tup cs:=by
 cases c with
 | tup cs=>exact ⟨cs,rfl⟩
 | comp own elt cls=>
  cases cls with
  | nil=>exact absurd h Zf
  | cons g rest=>obtain ⟨tg,it,cond⟩:=g;exact absurd h Zf
 | _=>exact absurd h Zf
theorem iH:∀ (ts:List Tg) (ds:List D) (ρ ρ':Rho),aN ts ds ρ=some ρ'->ts.length=ds.length
 | [],[],_,_,_=>rfl
 | [],_::_,_,_,e=>by simp [aN] at e
 | _::_,[],_,_,e=>by simp [aN] at e
 | t::ts,d::ds,ρ,ρ',e=>by
  simp only [aN] at e;split at e
  ·simp [iH _ _ _ _ e]
  ·cases e
theorem sn {K:PySem.W.Frag} {x:XA} {ts:List Tg} {D:Ends} {σ:L2.St} {H:Hp} (h:tSt K (mF (k7 k8 x) (.tup ts)) D σ H):tAr K x σ H fun vs H1=>∃ m1 ρ ρ' ds,EnvR K m1 H1 ρ σ/\VDs K m1 H1 ds vs/\aN ts ds ρ=some ρ'/\∀ σ',EnvR K m1 H1 ρ' σ'->D.nx σ' H1:=by
 obtain ⟨m,ρ,S,fl,ρ',S',E,R,e,q⟩:=h;unfold mF at e;cases hx:k7 k8 x ρ S with
 | none=>rw [hx] at e;cases e
 | some r=>
  rw [hx] at e;obtain ⟨ds,S1,e1,e2⟩:=ae hx;unfold k8 at e2;split at e2
  ·cases e2;dsimp only at e;simp only [ay] at e;cases hb:aN ts ds ρ with
   | none=>rw [hb] at e;cases e
   | some ρ1=>
    rw [hb] at e;cases e;exact ⟨m,ρ,S,ds,_,E,R,e1,fun m1 H1 vs A1 vd=>⟨m1,ρ,_,ds,E.mono R A1.ext,vd,hb,fun σ' E'=>q m1 H1 A1 σ' E'⟩⟩
  ·cases e2
theorem sr {K:PySem.W.Frag} {x:XA} {σ:L2.St} {H:Hp} {Q Q':List V->Hp->Prop} (h:tAr K x σ H Q) (f:∀ v H',Q v H'->Q' v H'):tAr K x σ H Q':=by
 obtain ⟨m,ρ,S,d,S',E,R,e,q⟩:=h;exact ⟨m,ρ,S,d,S',E,R,e,fun m' H' v A vd=>f _ _ (q m' H' v A vd)⟩
theorem mV {ρ ρ':Rho} {i:Nat} {d:D} (h:(if i < ρ.length then some (ρ.set i (some d)) else none)=some ρ'):ρ'=ρ.set i (some d):=by
 split at h
 ·cases h;rfl
 ·cases h
theorem DG {K:PySem.W.Frag} {x:XA} {i j:Nat} {D:Ends} {σ:L2.St} {H:Hp} (h:tSt K (mF (k7 k8 x) (.tup [.name i,.name j])) D σ H):Lz i j (tAr K x) D σ H:=by
 refine sr (sn h) fun vs H1 ⟨m1,ρ,ρ',ds,E,vd,e,q⟩=>?_;have hl:=iH _ _ _ _ e
 match ds,hl with
 | [a,c],_=>
  obtain ⟨v,w,rfl,va,vc⟩:=ug vd;refine ⟨v,w,rfl,q _ ?_⟩;simp only [aN,ay] at e;split at e
  ·rename_i r1 h1;have:=mV h1;subst this;split at e
   ·rename_i r2 h2;have:=mV h2;subst this;cases e;exact (E.set va).set vc
   ·cases e
  ·cases e
theorem Ow {K:PySem.W.Frag} {m:List Addr} {H:Hp} {a b c:D} {vs:List V} (h:VDs K m H [a,b,c] vs):∃ v w z,vs=[v,w,z]/\VD K m H a v/\VD K m H b w/\VD K m H c z:=by
 rw [VDs] at h;obtain ⟨v,r,rfl,p,q⟩:=h;obtain ⟨w,z,rfl,p',q'⟩:=ug q;exact ⟨v,w,z,rfl,p,p',q'⟩
theorem DH {K:PySem.W.Frag} {x:XA} {i j l:Nat} {D:Ends} {σ:L2.St} {H:Hp} (h:tSt K (mF (k7 k8 x) (.tup [.name i,.name j,.name l])) D σ H):FV i j l (tAr K x) D σ H:=by
 refine sr (sn h) fun vs H1 ⟨m1,ρ,ρ',ds,E,vd,e,q⟩=>?_;have hl:=iH _ _ _ _ e
 match ds,hl with
 | [a,c,d],_=>
  obtain ⟨v,w,z,rfl,va,vc,vd'⟩:=Ow vd;refine ⟨v,w,z,rfl,q _ ?_⟩;simp only [aN,ay] at e;split at e
  ·rename_i r1 h1;have:=mV h1;subst this;split at e
   ·rename_i r2 h2;have:=mV h2;subst this;split at e
    ·rename_i r3 h3;have:=mV h3;subst this;cases e;exact ((E.set va).set vc).set vd'
    ·cases e
   ·cases e
  ·cases e
theorem AI {e:Expr} {gs:List Comprehension} {scope:Scope} {p:Pos} {c:CE} (h:aI T (n+1) b (.ListComp e gs scope p) c=true):∃ own elt tg it cond rest t i ifs gs',c = .comp own elt (⟨tg,it,cond⟩::rest)/\gs=⟨t,i,ifs,0⟩::gs' ∧
  cmB own (mN own b.N) b.N scope b.sc=true/\r9 T n b t i it=true/\uC (b.inner own scope) t tg=true/\Ay (fW T n (b.inner own scope)) ifs cond=true/\oM T n (b.inner own scope) e gs' elt rest=true:=by
 cases c with
 | comp own elt cls=>
  ·obtain ⟨tg,it,cond,rest,rfl,hc⟩:=Ga h;obtain ⟨el,t,i,ifs,gs',scope',p',he,hh⟩:=v0 hc;cases he;obtain ⟨h0,h1,h2,h3,h4⟩:=an5 hh;exact ⟨own,elt,tg,it,cond,rest,t,i,ifs,gs',rfl,rfl,h0,h1,h2,h3,h4⟩
 | _=>exact absurd h Zf
end
end Ev
namespace Ev
open PySem PySem.Spec PyProof.Rows L2
section
variable {T:Tab} {C:Calls} {ar:Nat->Nat} {k n:Nat} {b:Blk} {X:Cx}
theorem wc (h:X.env.scope.kind = .function):X.env.blockKind = .function:=by
 unfold Env.blockKind;rw [h];rfl
theorem DI {α:Type} {l:List α} (h:l.length=2):∃ a b,l=[a,b]:=by
 match l,h with
 | [a,b],_=>exact ⟨a,b,rfl⟩
theorem ya {α:Type} {l:List α} (h:l.length=3):∃ a b c,l=[a,b,c]:=by
 match l,h with
 | [a,b,c],_=>exact ⟨a,b,c,rfl⟩
theorem IQ (G:CtxOk T C ar k b X) (hk:X.env.scope.kind = .function) {tg e:Expr} {t:Tg} {c:CE} {p:Pos} (h:uI T n b tg e t c=true):PS X (.Assign [tg] e p) (tSt X.K (mF (evE C ar n c) t)):=by
 have hb:=wc hk;unfold uI at h;cases t with
 | name i=>
  dsimp only at h;cases hx:Ao tg with
  | none=>rw [hx] at h;cases h
  | some r=>
  obtain ⟨x,px⟩:=r;rw [hx] at h;rw [qo hx];simp only [bAE] at h;obtain ⟨⟨⟨h1,h2⟩,h3⟩,h4⟩:=h;have hi:X.N[i]?=some x:=by rw [G.hN];simpa using h2
  have nd:X.N.Nodup:=by rw [G.hN];exact G.nd
  have o:=G.own h3;have sw:=II (sc:=b.sc) (v:=e) (t:=x) (pos:=px) (line:=p.line) hb G.hs;cases hw:swW b.sc e x px with
  | false=>
   rw [hw] at sw;exact PS.imp (GX nd hi o.1 ((snd n).e b X e c G h1) sw o.2) fun D σ H q=>qu (uz q) fun v H' z=>qk z
  | true=>
   rw [hw] at h4 sw;simp only [Bool.not_true,Bool.false_or,bAE] at h4;obtain ⟨h5,h4⟩:=h4;obtain ⟨el,gs,scope,pp,rfl,_⟩:=ky h5
   ·cases n with
    | zero=>exact absurd h1 Zf
    | succ n=>
     obtain ⟨own,elt,tg',it,cond,rest,tt,ii,ifs,gs',rfl,rfl,c0,c1,c2,c3,c4⟩:=AI h1;have S:CmScope own (mN own b.N) b.N scope b.sc:=zk _ c0;have S':CmScope own (mN own b.N) X.N scope X.env.scope:=by rw [G.hN,G.hs];exact S
     have hpl:=gO c1 (fun e he env=>eY he) X.env;have hx:X.env.scope.names.lookup x=some .local:=by rw [G.hs];simpa using h4
     refine PS.imp (CL (g:=tTg X.K tg') (ti:=ifT C ar n X.K cond) (t:=fun acc=>tCl X.K acc (g8 C ar n elt rest)) G.calm S' nd hi hx ((snd n).i [] b X tt ii it G c1) (fun C' ex s H=>gP (G.inner S (C':=C') (ex:=ex) (s:=s) (H:=H)) c2) (fun C' ex s H=>mS (snd n) (G.inner S (C':=C') (ex:=ex) (s:=s) (H:=H)) c3)
      (fun C' ex s H acc=>(snd n).cl _ _ el gs' elt rest (G.inner S (C':=C') (ex:=ex) (s:=s) (H:=H)) c4 _ scope pp acc 0 rfl) sw hpl) fun D σ H q=>?_
     exact vT (fun acc D σ H z=>uH z) (rE (qu (uz q) fun v H' z=>qk z))
 | tup gs=>
  dsimp only at h;cases hx:rY tg with
  | none=>rw [hx] at h;cases h
  | some r=>
  obtain ⟨ts,kt,pt⟩:=r;rw [hx] at h;rw [jm hx];simp only [bAE] at h;obtain ⟨h1,h3⟩:=h;have so:swapsWithSole [.Tuple ts kt pt] e p.line X.env=pure false:=mU fun x p z=>nomatch z
  have plain:∀ (hw:swappedStores [.Tuple ts kt pt] e X.env=pure none) (hg:mO b ts gs=true),PS X (.Assign [.Tuple ts kt pt] e p) (tSt X.K (mF (evE C ar n c) (.tup gs))):=fun hw hg=>
   PS.imp (tF ((snd n).e b X e c G h1) (gP G (e:=.Tuple ts kt pt) (t:=.tup gs) hg) so hw rfl) fun D σ H q=>uz q
  cases hy:rY e with
  | none=>
   rw [hy] at h3;simp only [bAE] at h3;exact plain (v9 (.inl fun es k p z=>by rw [z] at hy;cases hy)) h3.2
  | some q=>
   obtain ⟨es,ke,pe⟩:=q;rw [hy] at h3;obtain rfl:=jm hy;cases n with
   | zero=>exact absurd h1 Zf
   | succ n=>
    obtain ⟨cs,rfl⟩:=AH h1;have ha:=DF h1;dsimp only at h3;cases hr:mT b.sc ts es with
    | none=>rw [hr] at h3;cases h3
    | some w=>
     have hw:=Gb (k:=kt) (p:=pt) (k2:=ke) (p2:=pe) hb G.hs hr;rw [hr] at h3;cases w with
     | none=>exact plain hw h3
     | some ns=>
      dsimp only at h3;cases ht:tgL gs with
      | none=>rw [ht] at h3;cases h3
      | some is=>
       rw [ht] at h3;simp only [bAE] at h3;obtain ⟨⟨hn0,hl0⟩,h3⟩:=h3;have hn:nmL ts=some ns:=by simpa using hn0
       have hl:es.length=ns.length:=by simpa using hl0
       clear hn0 hl0;obtain rfl:=AE ht;unfold Mv at h3;split at h3
       ·rename_i x y;split at h3
        ·rename_i i j;obtain ⟨p1,t1,rfl,hn1⟩:=fX hn;obtain ⟨p2,t2,rfl,hn2⟩:=fX hn1;obtain rfl:=wa hn2;obtain ⟨a1,a2,rfl⟩:=DI hl;simp only [bAE] at h3;obtain ⟨⟨⟨⟨q2,q3⟩,q4⟩,q5⟩,q6⟩:=h3;exact PS.imp (GY (i:=i) (j:=j) G.calm (by rw [G.hN];exact G.nd) (by rw [G.hN];simpa using q2) (by rw [G.hN];simpa using q3) (by simpa using q4) (by rw [G.hs];simpa using q5) (by rw [G.hs];simpa using q6) ((snd n).a b X _ cs G ha) hw so) fun D σ H q=>DG q
        ·cases h3
       ·rename_i x y z;split at h3
        ·rename_i i j l;obtain ⟨p1,t1,rfl,hn1⟩:=fX hn;obtain ⟨p2,t2,rfl,hn2⟩:=fX hn1;obtain ⟨p3,t3,rfl,hn3⟩:=fX hn2;obtain rfl:=wa hn3;obtain ⟨a1,a2,a3,rfl⟩:=ya hl;simp only [bAE] at h3;obtain ⟨⟨⟨⟨⟨⟨⟨⟨q2,q3⟩,q3'⟩,q4⟩,q4'⟩,q4''⟩,q5⟩,q6⟩,q7⟩:=h3;exact PS.imp (CO (i:=i) (j:=j) (k:=l) G.calm (by rw [G.hN];exact G.nd) (by rw [G.hN];simpa using q2) (by rw [G.hN];simpa using q3) (by rw [G.hN];simpa using q3') (by simpa using q4) (by simpa using q4') (by simpa using q4'') (by rw [G.hs];simpa using q5) (by rw [G.hs];simpa using q6) (by rw [G.hs];simpa using q7) ((snd n).a b X _ cs G ha) hw so) fun D σ H q=>DH q
        ·cases h3
       ·cases h3
theorem AJ {v:Expr} {line:Nat} (h:qx v=false):swapsWith v none line X.env=pure false:=by
 unfold swapsWith;cases v <;> first | rfl | (exact absurd h (fun z=>Zf z.symm))
structure SndS (T:Tab) (C:Calls) (ar:Nat->Nat) (k n:Nat):Prop where
 s:∀ (b:Blk) (X:Cx) (s:Stmt) (c:CS),CtxOk T C ar k b X->X.env.scope.kind = .function->MF T n b s c=true->PS X s (tSt X.K (evS C ar n c))
 ss:∀ (b:Blk) (X:Cx) (s:List Stmt) (c:List CS),CtxOk T C ar k b X->X.env.scope.kind = .function->oS T n b s c=true->PSs X s (tSt X.K (g9 C ar n c))
theorem MG {K:PySem.W.Frag} {D:Ends} {σ:L2.St} {H:Hp} (h:tSt K DC D σ H):False:=by
 obtain ⟨m,ρ,S,fl,ρ',S',E,R,e,q⟩:=h;cases e
theorem MH:∀ n,SndS T C ar k n
 | 0=>⟨fun b X s c _ _ h=>absurd h Zf,fun b X s c _ _ h=>absurd h Zf⟩
 | n+1=>by
  have ih:=MH n;refine ⟨fun b X s c G hk h=>?_,fun b X ss cs G hk h=>?_⟩
  ·have hp:PassesOwn (model X.prog X.w) X.A X.env X.xe:=by rw [G.xe];exact PassesOwn.never
   cases c with
   | asg t e=>obtain ⟨tg,v,p,rfl,h1⟩:=IK h;exact IQ G hk h1
   | setI v o i=>
    obtain ⟨x,y,px,z,p,rfl,h1,h2,h3,pl⟩:=DE h
    exact PS.imp (tF ((snd n).e b X z v G h1) (tD ((snd n).e b X x o G h2) ((snd n).e b X y i G h3) zS (fun v=>by
     cases y <;> first | rfl | (exact absurd pl Zf))) (mU fun x p z=>nomatch z) (v9 (.inr (.inr ⟨_,_,_,rfl⟩))) rfl) fun D σ H q=>Dj q
   | swp v o i q j=>
    obtain ⟨t1,t2,kt,pt,es,ke,pe,p,rfl,h1,h2,h3,h4⟩:=IL h;obtain ⟨x1,y1,q1,rfl,a1,a2,pl1⟩:=AG h2;obtain ⟨x2,y2,q2,rfl,b1,b2,pl2⟩:=AG h3;have hb:=wc hk
    exact PS.imp (tF ((snd n).e b X _ v G h1) (yI G.calm (lU (tD ((snd n).e b X x1 o G a1) ((snd n).e b X y1 i G a2) zS (fun v=>by
     cases y1 <;> first | rfl | (exact absurd pl1 Zf))) (lU (tD ((snd n).e b X x2 q G b1) ((snd n).e b X y2 j G b2) zS (fun v=>by
     cases y2 <;> first | rfl | (exact absurd pl2 Zf))) vn))) (mU fun x p z=>nomatch z) (Gb hb G.hs h4) rfl) fun D σ H q=>Ih q
   | ex e=>obtain ⟨v,p,rfl,h1,h2⟩:=MD h;exact PS.imp (Ce ((snd n).e b X v e G h1) (AJ h2)) fun D σ H q=>Di q
   | ret e=>obtain ⟨v,p,rfl,h1⟩:=IM h;exact PS.imp (GR ((snd n).e b X _ _ G h1)) fun D σ H q=>Ie q
   | ifs c x y=>obtain ⟨t,p,q,r,rfl,h1,h2,h3⟩:=ME h;exact PS.imp (Ly ((snd n).t b X _ _ G h1) (ih.ss b X _ _ G hk h2) (ih.ss b X _ _ G hk h3)) fun D σ H q=>Mi q
   | for_ t it x=>
    obtain ⟨tg,i,p,pos,rfl,h1,h2⟩:=IO h;have h1:=an2 h1;exact PS.imp (G0 hp G.calm ((snd n).i [] b X _ _ _ G h1.1) (gP G h1.2) (ih.ss b X _ _ G hk h2) (gO h1.1 (fun e he env=>eY he) X.env)) fun D σ H q=>Ii q
   | cnt=>obtain ⟨p,rfl⟩:=IP h;exact PS.imp qT fun D σ H q=>Ig q
   | never=>exact PS.imp yH fun D σ H q=>(MG q).elim
  ·cases cs with
   | nil=>rw [fV h];exact PSs.imp Cd fun D σ H q=>Dh q
   | cons c cs=>
    obtain ⟨s,ss,rfl,h⟩:=eW h;have h:=an2 h;exact PSs.imp (yG (ih.s b X s c G hk h.1) (ih.ss b X ss cs G hk h.2)) fun D σ H q=>Ic q
end
end Ev
namespace Ev
open PySem PySem.Spec PyProof.Rows L2
structure DefE where
 x:Str
 st:Stmt
 N:List Str
 ps:List Str
 body:List CS
noncomputable def FU:Nat:=60
noncomputable def hF (af:List DefE) (f:Nat):Nat:=match af[f]? with
 | some d=>d.ps.length
 | none=>0
noncomputable def IR (C:Calls) (ar:Nat->Nat) (d:DefE) (ds:List D) (S:Sto):Option (D × Sto):=
 match g9 C ar FU d.body (ds.map some++Zo (d.N.length - ds.length) none) S with
 | some (.rt v,_,S')=>some (v,S')
 | some (.nx,_,S')=>some (.non,S')
 | _=>none
noncomputable def evC (af:List DefE):Nat->Calls
 | 0=>fun _ _ _=>none
 | k+1=>fun f ds S=>match af[f]? with
  | some d=>IR (evC af k) (hF af) d ds S
  | none=>none
noncomputable def AK (N ps:List Str) (sc:Scope):Bool:=sc.kind == .function && sc.isCoroutine == false && sc.isGenerator == false && jP N && N.take ps.length == ps && (ps.all fun x=>sc.names.lookup x == some .local || sc.names.lookup x == some .cell) && sc.names.all fun y=>y.2 != .free
theorem DJ {N ps:List Str} {sc:Scope} (h:AK N ps sc=true):FnScope N ps sc:=by
 unfold AK at h;simp only [bAE,Zx] at h;obtain ⟨⟨⟨⟨⟨⟨h1,h2⟩,h3⟩,h4⟩,h5⟩,h6⟩,h7⟩:=h;refine ⟨by simpa using h1,by simpa using h2,by simpa using h3,i6 h4,by simpa using h5,fun x hx=>?_,fun y hy=>by simpa using h7 y hy⟩;have:=h6 x hx
 simpa using this
noncomputable def DK (T:Tab) (d:DefE):Bool:=AK d.N d.ps (bg d.st) && oS T FU ⟨bg d.st,none,d.N⟩ (cm d.st) d.body
noncomputable def wd (con:List (Str × Int)) (af:List DefE):Tab:=⟨con,af.map fun d=>(d.x,d.ps.length)⟩
structure TextOk (K:PySem.W.Frag) (mg:Str->Option Value) (con:List (Str × Int)) (af:List DefE):Prop where
 con:∀ (i:Nat) (x:Str) (v:Int),con[i]?=some (x,v)->∃ tk,mg x=some (.int v tk)
 bl:∀ x,x ∈ jj->mg x=none
 fn:∀ (i:Nat) (d:DefE),af[i]?=some d->∃ f fd,mg d.x=some (.ref f)/\PySem.W.keepIn K (.ref f)=true/\n9 K fd d.ps []/\Fun K d.x d.x d.st f fd
section
variable {P:Program} {w:World} {K:PySem.W.Frag} {mg:Str->Option Value} {base:Heap} {con:List (Str × Int)} {af:List DefE}
theorem DL {f:Addr} {fd:FuncData} {ps:List Str} {i n:Nat}:FnOk P w K mg base CX0 0 f fd ps (spC K (evC af 0 i) n):=
 ⟨fun vs H Q E h=>(by obtain ⟨m,ds,S,d,S',_,_,_,e,_⟩:=h;cases e),fun A outer s H args us vs Q E _ _ _ _ h=>(by obtain ⟨m,ds,S,d,S',_,_,_,e,_⟩:=h;cases e)⟩
theorem yb {m:List Addr} {H:Hp} {N:List Str} {ds:List D} {vs:List V} (vd:VDs K m H ds vs):EnvR K m H (ds.map some++Zo (N.length - ds.length) none) (L2.hR N vs):=by
 have hl:=vd.length;unfold L2.hR;refine ⟨by simp [hl],fun i d e=>?_⟩;by_cases hi:i < ds.length
 ·rw [Zw (by simpa using hi),Zl] at e;cases h:ds[i]? with
  | none=>rw [h] at e;cases e
  | some d'=>
   rw [h] at e;cases e;obtain ⟨v,hv,vv⟩:=vd.get h;exact ⟨v,by rw [Zw (by simp;omega),Zl,hv];rfl,vv⟩
 ·rw [Zq (by simpa using hi),Yk] at e;split at e <;> cases e
theorem wg (T:TextOk K mg con af) (hc:af.all (DK (wd con af))=true):∀ (k i:Nat) (d:DefE),af[i]?=some d->∀ f fd,mg d.x=some (.ref f)->Fun K d.x d.x d.st f fd->FnOk P w K mg base CX0 k f fd d.ps (spC K (evC af k i) d.ps.length)
 | 0,i,d,_,f,fd,_,_=>DL
 | k+1,i,d,hd,f,fd,hm,F=>by
  have ih:=wg T hc k;have ck:=Zx.mp hc d (Zm hd);unfold DK at ck;rw [bAE] at ck;have S:=DJ ck.1;refine F.ok S (fun vs H Q E h=>?_) fun cdv A outer s H vs Q E hr h=>?_
  ·obtain ⟨m,ds,S,d',S',vd,_,hl,_⟩:=h;rw [<-vd.length,hl]
  ·have G:CtxOk (wd con af) (evC af k) (hF af) k ⟨bg d.st,none,d.N⟩ (tM CX0 P w K mg base d.N d.x (bg d.st) f cdv A outer s H E).nox:=by
    refine ⟨rfl,rfl,rfl,rfl,S.nd,fun _ _=>rfl,hr,T.con,T.bl,fun j y hy=>?_⟩;have hy':(af.map fun d=>(d.x,d.ps.length))[j]?=some y:=hy;rw [Zl] at hy';cases hj:af[j]? with
    | none=>rw [hj] at hy';cases hy'
    | some e=>
     rw [hj] at hy';cases hy';have ha:hF af j=e.ps.length:=by unfold hF;rw [hj]
     obtain ⟨f',fd',m',k',b',F'⟩:=T.fn j e hj;refine ⟨ha,f',fd',e.ps,m',k',b',?_⟩;rw [ha];exact ih j e hj f' fd' m' F'
   refine ⟨_,(MH FU).ss _ _ (cm d.st) d.body G S.kind ck.2,?_⟩;obtain ⟨m,ds,S0,r,S',vd,R,hl,e,q⟩:=h;simp only [evC,hd,IR] at e;cases hx:g9 (evC af k) (hF af) FU d.body (ds.map some++Zo (d.N.length - ds.length) none) S0 with
   | none=>rw [hx] at e;cases e
   | some z=>
    obtain ⟨fl,ρ',S1⟩:=z;rw [hx] at e;refine ⟨m,_,S0,fl,ρ',S1,yb vd,R,hx,fun m' H' A'=>?_⟩;cases fl with
    | nx=>cases e;exact fun σ _=>q m' H' .non A' pX
    | rt v=>cases e;exact fun u vu=>q m' H' u A' vu
    | bk=>cases e
    | ct=>cases e
end
end Ev
namespace Ev
open PySem PySem.Spec PyProof.Rows L2
noncomputable abbrev wj:=(Str × Str) × (Arguments × List Stmt) × (Scope × Addr) × (List (Str × Addr) × Value) × (Addr × Option Str)
noncomputable def Gf (h:Heap):Value->Option Str
 | .ref c=>(match h.get? c with
  | some ⟨_,_,.fields vs,_⟩=>(match vs.toList with | _ :: .str n _::_=>some n | _=>none)
  | _=>none)
 | _=>none
noncomputable def MI (h:Heap):Option Obj->Option wj
 | some ⟨_,_,.func ⟨nm,qn,ps,.stmts b,sc,gl,cl,dv,_,_,_,_,cd,_,bi⟩,_⟩=>some ((nm,qn),(ps,b),(sc,gl),(cl,dv),(bi,Gf h cd))
 | _=>none
noncomputable def DM (h:Heap) (x:Str):Option wj:=match h.nsMap mainGlobals x with
 | some (.ref f)=>MI h (h.get? f)
 | _=>none
noncomputable def wk (d:DefE):Option wj:=some ((d.x,d.x),(eO d.st,cm d.st),(bg d.st,mainGlobals),([],.none),(builtinsNs,some d.x))
noncomputable def MJ (h:Heap) (x:Str):Option Int:=match h.nsMap mainGlobals x with
 | some (.int v _)=>some v
 | _=>none
noncomputable abbrev AL:=Bool × List (Option wj) × List (Option Int) × List Bool
noncomputable def IS (con:List (Str × Int)) (af:List DefE) (h:Heap):AL:=(h.isNs mainGlobals,af.map (fun d=>DM h d.x),con.map (fun c=>MJ h c.1),jj.map fun x=>(h.nsMap mainGlobals x).isNone)
noncomputable def AM (con:List (Str × Int)) (af:List DefE):AL:=(true,af.map wk,con.map (fun c=>some c.2),jj.map fun _=>true)
noncomputable def Gg (d:DefE):Prop:=∀ (kV doc pm:Value) (an:Option Addr) (cdv ct:Value) (us:List Value),us.length=d.ps.length->bindArgs (PySem.W.fnOf d.x d.x (eO d.st) (cm d.st) (bg d.st) .none kV doc pm an cdv ct) ⟨us,[]⟩=pure (d.ps.zip us)
noncomputable def yc:List DefE->Prop
 | []=>True
 | d::ds=>Gg d/\yc ds
theorem yc.at:∀ {ds:List DefE} {d:DefE},yc ds->d ∈ ds->Gg d
 | e::ds,d,h,hd=>by
  rcases Zk.mp hd with rfl | hd
  ·exact h.1
  ·exact yc.at h.2 hd
noncomputable def oT (h:Heap) (f:Addr):PySem.W.Frag:=match h.get? f with
 | some o=>(f,o)::(match o.data with
  | .func fd=>(match fd.code with
   | .ref c=>(match h.get? c with | some oc=>[(c,oc)] | none=>[])
   | _=>[])
  | _=>[])
 | none=>[]
noncomputable def dH (h:Heap) (d:DefE):PySem.W.Frag:=match h.nsMap mainGlobals d.x with
 | some (.ref f)=>oT h f
 | _=>[]
noncomputable def MK (K:PySem.W.Frag):Prop:=∀ a o,K.lookup a=some o->∀ its n,o.data ≠ .seq its n
structure Says (con:List (Str × Int)) (af:List DefE) (h:Heap):Prop where
 ns:∃ m,h.Ns mainGlobals m
 frag:∃ K:PySem.W.Frag,K.In h/\MK K/\∀ mg,h.Ns mainGlobals mg->TextOk K mg con af
theorem mW {K:PySem.W.Frag} {a:Addr} {o:Obj} (h:K.lookup a=some o):(a,o) ∈ K:=by
 induction K with
 | nil=>cases h
 | cons p K ih=>
  obtain ⟨b,q⟩:=p;rw [Yl] at h;cases hb:a == b with
  | true=>
   rw [hb] at h;cases h;have:a=b:=by simpa using hb
   subst this;exact Zg
  | false=>rw [hb] at h;exact Ze _ (ih h)
theorem AN {K:PySem.W.Frag} {a:Addr} {o:Obj} (h:(a,o) ∈ K):∃ o',K.lookup a=some o':=by
 induction K with
 | nil=>cases h
 | cons p K ih=>
  obtain ⟨b,q⟩:=p;rw [Yl];cases hb:a == b with
  | true=>exact ⟨_,rfl⟩
  | false=>
   rcases Zk.mp h with e | h
   ·cases e;simp at hb
   ·exact ih h
theorem AO {h:Heap} {f a:Addr} {o:Obj} (e:(a,o) ∈ oT h f):h.get? a=some o:=by
 unfold oT at e;cases hf:h.get? f with
 | none=>rw [hf] at e;cases e
 | some of=>
  rw [hf] at e;dsimp only at e;rcases Zk.mp e with q | e
  ·cases q;exact hf
  ·split at e
   ·split at e
    ·rename_i c hc;cases hc':h.get? c with
     | none=>rw [hc'] at e;cases e
     | some oc=>
      rw [hc'] at e;dsimp only at e;rcases Zk.mp e with q | e
      ·cases q;exact hc'
      ·cases e
    ·cases e
   ·cases e
theorem IT {h:Heap} {a:Addr} {mg:Str->Option Value} (N:h.Ns a mg):h.nsMap a=mg:=by
 obtain ⟨o,es,ep,ho,hd,_,hm⟩:=N
 funext x
 unfold Heap.nsMap;rw [ho];dsimp only;rw [hd];exact hm x
theorem AQ {h:Heap} {d:DefE} (e:DM h d.x=wk d):∃ f oc od kV doc pm an c ct osl cc cd vs a t r cs,h.nsMap mainGlobals d.x=some (.ref f)/\h.get? f=some ⟨oc,od,.func (PySem.W.fnOf d.x d.x (eO d.st) (cm d.st) (bg d.st) .none kV doc pm an (.ref c) ct),osl⟩ ∧
  h.get? c=some ⟨cc,cd,.fields vs,cs⟩/\vs.toList=a :: .str d.x t::r:=by
 unfold DM wk at e;split at e
 ·rename_i f hf;unfold MI at e;split at e
  ·rename_i oc od nm qn ps b sc gl cl dv kV doc pm an cdv ct bi osl hg;simp only [Option.some.injEq,Prod.mk.injEq] at e;obtain ⟨⟨rfl,rfl⟩,⟨rfl,rfl⟩,⟨rfl,rfl⟩,⟨rfl,rfl⟩,rfl,e⟩:=e;unfold Gf at e;split at e
   ·rename_i c;split at e
    ·rename_i cc cd vs cs hc;split at e
     ·rename_i a n t r hv;cases e;exact ⟨f,oc,od,kV,doc,pm,an,c,ct,osl,cc,cd,vs,a,t,r,cs,hf,hg,hc,hv⟩
     ·cases e
    ·cases e
   ·cases e
  ·cases e
 ·cases e
theorem DN {con:List (Str × Int)} {af:List DefE} (hb:yc af) {h:Heap} (e:IS con af h=AM con af):Says con af h:=by
 unfold IS AM at e;simp only [Prod.mk.injEq] at e;obtain ⟨e0,e1,e2,e3⟩:=e;have N:=Heap.Ns.of_isNs e0;have D:∀ d ∈ af,DM h d.x=wk d:=fun d hd=>YS.mp e1 d hd
 have inK:∀ a o,(a,o) ∈ af.flatMap (dH h)->h.get? a=some o:=fun a o he=>by
  obtain ⟨d,hd,he⟩:=Ym.mp he;obtain ⟨f,oc,od,kV,doc,pm,an,c,ct,osl,cc,cd,vs,a',t,r,cs,g1,g2,g3,g4⟩:=AQ (D d hd);unfold dH at he;rw [g1] at he;exact AO he
 have lk:∀ a o,(a,o) ∈ af.flatMap (dH h)->(af.flatMap (dH h)).lookup a=some o:=fun a o he=>by
  obtain ⟨o',q⟩:=AN he;have z:=inK a o' (mW q);rw [inK a o he] at z;cases z;exact q
 refine ⟨⟨_,N⟩,af.flatMap (dH h),fun a o q=>inK a o (mW q),fun a o q its n hs=>?_,fun mg G=>?_⟩
 ·obtain ⟨d,hd,he⟩:=Ym.mp (mW q);obtain ⟨f,oc,od,kV,doc,pm,an,c,ct,osl,cc,cd,vs,a',t,r,cs,g1,g2,g3,g4⟩:=AQ (D d hd);unfold dH at he;rw [g1] at he;dsimp only at he;unfold oT at he;rw [g2] at he;dsimp only at he;rw [g3] at he;dsimp only at he;rcases Zk.mp he with z | he
  ·cases z;cases hs
  ·rcases Zk.mp he with z | he
   ·cases z;cases hs
   ·cases he
 ·have hm:=IT G;refine ⟨fun i x v hi=>?_,fun x hx=>?_,fun i d hi=>?_⟩
  ·have z:=YS.mp e2 (x,v) (Zm hi);unfold MJ at z;rw [hm] at z;dsimp only at z;split at z
   ·rename_i v' t hv;cases z;exact ⟨t,hv⟩
   ·cases z
  ·have z:=YS.mp e3 x hx;rw [hm] at z
   simpa using z
  ·have hd:=Zm hi;obtain ⟨f,oc,od,kV,doc,pm,an,c,ct,osl,cc,cd,vs,a',t,r,cs,g1,g2,g3,g4⟩:=AQ (D d hd)
   have m1:(f,_) ∈ af.flatMap (dH h):=Ym.mpr ⟨d,hd,by
    show _ ∈ dH h d;unfold dH;rw [g1];dsimp only;unfold oT;rw [g2];exact Zg⟩
   have m2:(c,_) ∈ af.flatMap (dH h):=Ym.mpr ⟨d,hd,by
    show _ ∈ dH h d;unfold dH;rw [g1];dsimp only;unfold oT;rw [g2];dsimp only;rw [g3];exact Ze _ Zg⟩
   have l1:=lk _ _ m1;have l2:=lk _ _ m2;have kp:PySem.W.keepIn (af.flatMap (dH h)) (.ref f)=true:=by unfold PySem.W.keepIn;dsimp only;rw [l1]
   have cdI:PySem.W.codeIn (af.flatMap (dH h)) (.ref c) d.x=true:=by
    unfold PySem.W.codeIn;dsimp only;rw [l2];dsimp only;rw [g4];simp
   have F:=Hm (st:=d.st) (x:=d.x) (qual:=d.x) l1 cdI kp;refine ⟨f,_,by rw [<-hm];exact g1,kp,F.binds (hb.at hd),F⟩
theorem uJ {con:List (Str × Int)} {af:List DefE} {h h':Heap} (x:Says con af h) (k:∀ b o,h.get? b=some o->h'.get? b=some o):Says con af h':=by
 obtain ⟨⟨m,N⟩,K,KX,ns,T⟩:=x
 have back:∀ mg,h'.Ns mainGlobals mg->h.Ns mainGlobals mg:=fun mg ⟨o,es,ep,ho,r⟩=>by
  obtain ⟨o',es',ep',ho',r'⟩:=N;have z:=k _ _ ho';rw [ho] at z;cases z;exact ⟨o,es,ep,ho',r⟩
 refine ⟨⟨m,let ⟨o,es,ep,ho,r⟩:=N;⟨o,es,ep,k _ _ ho,r⟩⟩,K,fun a o q=>k _ _ (KX a o q),ns,fun mg G=>T mg (back mg G)⟩
noncomputable def qy (con:List (Str × Int)) (af:List DefE) (hb:yc af):PySem.W.Hook:=
 ⟨AL,fun s=>IS con af s.heap,fun _=>AM con af,fun _ h=>Says con af h,fun _ _ e=>DN hb e,fun _ _ _ x k=>uJ x k⟩
theorem mX {K:PySem.W.Frag} {m:List Addr} {H:Hp}:∀ ns:List Int,VDs K m H (ns.map D.int) (ns.map V.int)
 | []=>by rw [ZZ,ZZ,VDs]
 | a::l=>by rw [Zt,Zt,VDs];exact ⟨_,_,rfl,bq,mX l⟩
theorem DP {l:PySem.W.OpenLaw} {n k i:Nat} {q:Program} {loose:List Str} {XP:(Str->Option Value)->Heap->Prop} {d:DefRec} {con:List (Str × Int)} {af:List DefE} {hb:yc af} {dl:DefE} {x:Str}
  (hn:l.most=some n) (hn2:n<=sizeLine) (hdf:d.params.defaults=[]) (hr:Room k callerA) (hx:d.name=dl.x) (hi:af[i]?=some dl) (hps:dl.ps=[x]) (hc:af.all (DK (wd con af))=true)
  (main:∀ ns:List Int,ns.length<=n->∃ S',evC af k i [.ref 0] [.frz (ns.map D.int)]=some (.bl true,S')) :
  PySem.W.WalkO q loose XP (qy con af hb).says l.row.toRowW d [] (fun f vs=>PySem.call f vs):=by
 refine Att.attach_call hn hdf fun w s₀ s₁ mg mb fa o pm cd doc a vs ns G Y ho hd hcd hmg hobj hints hlen hg=>?_;obtain ⟨_,K,KX,noS,T⟩:=(show Says con af s₁.heap from Y);have T:=T mg G.T.g;obtain ⟨f,fd,hm,kp,_,F⟩:=T.fn i dl hi;rw [hx] at hmg;rw [hmg] at hm;cases hm
 have bd:∀ (s:Shared) (u:Value),BindsTo s fd ⟨[u],[]⟩ [(x,u)]:=fun s u=>by
  obtain ⟨oc,od,kV,doc,pm,an,cdv,ct,osl,rfl,lk,hcd⟩:=F.ex;have z:=(hb.at (Zm hi)) kV doc pm an cdv ct [u] (by rw [hps];rfl);rw [hps] at z;exact .of_eq z
 refine yZ (CX:=CX0) (sp:=spC K (evC af k i) dl.ps.length) KX G.T.g G.T.b G.T.builtins G.T.nolimit hg hobj hints (Zv hlen hn2) hr (fun base _ _=>by
  have:=wg (P:=l.row.toRowW.prog) (w:=w) (base:=base) T hc k i dl hi fa fd hmg F;rw [hps] at this ⊢;exact this) bd (fun H hO hS=>?_) fun H e s' z=>z
 have fz:∃ o,H a=some (.frz o (.lst (ns.map V.int))):=by
  rcases hS with (z | ⟨o,z⟩) | ⟨o,its,n',hk,hc,hdd,hdt,_⟩
  ·rcases hO a with y | ⟨o',xs,y⟩
   ·rw [y] at z;cases z
   ·rw [y] at z;cases z
  ·exact ⟨o,z⟩
  ·exact absurd hdt (noS a o hk its n')
 obtain ⟨o,fz⟩:=fz;obtain ⟨S',e⟩:=main ns hlen;refine ⟨[a],[.ref 0],[.frz (ns.map D.int)],.bl true,S',?_,⟨rfl,by simp,fun j ob ej=>?_⟩,by rw [hps];rfl,e,fun m' H' v A vv=>vv.bls⟩
 ·rw [VDs];exact ⟨_,_,rfl,by rw [VD];exact ⟨a,rfl,rfl⟩,by rw [VDs]⟩
 ·cases j with
  | zero=>cases ej;exact ⟨a,rfl,o,_,fz,mX ns⟩
  | succ j=>simp at ej
end Ev
namespace Lw
open PySem Ev
noncomputable def top (i:Nat):Stmt:=PySem.Challenge.pw_downrings_k11_landings_kept.main.body.getD i (.Pass ⟨0,0,0,0⟩)
noncomputable abbrev fb:Nat:=0
noncomputable abbrev bj:Nat:=1
noncomputable abbrev cv:Nat:=2
noncomputable abbrev aW:Nat:=3
noncomputable abbrev jr:Nat:=4
noncomputable abbrev kz:Nat:=5
noncomputable abbrev mY:Nat:=6
noncomputable abbrev jt:Nat:=7
noncomputable abbrev bN:Nat:=8
noncomputable abbrev kA:Nat:=9
noncomputable abbrev ju:Nat:=10
noncomputable abbrev jY:Nat:=11
noncomputable abbrev oU:Nat:=12
noncomputable abbrev su:Nat:=13
noncomputable abbrev mZ:Nat:=14
noncomputable abbrev hY:Nat:=15
noncomputable abbrev kB:Nat:=16
noncomputable abbrev kC:Nat:=17
noncomputable abbrev kD:Nat:=18
noncomputable abbrev qz:Nat:=19
noncomputable abbrev sv:Nat:=20
noncomputable abbrev kE:Nat:=21
noncomputable abbrev oV:Nat:=22
noncomputable abbrev hZ:Nat:=23
noncomputable abbrev fF:Nat:=24
noncomputable abbrev c9:Nat:=25
noncomputable abbrev fG:Nat:=26
noncomputable abbrev oW:Nat:=27
noncomputable abbrev fH:Nat:=28
noncomputable abbrev fc:Nat:=29
noncomputable abbrev cA:Nat:=30
noncomputable abbrev b5:Nat:=31
noncomputable abbrev fI:Nat:=32
noncomputable abbrev eI:Nat:=33
noncomputable abbrev ia:Nat:=34
noncomputable abbrev ib:Nat:=35
noncomputable abbrev ic:Nat:=36
noncomputable abbrev oX:Nat:=37
noncomputable abbrev ad:Nat:=38
noncomputable abbrev fY:Nat:=39
noncomputable abbrev m6:Nat:=40
noncomputable abbrev kF:Nat:=41
noncomputable abbrev jv:Nat:=42
noncomputable abbrev jw:Nat:=43
noncomputable abbrev fZ:Nat:=44
noncomputable abbrev oY:Nat:=45
noncomputable abbrev f7:Nat:=46
noncomputable abbrev fe:Nat:=47
noncomputable abbrev eJ:Nat:=48
noncomputable abbrev f8:Nat:=49
noncomputable abbrev m7:Nat:=50
noncomputable abbrev fJ:Nat:=51
noncomputable abbrev cw:Nat:=52
noncomputable abbrev ie:Nat:=53
noncomputable abbrev jx:Nat:=54
noncomputable abbrev jZ:Nat:=55
noncomputable abbrev ig:Nat:=56
noncomputable abbrev jy:Nat:=57
noncomputable abbrev wm:Nat:=58
noncomputable def m8:List CS:=[.ret (.and (.inst .int (.var 0)) (.not (.inst .bool (.var 0))))]
noncomputable def kG:List CS:=[.ret (.and (.call fb [(.var 0)]) (.chn .le .le (.var 1) (.var 0) (.var 2)))]
noncomputable def kH:List CS:=[.ret (.call bj [(.var 0),(.int 0),(.con 0 9999)])]
noncomputable def m9:List CS:=[.ret (.and (.inst .tuple (.var 0)) (.chn .le .le (.var 1) (.len (.var 0)) (.var 2)))]
noncomputable def jz:List CS:=[.ifs (.or (.not (.call aW [(.var 0),(.int 0),(.var 1)])) (.not (.all (.comp ["number"] (.call bj [(.var 2),(.int 0),(.bin .sub (.var 1) (.int 1))]) [⟨(.name 2),(.val (.var 0)),none⟩])))) [.ret (.bl false)] [],.ret (.all (.comp ["number"] (.cmp .eq (.cnt (.var 0) (.var 2)) (.int 1)) [⟨(.name 2),(.val (.var 0)),none⟩]))]
noncomputable def kI:List CS:=[.ifs (.not (.call aW [(.var 0),(.int 4),(.int 4)])) [.ret (.bl false)] [],.asg (.tup [(.name 1),(.name 2),(.name 3),(.name 4)]) (.var 0),.ret (.and (.call bj [(.var 1),(.int 0),(.con 1 8)]) (.and (.call bj [(.var 2),(.int 0),(.con 2 60)]) (.and (.call mY [(.var 3)]) (.call kA [(.var 4)]))))]
noncomputable def nc:List CS:=[.ifs (.not (.call aW [(.var 0),(.int 1),(.con 3 4)])) [.ret (.bl false)] [],.ret (.and (.all (.comp ["row"] (.call jt [(.var 1),(.len (.var 0))]) [⟨(.name 1),(.val (.var 0)),none⟩])) (.call bN [(.var 0)]))]
noncomputable def jA:List CS:=[.ret (.and (.call aW [(.var 0),(.var 1),(.var 1)]) (.all (.comp ["gap"] (.call bj [(.var 2),(.int 1),(.con 4 99)]) [⟨(.name 2),(.val (.var 0)),none⟩])))]
noncomputable def bO:List CS:=[.asg (.name 1) (.listR (.len (.var 0))),.ret (.all (.comp ["a", "b", "c"] (.cmp .le (.ix (.ix (.var 0) (.var 2)) (.var 3)) (.bin .add (.ix (.ix (.var 0) (.var 2)) (.var 4)) (.ix (.ix (.var 0) (.var 4)) (.var 3)))) [⟨(.name 2),(.val (.var 1)),none⟩,⟨(.name 3),(.val (.var 1)),none⟩,⟨(.name 4),(.val (.var 1)),none⟩]))]
noncomputable def kJ:List CS:=[.ifs (.or (.not (.call aW [(.var 0),(.int 0),(.con 5 4)])) (.not (.all (.comp ["part"] (.call ju [(.var 1)]) [⟨(.name 1),(.val (.var 0)),none⟩])))) [.ret (.bl false)] [],.ret (.all (.comp ["at"] (.cmp .gt (.ix (.ix (.var 0) (.var 1)) (.int 0)) (.ix (.ix (.var 0) (.bin .sub (.var 1) (.int 1))) (.int 1))) [⟨(.name 1),(.r2 (.int 1) (.len (.var 0))),none⟩]))]
noncomputable def jB:List CS:=[.ret (.and (.call aW [(.var 0),(.int 2),(.int 2)]) (.and (.call cv [(.ix (.var 0) (.int 0))]) (.and (.call cv [(.ix (.var 0) (.int 1))]) (.cmp .lt (.ix (.var 0) (.int 0)) (.ix (.var 0) (.int 1))))))]
noncomputable def oZ:List CS:=[.ret (.call bj [(.var 1),(.int 0),(.bin .sub (.len (.ix (.var 0) (.int 2))) (.int 1))])]
noncomputable def o0:List CS:=[.ret (.any (.comp ["begin", "end"] (.chn .le .lt (.var 2) (.var 1) (.var 3)) [⟨(.tup [(.name 2),(.name 3)]),(.val (.ix (.var 0) (.int 3))),none⟩]))]
noncomputable def sx:List CS:=[.ifs (.not (.call aW [(.var 0),(.int 4),(.int 4)])) [.ret (.bl false)] [],.asg (.tup [(.name 1),(.name 2),(.name 3),(.name 4)]) (.var 0),.ret (.and (.call kz [(.var 1)]) (.and (.call mZ [(.var 1),(.var 2)]) (.and (.call hY [(.var 1),(.var 3)]) (.call kC [(.var 3),(.var 4)]))))]
noncomputable def ng:List CS:=[.ifs (.cmp .is (.var 1) .non) [.ret (.bl true)] [],.ret (.and (.call aW [(.var 1),(.int 2),(.int 2)]) (.and (.call jY [(.var 0),(.ix (.var 1) (.int 0))]) (.call cv [(.ix (.var 1) (.int 1))])))]
noncomputable def im:List CS:=[.ret (.and (.call aW [(.var 1),(.int 0),(.con 6 7)]) (.all (.comp ["part"] (.call kB [(.var 0),(.var 2)]) [⟨(.name 2),(.val (.var 1)),none⟩])))]
noncomputable def kK:List CS:=[.ifs (.not (.call aW [(.var 1),(.int 7),(.int 7)])) [.ret (.bl false)] [],.asg (.tup [(.name 2),(.name 3),(.name 4),(.name 5),(.name 6),(.name 7),(.name 8)]) (.var 1),.ifs (.not (.all (.comp ["minute"] (.call cv [(.var 9)]) [⟨(.name 9),(.val (.tup [(.var 3),(.var 4),(.var 5),(.var 6)])),none⟩]))) [.ret (.bl false)] [],.ifs (.not (.chn .le .le (.bin .add (.var 3) (.ix (.var 0) (.int 1))) (.var 4) (.var 5))) [.ret (.bl false)] [],.ret (.and (.call jY [(.var 0),(.var 2)]) (.and (.call bj [(.var 7),(.int 0),(.con 7 99)]) (.call bj [(.var 8),(.int 0),(.ix (.var 0) (.int 0))])))]
noncomputable def kL:List CS:=[.ifs (.not (.call jr [(.var 1),(.len (.var 0))])) [.ret (.bl false)] [],.ret (.all (.comp ["number", "glider"] (.or (.cmp .eq (.ix (.var 3) (.int 6)) (.int 0)) (.cmp .isin (.var 2) (.var 1))) [⟨(.tup [(.name 2),(.name 3)]),(.en (.var 0)),none⟩]))]
noncomputable def kM:List CS:=[.ifs (.not (.call su [(.var 0)])) [.never] []]
noncomputable def wn:List CS:=[.ex (.call kD [(.var 0)]),.ret (.call sv [(.var 0),(.var 1)])]
noncomputable def kN:List CS:=[.ret (.and (.call kE [(.var 1)]) (.cmp .is (.call hZ [(.var 0),(.var 1)]) .non))]
noncomputable def kO:List CS:=[.ifs (.or (.not (.inst .list (.var 0))) (.cmp .gt (.len (.var 0)) (.con 8 20))) [.ret (.bl false)] [],.ret (.all (.comp ["part"] (.call oV [(.var 1)]) [⟨(.name 1),(.val (.var 0)),none⟩]))]
noncomputable def o3:List CS:=[.ret (.and (.call aW [(.var 0),(.int 2),(.int 2)]) (.and (.call fb [(.ix (.var 0) (.int 0))]) (.call fb [(.ix (.var 0) (.int 1))])))]
noncomputable def io:List CS:=[.for_ (.name 2) (.r1 (.len (.var 1))) [.asg (.name 3) (.call fF [(.var 0),(.var 1),(.var 2)]),.ifs (.cmp .isnot (.var 3) .non) [.ret (.tup [(.var 3),(.ix (.ix (.var 1) (.var 2)) (.int 0))])] []],.asg (.name 4) (.call fH [(.var 0),(.var 1)]),.ifs (.cmp .isnot (.var 4) .non) [.ret (.tup [(.str "lacks"),(.var 4)])] [],.asg (.name 5) (.call fI [(.var 0),(.var 1)]),.ifs (.cmp .isnot (.var 5) .non) [.ret (.tup [(.str "rings"),(.var 5)])] [],.asg (.name 6) (.call eI [(.var 0),(.var 1)]),.ifs (.cmp .isnot (.var 6) .non) [.ret (.tup [(.str "ring"),(.var 6)])] [],.ret .non]
noncomputable def fK:List CS:=[.asg (.tup [(.name 3),(.name 4),(.name 5),(.name 6)]) (.var 0),.asg (.name 7) (.ix (.ix (.var 1) (.var 2)) (.int 0)),.ifs (.not (.chn .le .lt (.int 0) (.var 7) (.len (.var 5)))) [.ret (.str "none")] [],.ifs (.cmp .isin (.var 7) (.comp ["other", "minute"] (.var 8) [⟨(.tup [(.name 8),(.name 9)]),(.val (.sl (.var 1) none (some (.var 2)))),none⟩])) [.ret (.str "twice")] [],.ifs (.and (.cmp .lt (.var 2) (.len (.var 6))) (.cmp .ne (.var 7) (.ix (.var 6) (.var 2)))) [.ret (.str "order")] [],.ret (.call c9 [(.var 0),(.var 1),(.var 2)])]
noncomputable def f9:List CS:=[.asg (.tup [(.name 3),(.name 4),(.name 5),(.name 6)]) (.var 0),.asg (.tup [(.name 7),(.name 8)]) (.ix (.var 1) (.var 2)),.asg (.tup [(.name 9),(.name 10),(.name 11),(.name 12),(.name 13),(.name 14),(.name 15)]) (.ix (.var 5) (.var 7)),.ifs (.cmp .lt (.var 8) (.var 11)) [.ret (.str "soon")] [],.ifs (.cmp .gt (.var 8) (.var 12)) [.ret (.str "late")] [],.ifs (.call oU [(.var 3),(.var 8)]) [.ret (.str "shut")] [],.ifs (.cmp .lt (.var 8) (.call oW [(.var 0),(.call fG [(.var 0),(.sl (.var 1) none (some (.var 2)))]),(.var 9)])) [.ret (.str "gap")] [],.ret .non]
noncomputable def fL:List CS:=[.ifs (.not (.var 1)) [.ret (.ix (.var 0) (.int 1))] [],.asg (.tup [(.name 2),(.name 3)]) (.ix (.var 1) (.neg (.int 1))),.ret (.tup [(.ix (.ix (.ix (.var 0) (.int 2)) (.var 2)) (.int 0)),(.var 3)])]
noncomputable def o4:List CS:=[.ifs (.cmp .is (.var 1) .non) [.ret (.int 0)] [],.ret (.bin .add (.ix (.var 1) (.int 1)) (.ix (.ix (.ix (.ix (.var 0) (.int 0)) (.int 2)) (.ix (.var 1) (.int 0))) (.var 2)))]
noncomputable def fM:List CS:=[.asg (.name 2) (.comp ["glider", "minute"] (.var 4) [⟨(.tup [(.name 4),(.name 5)]),(.val (.var 1)),none⟩]),.for_ (.name 3) (.r1 (.len (.ix (.var 0) (.int 2)))) [.ifs (.cmp .notin (.var 3) (.var 2)) [.ret (.var 3)] []],.ret .non]
noncomputable def ni:List CS:=[.asg (.tup [(.name 3),(.name 4)]) (.var 1),.ret (.chn .le .lt (.ix (.ix (.ix (.var 0) (.int 2)) (.var 3)) (.int 1)) (.var 2) (.bin .sub (.var 4) (.ix (.ix (.var 0) (.int 0)) (.int 1))))]
noncomputable def fN:List CS:=[.ret (.len (.comp ["landing"] (.var 3) [⟨(.name 3),(.val (.var 1)),some (.call fc [(.var 0),(.var 3),(.var 2)])⟩]))]
noncomputable def dI:List CS:=[.ret (.srt (.comp ["glider"] (.ix (.var 1) (.int 1)) [⟨(.name 1),(.val (.ix (.var 0) (.int 2))),none⟩]))]
noncomputable def fO:List CS:=[.for_ (.name 2) (.val (.call b5 [(.var 0)])) [.ifs (.cmp .gt (.call cA [(.var 0),(.var 1),(.var 2)]) (.ix (.ix (.var 0) (.int 0)) (.int 0))) [.ret (.var 2)] []],.ret .non]
noncomputable def eK:List CS:=[.for_ (.tup [(.name 2),(.name 3)]) (.en (.var 1)) [.ifs (.call ia [(.var 0),(.var 1),(.var 2)]) [.ret (.ix (.var 3) (.int 0))] []],.ret .non]
noncomputable def ip:List CS:=[.asg (.tup [(.name 3),(.name 4),(.name 5),(.name 6),(.name 7),(.name 8),(.name 9)]) (.ix (.ix (.var 0) (.int 2)) (.ix (.ix (.var 1) (.var 2)) (.int 0))),.ret (.and (.cmp .gt (.var 9) (.int 0)) (.and (.call fc [(.var 0),(.ix (.var 1) (.var 2)),(.var 4)]) (.cmp .gt (.call ib [(.var 0),(.var 1),(.var 2),(.var 4)]) (.var 9))))]
noncomputable def iq:List CS:=[.asg (.name 4) (.sl (.var 1) none (some (.var 2))),.asg (.name 5) (.comp ["when"] (.var 6) [⟨(.name 6),(.val (.call b5 [(.var 0)])),some (.and (.cmp .gt (.var 6) (.var 3)) (.call fc [(.var 0),(.ix (.var 1) (.var 2)),(.var 6)]))⟩]),.ret (.mxL (.comp ["when"] (.bin .add (.int 1) (.call cA [(.var 0),(.var 4),(.var 6)])) [⟨(.name 6),(.val (.bin .add (.lst [(.var 3)]) (.var 5))),none⟩]))]
noncomputable def ir:List CS:=[.ifs (.cmp .lt (.var 1) (.len (.var 0))) [.ret (.ix (.var 0) (.var 1))] [],.ret (.int 0)]
noncomputable def o5:List CS:=[.ifs (.cmp .ge (.var 0) (.bin .pow (.int 10) (.int 18))) [.ret (.lst [(.bin .sub (.var 0) (.bin .pow (.int 10) (.int 18)))])] [],.asg (.name 1) (.int 0),.for_ (.name 2) (.r1 (.int 64)) [.asg (.name 3) (.bin .mod (.bin .mul (.bin .add (.bin .add (.bin .mod (.var 0) (.int 2147483629)) (.bin .mul (.int 7919) (.var 2))) (.int 1)) (.int 48271)) (.int 2147483647)),.asg (.name 3) (.bin .mod (.bin .add (.bin .add (.bin .mul (.var 3) (.var 3)) (.bin .mul (.int 69621) (.var 2))) (.int 7)) (.int 2147483587)),.asg (.name 1) (.bin .add (.bin .mul (.var 1) (.int 2147483587)) (.var 3))],.ret (.lst [(.var 1)])]
noncomputable def nj:List CS:=[.asg (.name 2) (.bin .mod (.ix (.var 0) (.int 0)) (.var 1)),.setI (.bin .fdiv (.ix (.var 0) (.int 0)) (.var 1)) (.var 0) (.int 0),.ret (.var 2)]
noncomputable def kP:List CS:=[.ret (.and (.inst .int (.var 0)) (.not (.inst .bool (.var 0))))]
noncomputable def dh:List CS:=[.asg (.name 1) (.bin .add (.int 1) (.call ad [(.var 0),(.int 4)])),.asg (.name 2) (.comp ["_law_a"] (.comp ["_law_b"] (.bin .add (.int 1) (.call ad [(.var 0),(.int 9)])) [⟨(.name 5),(.r1 (.var 1)),none⟩]) [⟨(.name 4),(.r1 (.var 1)),none⟩]),.ifs (.cmp .eq (.call ad [(.var 0),(.int 8)]) (.int 0)) [.asg (.name 2) (.comp ["_law_row"] (.comp ["_law_gap"] (.bin .sub (.int 99) (.call ad [(.var 0),(.int 3)])) [⟨(.name 5),(.val (.var 4)),none⟩]) [⟨(.name 4),(.val (.var 2)),none⟩])] [],.for_ (.name 3) (.r1 (.var 1)) [.asg (.name 2) (.comp ["_law_row"] (.comp ["_law_b", "_law_gap"] (.mn (.var 6) (.bin .add (.ix (.var 4) (.var 3)) (.ix (.ix (.var 2) (.var 3)) (.var 5)))) [⟨(.tup [(.name 5),(.name 6)]),(.en (.var 4)),none⟩]) [⟨(.name 4),(.val (.var 2)),none⟩])],.ret (.tupOf (.comp ["_law_row"] (.tupOf (.var 4)) [⟨(.name 4),(.val (.var 2)),none⟩]))]
noncomputable def kQ:List CS:=[.asg (.tup [(.name 2),(.name 3)]) (.tup [(.lst []),(.var 1)]),.for_ (.name 4) (.r1 (.ix (.lst [(.int 0),(.int 1),(.int 2),(.int 3),(.int 4)]) (.call ad [(.var 0),(.int 5)]))) [.asg (.name 3) (.bin .add (.bin .add (.var 3) (.int 1)) (.call ad [(.var 0),(.int 14)])),.ex (.app (.var 2) (.tup [(.var 3),(.bin .add (.bin .add (.var 3) (.int 1)) (.call ad [(.var 0),(.int 6)]))])),.asg (.name 3) (.ix (.ix (.var 2) (.neg (.int 1))) (.int 1))],.ret (.tupOf (.var 2))]
noncomputable def jC:List CS:=[.asg (.name 1) (.ix (.lst [(.int 2),(.int 1),(.int 3),(.int 8),(.int 0)]) (.call ad [(.var 0),(.int 5)])),.ret (.tup [(.var 1),(.ix (.lst [(.int 2),(.int 0),(.int 1),(.int 5),(.int 60)]) (.call ad [(.var 0),(.int 5)])),(.call m6 [(.var 0)]),(.call kF [(.var 0),(.int 0)])])]
noncomputable def jD:List CS:=[.asg (.name 2) (.call ad [(.var 0),(.int 40)]),.asg (.name 3) (.bin .add (.bin .add (.var 2) (.ix (.var 1) (.int 1))) (.ix (.lst [(.int 0),(.int 0),(.call ad [(.var 0),(.int 9)])]) (.call ad [(.var 0),(.int 3)]))),.asg (.name 4) (.bin .add (.var 3) (.ix (.lst [(.call ad [(.var 0),(.int 5)]),(.bin .add (.int 5) (.call ad [(.var 0),(.int 20)])),(.int 60),(.int 200)]) (.call ad [(.var 0),(.int 4)]))),.asg (.name 5) (.ix (.lst [(.var 3),(.bin .add (.var 2) (.call ad [(.var 0),(.int 30)])),(.call ad [(.var 0),(.int 90)])]) (.call ad [(.var 0),(.int 3)])),.ret (.tup [(.call ad [(.var 0),(.len (.ix (.var 1) (.int 2)))]),(.var 2),(.var 3),(.var 4),(.var 5),(.call ad [(.var 0),(.int 10)]),(.int 0)])]
noncomputable def kR:List CS:=[.asg (.name 2) (.listOf (.var 1)),.ret (.comp ["_law_one"] (.popAt (.var 2) (.call ad [(.var 0),(.len (.var 2))])) [⟨(.name 3),(.val (.var 1)),none⟩])]
noncomputable def j3:List CS:=[.asg (.name 2) (.call jv [(.var 0)]),.asg (.name 3) (.comp ["_law_g"] (.call jw [(.var 0),(.var 2)]) [⟨(.name 8),(.r1 (.call ad [(.var 0),(.bin .add (.var 1) (.int 1))])),none⟩]),.asg (.name 4) (.listR (.len (.var 3))),.ifs (.cmp .eq (.call ad [(.var 0),(.int 2)]) (.int 0)) [.asg (.name 4) (.comp ["_law_pair"] (.ix (.var 8) (.int 1)) [⟨(.name 8),(.val (.srt (.comp ["_law_g", "_law_glider_here"] (.tup [(.ix (.var 9) (.int 2)),(.var 8)]) [⟨(.tup [(.name 8),(.name 9)]),(.en (.var 3)),none⟩]))),none⟩])] [.asg (.name 4) (.call fZ [(.var 0),(.var 4)])],.asg (.name 5) (.sl (.var 4) none (some (.ix (.lst [(.int 0),(.int 1),(.int 2),(.int 3)]) (.call ad [(.var 0),(.int 4)])))),.for_ (.name 6) (.val (.var 5)) [.ifs (.and (.cmp .eq (.call ad [(.var 0),(.int 2)]) (.int 0)) (.cmp .gt (.ix (.var 2) (.int 0)) (.int 0))) [.setI (.bin .add (.sl (.ix (.var 3) (.var 6)) none (some (.int 6))) (.tup [(.bin .add (.int 1) (.call ad [(.var 0),(.ix (.var 2) (.int 0))]))])) (.var 3) (.var 6)] []],.asg (.name 7) .non,.ifs (.cmp .eq (.call ad [(.var 0),(.int 2)]) (.int 0)) [.asg (.name 7) (.tup [(.call ad [(.var 0),(.len (.ix (.var 2) (.int 2)))]),(.call ad [(.var 0),(.int 20)])])] [],.ret (.tup [(.var 2),(.var 7),(.tupOf (.var 3)),(.tupOf (.var 5))])]
noncomputable def kS:List CS:=[.ret (.bin .add (.ix (.var 1) (.int 3)) (.tupOf (.call fZ [(.var 0),(.comp ["_law_g"] (.var 2) [⟨(.name 2),(.r1 (.len (.ix (.var 1) (.int 2)))),some (.cmp .notin (.var 2) (.ix (.var 1) (.int 3)))⟩])])))]
noncomputable def np:List CS:=[.asg (.name 2) (.var 1),.for_ (.name 3) (.r1 (.bin .add (.len (.var 0)) (.int 1))) [.for_ (.tup [(.name 4),(.name 5)]) (.val (.var 0)) [.ifs (.chn .le .lt (.var 4) (.var 2) (.var 5)) [.asg (.name 2) (.var 5)] []]],.ret (.var 2)]
noncomputable def o6:List CS:=[.asg (.tup [(.name 2),(.name 3)]) (.tup [(.lst []),(.ix (.var 0) (.int 1))]),.for_ (.name 4) (.val (.var 1)) [.asg (.name 5) (.ix (.ix (.ix (.var 0) (.int 2)) (.var 4)) (.int 2)),.ifs (.cmp .isnot (.var 3) .non) [.asg (.name 5) (.mx (.var 5) (.bin .add (.ix (.var 3) (.int 1)) (.ix (.ix (.ix (.ix (.var 0) (.int 0)) (.int 2)) (.ix (.var 3) (.int 0))) (.ix (.ix (.ix (.var 0) (.int 2)) (.var 4)) (.int 0)))))] [],.asg (.name 5) (.call fe [(.ix (.ix (.var 0) (.int 0)) (.int 3)),(.var 5)]),.ex (.app (.var 2) (.tup [(.var 4),(.var 5)])),.asg (.name 3) (.tup [(.ix (.ix (.ix (.var 0) (.int 2)) (.var 4)) (.int 0)),(.var 5)])],.ret (.var 2)]
noncomputable def kT:List CS:=[.ret (.chn .le .lt (.ix (.ix (.ix (.var 0) (.int 2)) (.ix (.var 1) (.int 0))) (.int 1)) (.var 2) (.bin .sub (.ix (.var 1) (.int 1)) (.ix (.ix (.var 0) (.int 0)) (.int 1))))]
noncomputable def nq:List CS:=[.asg (.name 4) (.int 0),.for_ (.name 5) (.r2 (.var 3) (.bin .sub (.ix (.ix (.var 1) (.var 2)) (.int 1)) (.ix (.ix (.var 0) (.int 0)) (.int 1)))) [.asg (.name 4) (.mx (.var 4) (.bin .add (.int 1) (.len (.comp ["_law_one"] (.var 6) [⟨(.name 6),(.val (.sl (.var 1) none (some (.var 2)))),some (.call f8 [(.var 0),(.var 6),(.var 5)])⟩]))))],.ret (.var 4)]
noncomputable def be:List CS:=[.asg (.tup [(.name 3),(.name 4)]) (.ix (.var 1) (.var 2)),.ifs (.not (.chn .le .lt (.int 0) (.var 3) (.len (.ix (.var 0) (.int 2))))) [.ret (.tup [(.str "none"),(.var 3)])] [],.ifs (.cmp .isin (.var 3) (.comp ["_law_one"] (.ix (.var 6) (.int 0)) [⟨(.name 6),(.val (.sl (.var 1) none (some (.var 2)))),none⟩])) [.ret (.tup [(.str "twice"),(.var 3)])] [],.ifs (.and (.cmp .lt (.var 2) (.len (.ix (.var 0) (.int 3)))) (.cmp .ne (.ix (.ix (.var 0) (.int 3)) (.var 2)) (.var 3))) [.ret (.tup [(.str "order"),(.var 3)])] [],.ifs (.cmp .lt (.var 4) (.ix (.ix (.ix (.var 0) (.int 2)) (.var 3)) (.int 2))) [.ret (.tup [(.str "soon"),(.var 3)])] [],.ifs (.cmp .gt (.var 4) (.ix (.ix (.ix (.var 0) (.int 2)) (.var 3)) (.int 3))) [.ret (.tup [(.str "late"),(.var 3)])] [],.ifs (.cmp .ne (.comp ["_law_begin", "_law_end"] (.var 6) [⟨(.tup [(.name 6),(.name 7)]),(.val (.ix (.ix (.var 0) (.int 0)) (.int 3))),some (.chn .le .lt (.var 6) (.var 4) (.var 7))⟩]) (.lst [])) [.ret (.tup [(.str "shut"),(.var 3)])] [],.asg (.name 5) (.ix (.var 0) (.int 1)),.ifs (.cmp .gt (.var 2) (.int 0)) [.asg (.name 5) (.tup [(.ix (.ix (.ix (.var 0) (.int 2)) (.ix (.ix (.var 1) (.bin .sub (.var 2) (.int 1))) (.int 0))) (.int 0)),(.ix (.ix (.var 1) (.bin .sub (.var 2) (.int 1))) (.int 1))])] [],.ifs (.and (.cmp .isnot (.var 5) .non) (.cmp .lt (.var 4) (.bin .add (.ix (.var 5) (.int 1)) (.ix (.ix (.ix (.ix (.var 0) (.int 0)) (.int 2)) (.ix (.var 5) (.int 0))) (.ix (.ix (.ix (.var 0) (.int 2)) (.var 3)) (.int 0)))))) [.ret (.tup [(.str "gap"),(.var 3)])] [],.ret .non]
noncomputable def kU:List CS:=[.for_ (.name 2) (.r1 (.len (.var 1))) [.asg (.name 3) (.call fJ [(.var 0),(.var 1),(.var 2)]),.ifs (.cmp .isnot (.var 3) .non) [.ret (.var 3)] []],.asg (.name 4) (.comp ["_law_one"] (.ix (.var 9) (.int 0)) [⟨(.name 9),(.val (.var 1)),none⟩]),.asg (.name 5) (.comp ["_law_g"] (.var 9) [⟨(.name 9),(.r1 (.len (.ix (.var 0) (.int 2)))),some (.cmp .notin (.var 9) (.var 4))⟩]),.ifs (.cmp .ne (.var 5) (.lst [])) [.ret (.tup [(.str "lacks"),(.ix (.var 5) (.int 0))])] [],.for_ (.name 6) (.r1 (.mxL (.bin .add (.lst [(.int 0)]) (.comp ["_law_glider_here"] (.bin .add (.ix (.var 9) (.int 1)) (.int 1)) [⟨(.name 9),(.val (.ix (.var 0) (.int 2))),none⟩])))) [.ifs (.cmp .gt (.len (.comp ["_law_one"] (.var 9) [⟨(.name 9),(.val (.var 1)),some (.call f8 [(.var 0),(.var 9),(.var 6)])⟩])) (.ix (.ix (.var 0) (.int 0)) (.int 0))) [.ret (.tup [(.str "rings"),(.var 6)])] []],.for_ (.tup [(.name 2),(.name 7)]) (.en (.var 1)) [.asg (.name 8) (.ix (.ix (.var 0) (.int 2)) (.ix (.var 7) (.int 0))),.ifs (.and (.cmp .gt (.ix (.var 8) (.int 6)) (.int 0)) (.cmp .gt (.call m7 [(.var 0),(.var 1),(.var 2),(.ix (.var 8) (.int 1))]) (.ix (.var 8) (.int 6)))) [.ret (.tup [(.str "ring"),(.ix (.var 7) (.int 0))])] []],.ret .non]
noncomputable def dR:List CS:=[.asg (.name 2) .non,.for_ (.name 3) (.r1 (.int 8)) [.asg (.name 4) (.call eJ [(.var 1),(.call f7 [(.var 0),(.var 1)])]),.ifs (.and (.cmp .is (.var 2) .non) (.cmp .is (.call cw [(.var 1),(.var 4)]) .non)) [.asg (.name 2) (.var 4)] []],.ifs (.cmp .is (.var 2) .non) [.ret .non] [],.asg (.name 5) (.comp ["_law_one"] (.ix (.var 10) (.int 0)) [⟨(.name 10),(.val (.var 2)),none⟩]),.asg (.tup [(.name 6),(.name 7)]) (.tup [(.call ad [(.var 0),(.bin .add (.len (.var 5)) (.int 1))]),(.call ad [(.var 0),(.int 7)])]),.asg (.name 8) (.comp ["_law_g", "_law_glider_here"] (.bin .add (.bin .add (.sl (.var 11) none (some (.int 2))) (.tup [(.bin .add (.ix (.var 11) (.int 2)) (.bin .mul (.var 7) (.intOf (.cmp .isin (.var 10) (.sl (.var 5) (some (.var 6)) none)))))])) (.sl (.var 11) (some (.int 3)) none)) [⟨(.tup [(.name 10),(.name 11)]),(.en (.ix (.var 1) (.int 2))),none⟩]),.asg (.name 9) (.call eJ [(.tup [(.ix (.var 1) (.int 0)),(.ix (.var 1) (.int 1)),(.var 8),(.ix (.var 1) (.int 3))]),(.var 5)]),.ifs (.cmp .is (.call cw [(.var 1),(.var 9)]) .non) [.ret (.var 9)] [],.ret (.var 2)]
noncomputable def jE:List CS:=[.asg (.name 3) (.listOf (.var 1)),.asg (.name 4) (.call ad [(.var 0),(.int 8)]),.ifs (.or (.cmp .eq (.var 3) (.lst [])) (.cmp .eq (.var 4) (.int 0))) [.ex (.ins (.var 3) (.call ad [(.var 0),(.bin .add (.len (.var 3)) (.int 1))]) (.tup [(.bin .sub (.call ad [(.var 0),(.bin .add (.len (.ix (.var 2) (.int 2))) (.int 2))]) (.int 1)),(.call ad [(.var 0),(.int 120)])])),.ret (.var 3)] [],.asg (.tup [(.name 5),(.name 6)]) (.tup [(.call ad [(.var 0),(.len (.var 3))]),(.call ad [(.var 0),(.len (.var 3))])]),.asg (.tup [(.name 7),(.name 8)]) (.ix (.var 3) (.var 5)),.ifs (.cmp .eq (.var 4) (.int 1)) [.ex (.popAt (.var 3) (.var 5))] [.ifs (.cmp .eq (.var 4) (.int 2)) [.swp (.tup [(.ix (.var 3) (.var 6)),(.ix (.var 3) (.var 5))]) (.var 3) (.var 5) (.var 3) (.var 6)] [.ifs (.cmp .eq (.var 4) (.int 3)) [.setI (.tup [(.ix (.ix (.var 3) (.var 6)) (.int 0)),(.var 8)]) (.var 3) (.var 5)] [.ifs (.cmp .eq (.var 4) (.int 4)) [.setI (.tup [(.ix (.lst [(.neg (.int 1)),(.len (.ix (.var 2) (.int 2))),(.bin .pow (.int 10) (.int 20))]) (.call ad [(.var 0),(.int 3)])),(.var 8)]) (.var 3) (.var 5)] [.ifs (.cmp .eq (.var 4) (.int 5)) [.setI (.tup [(.var 7),(.bin .add (.var 8) (.ix (.lst [(.neg (.int 1)),(.int 1),(.bin .pow (.int 10) (.int 20)),(.neg (.bin .pow (.int 10) (.int 20)))]) (.call ad [(.var 0),(.int 4)])))]) (.var 3) (.var 5)] [.asg (.name 3) (.bin .add (.sl (.var 3) none (some (.var 5))) (.comp ["_law_h", "_law_when"] (.tup [(.var 9),(.bin .add (.var 10) (.int 1))]) [⟨(.tup [(.name 9),(.name 10)]),(.val (.sl (.var 3) (some (.var 5)) none)),none⟩]))]]]]],.ret (.var 3)]
noncomputable def o7:List CS:=[.asg (.name 1) (.lst [.non,(.bl true),(.bl false),(.neg (.int 1)),(.bin .pow (.int 10) (.int 30)),(.str ""),(.str "a"),(.str "1"),(.tup []),(.lst []),.dic0,(.lst [(.tup [])]),(.tup [(.tup [])]),(.tup [(.int 0)]),(.lst [(.int 0)]),(.dic1 0 1),(.tup [(.bl true),(.bl true)])]),.ret (.ix (.var 1) (.call ad [(.var 0),(.len (.var 1))]))]
noncomputable def iu:List CS:=[.ifs (.not (.inst .list (.var 0))) [.ret (.bl false)] [],.for_ (.name 1) (.val (.var 0)) [.ifs (.or (.not (.inst .tuple (.var 1))) (.or (.cmp .ne (.len (.var 1)) (.int 2)) (.or (.not (.call fY [(.ix (.var 1) (.int 0))])) (.not (.call fY [(.ix (.var 1) (.int 1))]))))) [.ret (.bl false)] []],.ret (.bl true)]
noncomputable def jF:List CS:=[.asg (.name 2) (.lst [(.tupOf (.var 1)),(.comp ["_law_one"] (.listOf (.var 3)) [⟨(.name 3),(.val (.var 1)),none⟩]),(.call jZ [(.var 0)]),(.lst [(.call jZ [(.var 0)])])]),.ex (.app (.var 2) (.bin .add (.comp ["_law_g", "_law_minute"] (.tup [(.var 3),(.bl true)]) [⟨(.tup [(.name 3),(.name 4)]),(.val (.var 1)),none⟩]) (.lst [(.tup [(.bl false),(.int 3)])]))),.ex (.app (.var 2) (.bin .add (.var 1) (.lst [(.tup [(.int 0)])]))),.ret (.var 2)]
noncomputable def sy:List CS:=[.for_ (.name 1) (.r1 (.mx (.int 1) (.mn (.len (.var 0)) (.int 10)))) [.asg (.name 2) (.call oX [(.call ic [(.var 0),(.var 1)])]),.asg (.name 3) (.call oY [(.var 2),(.int 6)]),.asg (.name 4) (.rep (.var 3)),.asg (.name 5) (.comp ["_law_turn"] (.call eJ [(.var 3),(.call f7 [(.var 2),(.var 3)])]) [⟨(.name 13),(.r1 (.int 3)),none⟩]),.asg (.name 6) (.call ie [(.var 2),(.var 3)]),.ifs (.cmp .isnot (.var 6) .non) [.asg (.name 5) (.bin .add (.var 5) (.bin .mul (.lst [(.var 6)]) (.int 4)))] [],.for_ (.name 7) (.val (.var 5)) [.asg (.name 8) (.var 7),.for_ (.name 9) (.r1 (.call ad [(.var 2),(.int 4)])) [.asg (.name 8) (.call jx [(.var 2),(.var 8),(.var 3)])],.for_ (.name 10) (.val (.lst [(.var 7),(.var 8)])) [.asg (.name 11) (.listOf (.var 10)),.ifs (.or (.cmp .ne (.rep (.call qz [(.var 3),(.var 11)])) (.rep (.cmp .is (.call cw [(.var 3),(.var 10)]) .non))) (.cmp .ne (.var 11) (.var 10))) [.ret (.bl false)] []]],.for_ (.name 12) (.val (.call jy [(.var 2),(.ix (.var 5) (.int 0))])) [.ifs (.cmp .ne (.rep (.call qz [(.var 3),(.var 12)])) (.rep (.and (.call ig [(.var 12)]) (.cmp .is (.call cw [(.var 3),(.var 12)]) .non)))) [.ret (.bl false)] []],.ifs (.cmp .ne (.rep (.var 3)) (.var 4)) [.ret (.bl false)] []],.ret (.bl true)]
noncomputable def iI:DefE:=⟨"is_whole", top 5,["thing"],["thing"],m8⟩
noncomputable def ga:DefE:=⟨"is_within", top 6,["thing", "least", "most"],["thing", "least", "most"],kG⟩
noncomputable def gc:DefE:=⟨"is_minute", top 7,["thing"],["thing"],kH⟩
noncomputable def iJ:DefE:=⟨"is_tuple", top 8,["thing", "least", "most"],["thing", "least", "most"],m9⟩
noncomputable def ff:DefE:=⟨"are_unlike", top 9,["thing", "many"],["thing", "many"],jz⟩
noncomputable def gf:DefE:=⟨"is_meadow", top 16,["thing", "rings", "sink", "gaps", "shuts"],["thing"],kI⟩
noncomputable def iK:DefE:=⟨"are_gaps", top 17,["thing"],["thing"],nc⟩
noncomputable def fg:DefE:=⟨"is_gap_row", top 18,["thing", "many"],["thing", "many"],jA⟩
noncomputable def bc:DefE:=⟨"no_glider_between_helps", top 19,["gaps", "kinds"],["gaps"],bO⟩
noncomputable def gg:DefE:=⟨"are_shuts", top 20,["thing"],["thing"],kJ⟩
noncomputable def fh:DefE:=⟨"is_stretch", top 21,["thing"],["thing"],jB⟩
noncomputable def j4:DefE:=⟨"is_kind", top 22,["meadow", "thing"],["meadow", "thing"],oZ⟩
noncomputable def j5:DefE:=⟨"is_shut", top 23,["meadow", "minute"],["meadow", "minute"],o0⟩
noncomputable def nt:DefE:=⟨"is_sky", top 27,["thing", "meadow", "ahead", "gliders", "fixed"],["thing"],sx⟩
noncomputable def iM:DefE:=⟨"is_ahead", top 28,["meadow", "thing"],["meadow", "thing"],ng⟩
noncomputable def dS:DefE:=⟨"are_gliders", top 29,["meadow", "thing"],["meadow", "thing"],im⟩
noncomputable def gh:DefE:=⟨"is_glider", top 30,["meadow", "thing", "kind", "joins", "first", "last", "due", "weight", "ring"],["meadow", "thing"],kK⟩
noncomputable def gk:DefE:=⟨"are_fixed", top 31,["gliders", "thing"],["gliders", "thing"],kL⟩
noncomputable def gm:DefE:=⟨"check_sky", top 32,["thing"],["thing"],kM⟩
noncomputable def qA:DefE:=⟨"keeps", top 35,["sky", "thing"],["sky", "thing"],wn⟩
noncomputable def gn:DefE:=⟨"keeps_sky", top 36,["sky", "thing"],["sky", "thing"],kN⟩
noncomputable def gq:DefE:=⟨"are_pairs", top 37,["thing"],["thing"],kO⟩
noncomputable def j6:DefE:=⟨"is_pair", top 38,["thing"],["thing"],o3⟩
noncomputable def dU:DefE:=⟨"first_amiss", top 39,["sky", "landings", "place", "word", "lacking", "crowded", "high"],["sky", "landings"],io⟩
noncomputable def cC:DefE:=⟨"landing_amiss", top 40,["sky", "landings", "place", "meadow", "ahead", "gliders", "fixed", "glider"],["sky", "landings", "place"],fK⟩
noncomputable def dn:DefE:=⟨"minute_amiss", top 41,["sky", "landings", "place", "meadow", "ahead", "gliders", "fixed", "number", "minute", "kind", "joins", "first", "last", "due", "weight", "ring"],["sky", "landings", "place"],f9⟩
noncomputable def cD:DefE:=⟨"landing_ahead", top 42,["sky", "sooner", "number", "minute"],["sky", "sooner"],fL⟩
noncomputable def j7:DefE:=⟨"gap_end", top 43,["sky", "ahead", "kind"],["sky", "ahead", "kind"],o4⟩
noncomputable def cE:DefE:=⟨"first_lacking", top 44,["sky", "landings", "landed", "number"],["sky", "landings"],fM⟩
noncomputable def iO:DefE:=⟨"waits_at", top 45,["sky", "landing", "minute", "number", "lands"],["sky", "landing", "minute"],ni⟩
noncomputable def cF:DefE:=⟨"how_many_wait", top 46,["sky", "landings", "minute"],["sky", "landings", "minute"],fN⟩
noncomputable def b6:DefE:=⟨"joining_minutes", top 47,["sky"],["sky"],dI⟩
noncomputable def cG:DefE:=⟨"first_crowded", top 48,["sky", "landings", "minute"],["sky", "landings"],fO⟩
noncomputable def cg:DefE:=⟨"first_too_high", top 49,["sky", "landings", "place", "landing"],["sky", "landings"],eK⟩
noncomputable def dW:DefE:=⟨"is_too_high", top 50,["sky", "landings", "place", "kind", "joins", "first", "last", "due", "weight", "ring"],["sky", "landings", "place"],ip⟩
noncomputable def dX:DefE:=⟨"ring_needed", top 51,["sky", "landings", "place", "minute", "sooner", "later"],["sky", "landings", "place", "minute"],iq⟩
noncomputable def dY:DefE:=⟨"_law_cell_at", top 53,["_law_script", "_law_k"],["_law_script", "_law_k"],ir⟩
noncomputable def j8:DefE:=⟨"_law_pot", top 54,["_law_cell", "_law_number", "_law_j", "_law_more"],["_law_cell"],o5⟩
noncomputable def iP:DefE:=⟨"_law_take", top 55,["_law_pot_here", "_law_far", "_law_found"],["_law_pot_here", "_law_far"],nj⟩
noncomputable def gr:DefE:=⟨"_law_whole", top 56,["_law_thing"],["_law_thing"],kP⟩
noncomputable def iQ:DefE:=⟨"_law_gaps", top 57,["_law_pot_here", "_law_many", "_law_rows", "_law_c"],["_law_pot_here"],dh⟩
noncomputable def gu:DefE:=⟨"_law_shuts", top 58,["_law_pot_here", "_law_now", "_law_found", "_law_begin", "_law_turn"],["_law_pot_here", "_law_now"],kQ⟩
noncomputable def fj:DefE:=⟨"_law_meadow", top 59,["_law_pot_here", "_law_rings"],["_law_pot_here"],jC⟩
noncomputable def fk:DefE:=⟨"_law_glider", top 60,["_law_pot_here", "_law_meadow_here", "_law_joins", "_law_first", "_law_last", "_law_due"],["_law_pot_here", "_law_meadow_here"],jD⟩
noncomputable def gw:DefE:=⟨"_law_mixed", top 61,["_law_pot_here", "_law_some", "_law_left"],["_law_pot_here", "_law_some"],kR⟩
noncomputable def j9:DefE:=⟨"_law_sky", top 62,["_law_pot_here", "_law_most", "_law_meadow_here", "_law_gliders", "_law_numbers", "_law_fixed", "_law_g", "_law_ahead"],["_law_pot_here", "_law_most"],j3⟩
noncomputable def gx:DefE:=⟨"_law_order", top 63,["_law_pot_here", "_law_sky_here"],["_law_pot_here", "_law_sky_here"],kS⟩
noncomputable def iR:DefE:=⟨"_law_open", top 64,["_law_shuts_here", "_law_minute", "_law_found", "_law_turn", "_law_begin", "_law_end"],["_law_shuts_here", "_law_minute"],np⟩
noncomputable def kc:DefE:=⟨"_law_run", top 65,["_law_sky_here", "_law_order_here", "_law_found", "_law_ahead", "_law_g", "_law_minute"],["_law_sky_here", "_law_order_here"],o6⟩
noncomputable def gy:DefE:=⟨"_law_waits", top 66,["_law_sky_here", "_law_one", "_law_minute"],["_law_sky_here", "_law_one", "_law_minute"],kT⟩
noncomputable def iS:DefE:=⟨"_law_need", top 67,["_law_sky_here", "_law_landings", "_law_k", "_law_minute", "_law_found", "_law_when"],["_law_sky_here", "_law_landings", "_law_k", "_law_minute"],nq⟩
noncomputable def cH:DefE:=⟨"_law_one_amiss", top 68,["_law_sky_here", "_law_landings", "_law_k", "_law_g", "_law_minute", "_law_ahead"],["_law_sky_here", "_law_landings", "_law_k"],be⟩
noncomputable def gz:DefE:=⟨"_law_amiss", top 69,["_law_sky_here", "_law_landings", "_law_k", "_law_found", "_law_landed", "_law_lacking", "_law_minute", "_law_one", "_law_glider_here"],["_law_sky_here", "_law_landings"],kU⟩
noncomputable def dZ:DefE:=⟨"_law_landing", top 70,["_law_pot_here", "_law_sky_here", "_law_found", "_law_turn", "_law_landings", "_law_later", "_law_at", "_law_more", "_law_gliders", "_law_slow"],["_law_pot_here", "_law_sky_here"],dR⟩
noncomputable def fm:DefE:=⟨"_law_turned", top 71,["_law_pot_here", "_law_landings", "_law_sky_here", "_law_found", "_law_way", "_law_at", "_law_other", "_law_g", "_law_minute"],["_law_pot_here", "_law_landings", "_law_sky_here"],jE⟩
noncomputable def kf:DefE:=⟨"_law_odd", top 72,["_law_pot_here", "_law_some"],["_law_pot_here"],o7⟩
noncomputable def ef:DefE:=⟨"_law_is_list", top 73,["_law_thing", "_law_one"],["_law_thing"],iu⟩
noncomputable def fo:DefE:=⟨"_law_others", top 74,["_law_pot_here", "_law_landings", "_law_some"],["_law_pot_here", "_law_landings"],jF⟩
noncomputable def wo:DefE:=⟨"law", top 75,["_law_script", "_law_k", "_law_pot_here", "_law_sky_here", "_law_kept", "_law_rows", "_law_right", "_law_row", "_law_some", "_law_turn", "_law_landings", "_law_handed", "_law_thing"],["_law_script"],sy⟩
noncomputable def af:List DefE:=[iI,ga,gc,iJ,ff,gf,iK,fg,bc,gg,fh,j4,j5,nt,iM,dS,gh,gk,gm,qA,gn,gq,j6,dU,cC,dn,cD,j7,cE,iO,cF,b6,cG,cg,dW,dX,dY,j8,iP,gr,iQ,gu,fj,fk,gw,j9,gx,iR,kc,gy,iS,cH,gz,dZ,fm,kf,ef,fo,wo]
noncomputable def con:List (Str × Int):=[("LAST_MINUTE", 9999),("MOST_RINGS", 8),("MOST_SINK", 60),("MOST_KINDS", 4),("MOST_GAP", 99),("MOST_SHUTS", 4),("MOST_GLIDERS", 7),("MOST_WEIGHT", 99),("MOST_LANDINGS", 20)]
end Lw
namespace Lw
open PySem Ev
theorem chk:af.all (DK (wd con af))=true:=by kernel_rfl
theorem us1:∀ {us:List Value},us.length=1->∃ a0,us=[a0]
 | [a0],_=>⟨a0,rfl⟩
theorem us2:∀ {us:List Value},us.length=2->∃ a0 a1,us=[a0,a1]
 | [a0,a1],_=>⟨a0,a1,rfl⟩
theorem us3:∀ {us:List Value},us.length=3->∃ a0 a1 a2,us=[a0,a1,a2]
 | [a0,a1,a2],_=>⟨a0,a1,a2,rfl⟩
theorem us4:∀ {us:List Value},us.length=4->∃ a0 a1 a2 a3,us=[a0,a1,a2,a3]
 | [a0,a1,a2,a3],_=>⟨a0,a1,a2,a3,rfl⟩
theorem bind:yc af:=
 ⟨fun _ _ _ _ _ _ us hl=>by obtain ⟨_,rfl⟩:=us1 hl;rfl,
  fun _ _ _ _ _ _ us hl=>by obtain ⟨_,_,_,rfl⟩:=us3 hl;rfl,
  fun _ _ _ _ _ _ us hl=>by obtain ⟨_,rfl⟩:=us1 hl;rfl,
  fun _ _ _ _ _ _ us hl=>by obtain ⟨_,_,_,rfl⟩:=us3 hl;rfl,
  fun _ _ _ _ _ _ us hl=>by obtain ⟨_,_,rfl⟩:=us2 hl;rfl,
  fun _ _ _ _ _ _ us hl=>by obtain ⟨_,rfl⟩:=us1 hl;rfl,
  fun _ _ _ _ _ _ us hl=>by obtain ⟨_,rfl⟩:=us1 hl;rfl,
  fun _ _ _ _ _ _ us hl=>by obtain ⟨_,_,rfl⟩:=us2 hl;rfl,
  fun _ _ _ _ _ _ us hl=>by obtain ⟨_,rfl⟩:=us1 hl;rfl,
  fun _ _ _ _ _ _ us hl=>by obtain ⟨_,rfl⟩:=us1 hl;rfl,
  fun _ _ _ _ _ _ us hl=>by obtain ⟨_,rfl⟩:=us1 hl;rfl,
  fun _ _ _ _ _ _ us hl=>by obtain ⟨_,_,rfl⟩:=us2 hl;rfl,
  fun _ _ _ _ _ _ us hl=>by obtain ⟨_,_,rfl⟩:=us2 hl;rfl,
  fun _ _ _ _ _ _ us hl=>by obtain ⟨_,rfl⟩:=us1 hl;rfl,
  fun _ _ _ _ _ _ us hl=>by obtain ⟨_,_,rfl⟩:=us2 hl;rfl,
  fun _ _ _ _ _ _ us hl=>by obtain ⟨_,_,rfl⟩:=us2 hl;rfl,
  fun _ _ _ _ _ _ us hl=>by obtain ⟨_,_,rfl⟩:=us2 hl;rfl,
  fun _ _ _ _ _ _ us hl=>by obtain ⟨_,_,rfl⟩:=us2 hl;rfl,
  fun _ _ _ _ _ _ us hl=>by obtain ⟨_,rfl⟩:=us1 hl;rfl,
  fun _ _ _ _ _ _ us hl=>by obtain ⟨_,_,rfl⟩:=us2 hl;rfl,
  fun _ _ _ _ _ _ us hl=>by obtain ⟨_,_,rfl⟩:=us2 hl;rfl,
  fun _ _ _ _ _ _ us hl=>by obtain ⟨_,rfl⟩:=us1 hl;rfl,
  fun _ _ _ _ _ _ us hl=>by obtain ⟨_,rfl⟩:=us1 hl;rfl,
  fun _ _ _ _ _ _ us hl=>by obtain ⟨_,_,rfl⟩:=us2 hl;rfl,
  fun _ _ _ _ _ _ us hl=>by obtain ⟨_,_,_,rfl⟩:=us3 hl;rfl,
  fun _ _ _ _ _ _ us hl=>by obtain ⟨_,_,_,rfl⟩:=us3 hl;rfl,
  fun _ _ _ _ _ _ us hl=>by obtain ⟨_,_,rfl⟩:=us2 hl;rfl,
  fun _ _ _ _ _ _ us hl=>by obtain ⟨_,_,_,rfl⟩:=us3 hl;rfl,
  fun _ _ _ _ _ _ us hl=>by obtain ⟨_,_,rfl⟩:=us2 hl;rfl,
  fun _ _ _ _ _ _ us hl=>by obtain ⟨_,_,_,rfl⟩:=us3 hl;rfl,
  fun _ _ _ _ _ _ us hl=>by obtain ⟨_,_,_,rfl⟩:=us3 hl;rfl,
  fun _ _ _ _ _ _ us hl=>by obtain ⟨_,rfl⟩:=us1 hl;rfl,
  fun _ _ _ _ _ _ us hl=>by obtain ⟨_,_,rfl⟩:=us2 hl;rfl,
  fun _ _ _ _ _ _ us hl=>by obtain ⟨_,_,rfl⟩:=us2 hl;rfl,
  fun _ _ _ _ _ _ us hl=>by obtain ⟨_,_,_,rfl⟩:=us3 hl;rfl,
  fun _ _ _ _ _ _ us hl=>by obtain ⟨_,_,_,_,rfl⟩:=us4 hl;rfl,
  fun _ _ _ _ _ _ us hl=>by obtain ⟨_,_,rfl⟩:=us2 hl;rfl,
  fun _ _ _ _ _ _ us hl=>by obtain ⟨_,rfl⟩:=us1 hl;rfl,
  fun _ _ _ _ _ _ us hl=>by obtain ⟨_,_,rfl⟩:=us2 hl;rfl,
  fun _ _ _ _ _ _ us hl=>by obtain ⟨_,rfl⟩:=us1 hl;rfl,
  fun _ _ _ _ _ _ us hl=>by obtain ⟨_,rfl⟩:=us1 hl;rfl,
  fun _ _ _ _ _ _ us hl=>by obtain ⟨_,_,rfl⟩:=us2 hl;rfl,
  fun _ _ _ _ _ _ us hl=>by obtain ⟨_,rfl⟩:=us1 hl;rfl,
  fun _ _ _ _ _ _ us hl=>by obtain ⟨_,_,rfl⟩:=us2 hl;rfl,
  fun _ _ _ _ _ _ us hl=>by obtain ⟨_,_,rfl⟩:=us2 hl;rfl,
  fun _ _ _ _ _ _ us hl=>by obtain ⟨_,_,rfl⟩:=us2 hl;rfl,
  fun _ _ _ _ _ _ us hl=>by obtain ⟨_,_,rfl⟩:=us2 hl;rfl,
  fun _ _ _ _ _ _ us hl=>by obtain ⟨_,_,rfl⟩:=us2 hl;rfl,
  fun _ _ _ _ _ _ us hl=>by obtain ⟨_,_,rfl⟩:=us2 hl;rfl,
  fun _ _ _ _ _ _ us hl=>by obtain ⟨_,_,_,rfl⟩:=us3 hl;rfl,
  fun _ _ _ _ _ _ us hl=>by obtain ⟨_,_,_,_,rfl⟩:=us4 hl;rfl,
  fun _ _ _ _ _ _ us hl=>by obtain ⟨_,_,_,rfl⟩:=us3 hl;rfl,
  fun _ _ _ _ _ _ us hl=>by obtain ⟨_,_,rfl⟩:=us2 hl;rfl,
  fun _ _ _ _ _ _ us hl=>by obtain ⟨_,_,rfl⟩:=us2 hl;rfl,
  fun _ _ _ _ _ _ us hl=>by obtain ⟨_,_,_,rfl⟩:=us3 hl;rfl,
  fun _ _ _ _ _ _ us hl=>by obtain ⟨_,rfl⟩:=us1 hl;rfl,
  fun _ _ _ _ _ _ us hl=>by obtain ⟨_,rfl⟩:=us1 hl;rfl,
  fun _ _ _ _ _ _ us hl=>by obtain ⟨_,_,rfl⟩:=us2 hl;rfl,
  fun _ _ _ _ _ _ us hl=>by obtain ⟨_,rfl⟩:=us1 hl;rfl,trivial⟩
end Lw
section
open PySem PySem.W PyProof.Rows
noncomputable abbrev Lw.view:Program:={ PySem.Challenge.pw_downrings_k11_landings_kept with main:={ PySem.Challenge.pw_downrings_k11_landings_kept.main with body:=[Lw.top 75] } }
noncomputable abbrev Lw.loose:List PySem.Str:=[Str.ofString "is_whole", Str.ofString "is_within", Str.ofString "is_minute", Str.ofString "is_tuple", Str.ofString "are_unlike", Str.ofString "is_meadow", Str.ofString "are_gaps", Str.ofString "is_gap_row", Str.ofString "no_glider_between_helps", Str.ofString "are_shuts", Str.ofString "is_stretch", Str.ofString "is_kind", Str.ofString "is_shut", Str.ofString "is_sky", Str.ofString "is_ahead", Str.ofString "are_gliders", Str.ofString "is_glider", Str.ofString "are_fixed", Str.ofString "check_sky", Str.ofString "keeps", Str.ofString "keeps_sky", Str.ofString "are_pairs", Str.ofString "is_pair", Str.ofString "first_amiss", Str.ofString "landing_amiss", Str.ofString "minute_amiss", Str.ofString "landing_ahead", Str.ofString "gap_end", Str.ofString "first_lacking", Str.ofString "waits_at", Str.ofString "how_many_wait", Str.ofString "joining_minutes", Str.ofString "first_crowded", Str.ofString "first_too_high", Str.ofString "is_too_high", Str.ofString "ring_needed", Str.ofString "_law_cell_at", Str.ofString "_law_pot", Str.ofString "_law_take", Str.ofString "_law_whole", Str.ofString "_law_gaps", Str.ofString "_law_shuts", Str.ofString "_law_meadow", Str.ofString "_law_glider", Str.ofString "_law_mixed", Str.ofString "_law_sky", Str.ofString "_law_order", Str.ofString "_law_open", Str.ofString "_law_run", Str.ofString "_law_waits", Str.ofString "_law_need", Str.ofString "_law_one_amiss", Str.ofString "_law_amiss", Str.ofString "_law_landing", Str.ofString "_law_turned", Str.ofString "_law_odd", Str.ofString "_law_is_list", Str.ofString "_law_others", Str.ofString "LAST_MINUTE", Str.ofString "MOST_RINGS", Str.ofString "MOST_SINK", Str.ofString "MOST_KINDS", Str.ofString "MOST_GAP", Str.ofString "MOST_SHUTS", Str.ofString "MOST_GLIDERS", Str.ofString "MOST_WEIGHT", Str.ofString "MOST_LANDINGS", Str.ofString "RingError", Str.ofString "NoSky"]
set_option maxHeartbeats 0 in
theorem Lw.said:PySem.Challenge.rw_downrings_k11_landings_kept.wellSaid=true:=by kernel_rfl
set_option maxHeartbeats 0 in
theorem Lw.head (hmain:∀ ns:List Int,ns.length<=63->∃ S',Ev.evC Lw.af 40 Lw.wm [.ref 0] [.frz (ns.map Ev.D.int)]=some (.bl true,S')):PySem.Challenge.rw_downrings_k11_landings_kept.Holds:=by
 w_on;refine holds_law Lw.said fun said=>?_
 refine holds_open (q:=Lw.view) (loose:=Lw.loose) (Xt:=fun s=>xlAt Lw.view [] s && recOk (RowW.records PySem.Challenge.rw_downrings_k11_landings_kept.row.toRowW) s) (XP:=XL Lw.view []) (Yf:=Hook.obs (Ev.qy Lw.con Lw.af Lw.bind)) (Ya:=Hook.val (Ev.qy Lw.con Lw.af Lw.bind)) (YP:=Hook.says (Ev.qy Lw.con Lw.af Lw.bind)) (N:=12000) ?hl (Hook.of _) (Hook.keeps _) (fun s e=>xl_of s (Xa.mp e).1) XL.keeps (by rfl) (by rfl) (by rfl) (fun s e=>recFacts_of (Xa.mp e).2) (by rfl) (by first | assumption | decide +kernel) (by decide +kernel) ⟨rfl,rfl,rfl,rfl,rfl,by decide +kernel⟩ ?hw ?hc
 case hw=>w_witness2
 case hl=>exact fun w=>by kernel_rfl
 case hc=>exact Ev.DP (l:=PySem.Challenge.rw_downrings_k11_landings_kept) (n:=63) (k:=40) (i:=Lw.wm) (dl:=Lw.wo) rfl (by decide) rfl ⟨rfl,by decide,by decide,rfl⟩ rfl rfl rfl Lw.chk hmain
end
namespace Ev
open PySem PySem.Spec PyProof.Rows L2
noncomputable def Ok {α:Type} (x:Option (α × Sto)) (Q:α->Sto->Prop):Prop:=∃ a S,x=some (a,S)/\Q a S
noncomputable def OkS (x:Option (Fl × Rho × Sto)) (Q:Fl->Rho->Sto->Prop):Prop:=∃ f ρ S,x=some (f,ρ,S)/\Q f ρ S
section
variable {α β:Type} {S S':Sto} {ρ ρ':Rho}
theorem al {a:α} {Q:α->Sto->Prop}:Ok (some (a,S)) Q=Q a S:=by
 apply propext;exact ⟨fun ⟨_,_,e,q⟩=>by cases e;exact q,fun q=>⟨a,S,rfl,q⟩⟩
theorem aZ {Q:α->Sto->Prop}:Ok none Q=False:=propext ⟨fun ⟨_,_,e,_⟩=>(nomatch e),fun h=>h.elim⟩
theorem bJ {x:Option (α × Sto)} {f:α->Sto->Option (β × Sto)} {Q:β->Sto->Prop}:Ok (bnd x f) Q=Ok x fun a S=>Ok (f a S) Q:=by
 apply propext;constructor
 ·rintro ⟨b,S',e,q⟩;obtain ⟨a,S,e1,e2⟩:=ae e;exact ⟨a,S,e1,b,S',e2,q⟩
 ·rintro ⟨a,S,e1,b,S',e2,q⟩;exact ⟨b,S',by rw [e1];exact e2,q⟩
theorem dq {c:Prop} [Decidable c] {x y:Option (α × Sto)} {Q:α->Sto->Prop}:Ok (if c then x else y) Q=if c then Ok x Q else Ok y Q:=by split <;> rfl
theorem IU {x:Option β} {f:β->α × Sto} {Q:α->Sto->Prop}:Ok (x.map f) Q=∃ b,x=some b/\Q (f b).1 (f b).2:=by
 apply propext;cases x with
 | none=>exact ⟨fun ⟨_,_,e,_⟩=>(nomatch e),fun ⟨_,e,_⟩=>(nomatch e)⟩
 | some b=>exact ⟨fun ⟨a,S,e,q⟩=>⟨b,rfl,by have e':=Option.some.inj e;rw [e'];exact q⟩,fun ⟨b',e,q⟩=>by cases e;exact ⟨_,_,rfl,q⟩⟩
theorem Ok.mono {x:Option (α × Sto)} {Q Q':α->Sto->Prop} (h:Ok x Q) (f:∀ a S,Q a S->Q' a S):Ok x Q':=let ⟨a,S,e,q⟩:=h;⟨a,S,e,f a S q⟩
theorem OkS.mono {x:Option (Fl × Rho × Sto)} {Q Q':Fl->Rho->Sto->Prop} (h:OkS x Q) (f:∀ a ρ S,Q a ρ S->Q' a ρ S):OkS x Q':=let ⟨a,ρ,S,e,q⟩:=h;⟨a,ρ,S,e,f a ρ S q⟩
noncomputable def nxt (y:XS) (Q:Fl->Rho->Sto->Prop) (f:Fl) (ρ:Rho) (S:Sto):Prop:=match f with
 | .nx=>OkS (y ρ S) Q
 | f=>Q f ρ S
theorem DQ {x y:XS} {Q:Fl->Rho->Sto->Prop}:OkS (zV x y ρ S) Q=OkS (x ρ S) (nxt y Q):=by
 apply propext;unfold zV;constructor
 ·rintro ⟨f,ρ1,S1,e,q⟩;split at e
  ·cases e
  ·rename_i ρ2 S2 h;exact ⟨_,_,_,h,f,ρ1,S1,e,q⟩
  ·rename_i r n h;cases e;cases f with
   | nx=>exact absurd rfl (n ρ1 S1)
   | _=>exact ⟨_,_,_,h,q⟩
 ·rintro ⟨f,ρ1,S1,e,q⟩;rw [e];cases f with
  | nx=>exact q
  | _=>exact ⟨_,_,_,rfl,q⟩
theorem IV {c:XT} {x y:XS} {Q:Fl->Rho->Sto->Prop}:OkS (xIf c x y ρ S) Q=Ok (c ρ S) fun b S1=>if b=true then OkS (x ρ S1) Q else OkS (y ρ S1) Q:=by
 apply propext;unfold xIf;constructor
 ·rintro ⟨f,ρ1,S1,e,q⟩;cases h:c ρ S with
  | none=>rw [h] at e;cases e
  | some r=>
   obtain ⟨b,S2⟩:=r;rw [h] at e;refine ⟨b,S2,rfl,?_⟩;dsimp only at e ⊢;split
   ·rename_i hb;rw [if_pos hb] at e;exact ⟨f,ρ1,S1,e,q⟩
   ·rename_i hb;rw [if_neg hb] at e;exact ⟨f,ρ1,S1,e,q⟩
 ·rintro ⟨b,S2,e,q⟩;rw [e];dsimp only;split
  ·rename_i hb;rw [if_pos hb] at q;exact q
  ·rename_i hb;rw [if_neg hb] at q;exact q
theorem DR {x:XE} {t:Tg} {Q:Fl->Rho->Sto->Prop}:OkS (mF x t ρ S) Q=Ok (x ρ S) fun d S1=>∃ ρ1,ay t d ρ=some ρ1/\Q .nx ρ1 S1:=by
 apply propext;unfold mF;constructor
 ·rintro ⟨f,ρ1,S1,e,q⟩;cases h:x ρ S with
  | none=>rw [h] at e;cases e
  | some r=>
   obtain ⟨d,S2⟩:=r;rw [h] at e;dsimp only at e;cases h2:ay t d ρ with
   | none=>rw [h2] at e;cases e
   | some ρ2=>rw [h2] at e;cases e;exact ⟨d,_,rfl,ρ1,h2,q⟩
 ·rintro ⟨d,S2,e,ρ1,e2,q⟩;rw [e];dsimp only;rw [e2];exact ⟨_,_,_,rfl,q⟩
theorem AR {x:XE} {Q:Fl->Rho->Sto->Prop}:OkS (rQ x ρ S) Q=Ok (x ρ S) fun _ S1=>Q .nx ρ S1:=by
 apply propext;unfold rQ;constructor
 ·rintro ⟨f,ρ1,S1,e,q⟩;cases h:x ρ S with
  | none=>rw [h] at e;cases e
  | some r=>rw [h] at e;cases e;exact ⟨_,_,rfl,q⟩
 ·rintro ⟨d,S2,e,q⟩;rw [e];exact ⟨_,_,_,rfl,q⟩
theorem DS {x:XE} {Q:Fl->Rho->Sto->Prop}:OkS (zW x ρ S) Q=Ok (x ρ S) fun d S1=>Q (.rt d) ρ S1:=by
 apply propext;unfold zW;constructor
 ·rintro ⟨f,ρ1,S1,e,q⟩;cases h:x ρ S with
  | none=>rw [h] at e;cases e
  | some r=>rw [h] at e;cases e;exact ⟨_,_,rfl,q⟩
 ·rintro ⟨d,S2,e,q⟩;rw [e];exact ⟨_,_,_,rfl,q⟩
theorem AS {v o i:XE} {Q:Fl->Rho->Sto->Prop}:OkS (rR v o i ρ S) Q=Ok (v ρ S) fun a S1=>Ok (o ρ S1) fun b S2=>Ok (i ρ S2) fun c S3=>∃ S4,eD b c a S3=some S4/\Q .nx ρ S4:=by
 apply propext;unfold rR;constructor
 ·rintro ⟨f,ρ1,S1,e,q⟩;cases h:v ρ S with
  | none=>rw [h] at e;cases e
  | some r=>
   rw [h] at e;dsimp only at e;cases h2:o ρ r.2 with
   | none=>rw [h2] at e;cases e
   | some r2=>
    rw [h2] at e;dsimp only at e;cases h3:i ρ r2.2 with
    | none=>rw [h3] at e;cases e
    | some r3=>
     rw [h3] at e;dsimp only at e;cases h4:eD r2.1 r3.1 r.1 r3.2 with
     | none=>rw [h4] at e;cases e
     | some S4=>rw [h4] at e;cases e;exact ⟨_,_,rfl,_,_,h2,_,_,h3,_,h4,q⟩
 ·rintro ⟨a,S1,e1,b,S2,e2,c,S3,e3,S4,e4,q⟩;rw [e1];dsimp only;rw [e2];dsimp only;rw [e3];dsimp only;rw [e4];exact ⟨_,_,_,rfl,q⟩
theorem DT {it:XI} {tg:Tg} {b:XS} {k:Nat} {Q:Fl->Rho->Sto->Prop}:OkS (zZ it tg b k ρ S) Q=Ok (it ρ S) fun nx S1=>OkS (eF nx tg b k 0 ρ S1) Q:=by
 apply propext;unfold zZ;constructor
 ·rintro ⟨f,ρ1,S1,e,q⟩;cases h:it ρ S with
  | none=>rw [h] at e;cases e
  | some r=>rw [h] at e;exact ⟨_,_,rfl,_,_,_,e,q⟩
 ·rintro ⟨d,S2,e,q⟩;rw [e];exact q
noncomputable def out (Q:D->Sto->Prop) (f:Fl) (_:Rho) (S:Sto):Prop:=match f with
 | .rt v=>Q v S
 | .nx=>Q .non S
 | _=>False
theorem IW {Q:D->Sto->Prop} {d:D}:out Q (.rt d) ρ S=Q d S:=rfl
theorem IX {Q:D->Sto->Prop}:out Q .nx ρ S=Q .non S:=rfl
theorem aw {af:List DefE} {k f:Nat} {d:DefE} {ds:List D} {Q:D->Sto->Prop} (hd:af[f]?=some d) (hρ:ds.map some++Zo (d.N.length - ds.length) none=ρ) (h:OkS (g9 (evC af k) (hF af) 60 d.body ρ S) (out Q)):Ok (evC af (k+1) f ds S) Q:=by
 subst hρ;simp only [evC,hd,IR];obtain ⟨fl,ρ1,S1,e,q⟩:=h;show Ok (match g9 (evC af k) (hF af) FU d.body _ S with | some (.rt v,_,S')=>some (v,S') | some (.nx,_,S')=>some (.non,S') | _=>none) Q;unfold FU;rw [e];cases fl with
 | rt v=>exact ⟨_,_,rfl,q⟩
 | nx=>exact ⟨_,_,rfl,q⟩
 | bk=>exact q.elim
 | ct=>exact q.elim
theorem o8 {nx:Nxt} {tg:Tg} {c:XA} {N:Nat} (I:Nat->List D->Sto->Prop)
  (step:∀ i acc S,i < N->I i acc S->∃ d ρ1,nx i S=some (some d)/\ay tg d ρ=some ρ1/\Ok (c ρ1 S) fun es S1=>I (i+1) (acc++es) S1) (stop:∀ acc S,I N acc S->nx N S=some none) :
  ∀ (n i k:Nat) (acc:List D) (S:Sto),N=i+n->n < k->I i acc S->Ok (bh nx tg c ρ k i S) fun es S'=>I N (acc++es) S'
 | 0,i,k+1,acc,S,hN,hk,h=>by
  obtain rfl:N=i:=by omega
  simp only [bh,stop acc S h];exact ⟨_,_,rfl,by show I _ (acc++[]) S;rw [Ye];exact h⟩
 | n+1,i,k+1,acc,S,hN,hk,h=>by
  obtain ⟨d,ρ1,e1,e2,es,S1,e3,h'⟩:=step i acc S (by omega) h;simp only [bh,e1,e2,e3,bnd];obtain ⟨rs,S2,e4,h2⟩:=o8 I step stop n (i+1) k (acc++es) S1 (by omega) (by omega) h';simp only [e4];exact ⟨_,_,rfl,by show I _ (acc++(es++rs)) S2;rw [<-Z6];exact h2⟩
theorem dr {nx:Nxt} {tg:Tg} {c:XA} {k:Nat} (N:Nat) (I:Nat->List D->Sto->Prop) (hk:N < k)
  (step:∀ i acc S,i < N->I i acc S->∃ d ρ1,nx i S=some (some d)/\ay tg d ρ=some ρ1/\Ok (c ρ1 S) fun es S1=>I (i+1) (acc++es) S1) (stop:∀ acc S,I N acc S->nx N S=some none) (h:I 0 [] S) :
  Ok (bh nx tg c ρ k 0 S) (I N):=(o8 I step stop N 0 k [] S (by omega) hk h).mono fun es S' z=>by rw [Y2] at z;exact z
theorem nu {nx:Nxt} {tg:Tg} {b:XS} {N:Nat} {Q:Fl->Rho->Sto->Prop} (I:Nat->Rho->Sto->Prop)
  (step:∀ i ρ S,i < N->I i ρ S->∃ d ρ1,nx i S=some (some d)/\ay tg d ρ=some ρ1/\OkS (b ρ1 S) fun fl ρ2 S2=>match fl with | .nx=>I (i+1) ρ2 S2 | .ct=>I (i+1) ρ2 S2 | .bk=>Q .nx ρ2 S2 | .rt d=>Q (.rt d) ρ2 S2)
  (stop:∀ ρ S,I N ρ S->nx N S=some none/\Q .nx ρ S) :
  ∀ (n i k:Nat) (ρ:Rho) (S:Sto),N=i+n->n < k->I i ρ S->OkS (eF nx tg b k i ρ S) Q
 | 0,i,k+1,ρ,S,hN,hk,h=>by
  obtain rfl:N=i:=by omega
  simp only [eF,(stop ρ S h).1];exact ⟨_,_,_,rfl,(stop ρ S h).2⟩
 | n+1,i,k+1,ρ,S,hN,hk,h=>by
  obtain ⟨d,ρ1,e1,e2,fl,ρ2,S2,e3,h'⟩:=step i ρ S (by omega) h;simp only [eF,e1,e2,e3];cases fl with
  | nx=>exact nu I step stop n (i+1) k ρ2 S2 (by omega) (by omega) h'
  | ct=>exact nu I step stop n (i+1) k ρ2 S2 (by omega) (by omega) h'
  | bk=>exact ⟨_,_,_,rfl,h'⟩
  | rt d=>exact ⟨_,_,_,rfl,h'⟩
theorem jG {nx:Nxt} {tg:Tg} {b:XS} {k:Nat} {Q:Fl->Rho->Sto->Prop} (N:Nat) (I:Nat->Rho->Sto->Prop) (hk:N < k)
  (step:∀ i ρ S,i < N->I i ρ S->∃ d ρ1,nx i S=some (some d)/\ay tg d ρ=some ρ1/\OkS (b ρ1 S) fun fl ρ2 S2=>match fl with | .nx=>I (i+1) ρ2 S2 | .ct=>I (i+1) ρ2 S2 | .bk=>Q .nx ρ2 S2 | .rt d=>Q (.rt d) ρ2 S2)
  (stop:∀ ρ S,I N ρ S->nx N S=some none/\Q .nx ρ S) (h:I 0 ρ S):OkS (eF nx tg b k 0 ρ S) Q:=nu I step stop N 0 k ρ S (by omega) hk h
end
mutual
noncomputable def TD (p:Nat) (S:Sto):Dw.D->D->Prop
 | .non,d=>d = .non
 | .bl b,d=>d = .bl b
 | .int i,d=>d = .int i
 | .str x,d=>d = .str x
 | .tup ts,d=>∃ ds,d = .tup ds/\TDs p S ts ds
 | .lst ts,d=>∃ n ds,d = .ref n/\n ≠ p/\S[n]?=some (.lst ds)/\TDs p S ts ds
 | .dic ks ts,d=>∃ n ds,d = .ref n/\n ≠ p/\S[n]?=some (.dic ks ds)/\TDs p S ts ds
noncomputable def TDs (p:Nat) (S:Sto):List Dw.D->List D->Prop
 | [],ds=>ds=[]
 | t::ts,ds=>∃ d r,ds=d::r/\TD p S t d/\TDs p S ts r
end
noncomputable def Kp (p:Nat) (S S':Sto):Prop:=∀ i o,i ≠ p->S[i]?=some o->S'[i]?=some o
noncomputable def Sm (S S':Sto):Prop:=∀ (i:Nat) (o:Ob),S[i]?=some o->S'[i]?=some o
theorem Sm.kp {p:Nat} {S S':Sto} (h:Sm S S'):Kp p S S':=fun i o _ e=>h i o e
theorem Sm.refl (S:Sto):Sm S S:=fun _ _ e=>e
theorem Sm.trans {S S1 S2:Sto} (a:Sm S S1) (b:Sm S1 S2):Sm S S2:=fun i o e=>b i o (a i o e)
theorem Sm.app (S X:Sto):Sm S (S++X):=fun i o e=>by
 have hi:=(Zc.mp e).1;rw [Zw hi];exact e
theorem Kp.refl (p:Nat) (S:Sto):Kp p S S:=fun _ _ _ e=>e
theorem Kp.trans {p:Nat} {S S1 S2:Sto} (a:Kp p S S1) (b:Kp p S1 S2):Kp p S S2:=fun i o n e=>b i o n (a i o n e)
mutual
theorem TD.keep {p:Nat} {S S':Sto} (k:Kp p S S'):∀ {t:Dw.D} {d:D},TD p S t d->TD p S' t d
 | .non,_,h=>by rw [TD] at h ⊢;exact h
 | .bl _,_,h=>by rw [TD] at h ⊢;exact h
 | .int _,_,h=>by rw [TD] at h ⊢;exact h
 | .str _,_,h=>by rw [TD] at h ⊢;exact h
 | .tup ts,_,h=>by rw [TD] at h ⊢;obtain ⟨ds,e,q⟩:=h;exact ⟨ds,e,TDs.keep k q⟩
 | .lst ts,_,h=>by rw [TD] at h ⊢;obtain ⟨n,ds,e,ne,a,q⟩:=h;exact ⟨n,ds,e,ne,k _ _ ne a,TDs.keep k q⟩
 | .dic ks ts,_,h=>by rw [TD] at h ⊢;obtain ⟨n,ds,e,ne,a,q⟩:=h;exact ⟨n,ds,e,ne,k _ _ ne a,TDs.keep k q⟩
theorem TDs.keep {p:Nat} {S S':Sto} (k:Kp p S S'):∀ {ts:List Dw.D} {ds:List D},TDs p S ts ds->TDs p S' ts ds
 | [],_,h=>by rw [TDs] at h ⊢;exact h
 | t::ts,_,h=>by rw [TDs] at h ⊢;obtain ⟨d,r,e,a,q⟩:=h;exact ⟨d,r,e,TD.keep k a,TDs.keep k q⟩
end
section
variable {p:Nat} {S S':Sto}
theorem AU:TD p S .non .non:=by rw [TD]
theorem nv {b:Bool}:TD p S (.bl b) (.bl b):=by rw [TD]
theorem bK {i:Int}:TD p S (.int i) (.int i):=by rw [TD]
theorem uK {x:Str}:TD p S (.str x) (.str x):=by rw [TD]
theorem bv {ts:List Dw.D} {ds:List D} (h:TDs p S ts ds):TD p S (.tup ts) (.tup ds):=by rw [TD];exact ⟨ds,rfl,h⟩
theorem aE:TDs p S [] []:=by rw [TDs]
theorem ac {t:Dw.D} {d:D} {ts:List Dw.D} {ds:List D} (h:TD p S t d) (q:TDs p S ts ds):TDs p S (t::ts) (d::ds):=by rw [TDs];exact ⟨d,ds,rfl,h,q⟩
theorem TD.non {d:D} (h:TD p S .non d):d = .non:=by rw [TD] at h;exact h
theorem TD.bl {b:Bool} {d:D} (h:TD p S (.bl b) d):d = .bl b:=by rw [TD] at h;exact h
theorem TD.int {i:Int} {d:D} (h:TD p S (.int i) d):d = .int i:=by rw [TD] at h;exact h
theorem TD.str {x:Str} {d:D} (h:TD p S (.str x) d):d = .str x:=by rw [TD] at h;exact h
theorem TD.tup {ts:List Dw.D} {d:D} (h:TD p S (.tup ts) d):∃ ds,d = .tup ds/\TDs p S ts ds:=by rw [TD] at h;exact h
theorem TDs.cons {t:Dw.D} {ts:List Dw.D} {ds:List D} (h:TDs p S (t::ts) ds):∃ d r,ds=d::r/\TD p S t d/\TDs p S ts r:=by rw [TDs] at h;exact h
theorem TDs.nil {ds:List D} (h:TDs p S [] ds):ds=[]:=by rw [TDs] at h;exact h
theorem TDs.len:∀ {ts:List Dw.D} {ds:List D},TDs p S ts ds->ds.length=ts.length
 | [],_,h=>by rw [h.nil];rfl
 | t::ts,_,h=>by obtain ⟨d,r,rfl,_,q⟩:=h.cons;simp [q.len]
theorem TDs.get:∀ {ts:List Dw.D} {ds:List D} {i:Nat} {t:Dw.D},TDs p S ts ds->ts[i]?=some t->∃ d,ds[i]?=some d/\TD p S t d
 | [],_,_,_,_,e=>by simp at e
 | t::ts,_,0,_,h,e=>by obtain ⟨d,r,rfl,a,q⟩:=h.cons;simp at e;subst e;exact ⟨d,rfl,a⟩
 | t::ts,_,i+1,_,h,e=>by obtain ⟨d,r,rfl,a,q⟩:=h.cons;simp at e;obtain ⟨x,hx,y⟩:=q.get e;exact ⟨x,by simpa using hx,y⟩
theorem TDs.app:∀ {ts us:List Dw.D} {ds es:List D},TDs p S ts ds->TDs p S us es->TDs p S (ts++us) (ds++es)
 | [],_,_,_,h,q=>by rw [h.nil];exact q
 | t::ts,_,_,_,h,q=>by obtain ⟨d,r,rfl,a,z⟩:=h.cons;exact ac a (z.app q)
noncomputable def tyT:Dw.D->String
 | .non => "NoneType" | .bl _ => "bool" | .int _ => "int" | .str _ => "str" | .tup _ => "tuple" | .lst _ => "list" | .dic _ _ => "dict"
theorem ML {t:Dw.D} {d:D} (h:TD p S t d):tyN d S=some (tyT t):=by
 cases t with
 | non=>rw [h.non];rfl
 | bl _=>rw [h.bl];rfl
 | int _=>rw [h.int];rfl
 | str _=>rw [h.str];rfl
 | tup _=>obtain ⟨_,rfl,_⟩:=h.tup;rfl
 | lst _=>rw [TD] at h;obtain ⟨n,ds,rfl,_,e,_⟩:=h;simp only [tyN,e];rfl
 | dic _ _=>rw [TD] at h;obtain ⟨n,ds,rfl,_,e,_⟩:=h;simp only [tyN,e];rfl
theorem dJ {ty:Ty} {t:Dw.D} {d:D} (h:TD p S t d):mw ty d S=some (.bl (dC ty (tyT t)),S):=by
 unfold mw;rw [ML h];rfl
end
end Ev
namespace Ev
open PySem PySem.Spec PyProof.Rows L2
theorem DU {g:List D->Sto->Option (D × Sto)} {n:Nat} {x:XA} {ρ:Rho} {S:Sto} {Q:D->Sto->Prop}:Ok (rX g n x ρ S) Q=Ok (x ρ S) fun ds S1=>ds.length=n/\Ok (g ds S1) Q:=by
 unfold rX;rw [bJ]
 congr 1
 funext ds S1
 rw [dq,aZ];apply propext;split
 ·rename_i h;exact ⟨fun z=>⟨h,z⟩,fun z=>z.2⟩
 ·rename_i h;exact ⟨fun z=>z.elim,fun z=>(h z.1).elim⟩
theorem IY {x y:XE} {ρ:Rho} {S:Sto} {Q:D->Sto->Prop}:Ok (z8 x y ρ S) Q=Ok (x ρ S) fun d S1=>∃ b,d = .bl b/\if b=true then Ok (y ρ S1) Q else Q (.bl false) S1:=by
 unfold z8;rw [bJ]
 congr 1
 funext d S1
 apply propext;cases d with
 | bl b=>cases b <;> simp [al]
 | _=>simp [aZ]
theorem MM {x y:XE} {ρ:Rho} {S:Sto} {Q:D->Sto->Prop}:Ok (xOr x y ρ S) Q=Ok (x ρ S) fun d S1=>∃ b,d = .bl b/\if b=true then Q (.bl true) S1 else Ok (y ρ S1) Q:=by
 unfold xOr;rw [bJ]
 congr 1
 funext d S1
 apply propext;cases d with
 | bl b=>cases b <;> simp [al]
 | _=>simp [aZ]
theorem IZ {d:D} {S:Sto} {Q:D->Sto->Prop}:Ok (xW d S) Q=∃ b,d = .bl b/\Q (.bl (!b)) S:=by
 apply propext;cases d with
 | bl b=>simp [xW,al]
 | _=>simp [xW,aZ]
theorem I0 {f g:D->D->Sto->Option (D × Sto)} {x y z:XE} {ρ:Rho} {S:Sto} {Q:D->Sto->Prop}:Ok (xX f g x y z ρ S) Q=Ok (x ρ S) fun a S1=>Ok (y ρ S1) fun b S2=>Ok (f a b S2) fun r S3=>∃ c,r = .bl c/\if c=true then Ok (z ρ S3) fun e S4=>Ok (g b e S4) Q else Q (.bl false) S3:=by
 unfold xX;rw [bJ]
 congr 1
 funext a S1
 rw [bJ]
 congr 1
 funext b S2
 rw [bJ]
 congr 1
 funext r S3
 apply propext;cases r with
 | bl c=>cases c <;> simp [al,bJ]
 | _=>simp [aZ]
theorem I8 {i:Nat} {ρ:Rho} {S:Sto} {Q:D->Sto->Prop}:Ok (xD i ρ S) Q=∃ d,ρ[i]?=some (some d)/\Q d S:=by
 apply propext;unfold xD;cases h:ρ[i]? with
 | none=>simp [aZ]
 | some o=>cases o with
  | none=>simp [aZ]
  | some d=>simp [al]
theorem MN {i j:Int} {S:Sto} {Q:D->Sto->Prop}:Ok (av .le (.int i) (.int j) S) Q=Q (.bl (decide (i<=j))) S:=al
theorem MO {i j:Int} {S:Sto} {Q:D->Sto->Prop}:Ok (av .lt (.int i) (.int j) S) Q=Q (.bl (decide (i < j))) S:=al
theorem MP {i j:Int} {S:Sto} {Q:D->Sto->Prop}:Ok (av .gt (.int i) (.int j) S) Q=Q (.bl (decide (j < i))) S:=al
theorem MQ {i j:Int} {S:Sto} {Q:D->Sto->Prop}:Ok (av .ge (.int i) (.int j) S) Q=Q (.bl (decide (j<=i))) S:=al
theorem Ja {i j:Int} {S:Sto} {Q:D->Sto->Prop}:Ok (bL .add (.int i) (.int j) S) Q=Q (.int (i+j)) S:=al
theorem Jb {i j:Int} {S:Sto} {Q:D->Sto->Prop}:Ok (bL .sub (.int i) (.int j) S) Q=Q (.int (i - j)) S:=al
theorem MR {x:XE} {ρ:Rho} {S:Sto} {Q:Bool->Sto->Prop}:Ok (xB x ρ S) Q=Ok (x ρ S) fun d S1=>∃ b,d = .bl b/\Q b S1:=by
 unfold xB;rw [bJ]
 congr 1
 funext d S1
 apply propext;cases d with
 | bl b=>simp [al]
 | _=>simp [aZ]
theorem DV {own k:Nat} {it:XI} {tg:Tg} {c:XA} {ρ:Rho} {S:Sto} {Q:List D->Sto->Prop}:Ok (mH own it tg c k ρ S) Q=Ok (it ρ S) fun nx S1=>dD tg (ρ++Zo own none)=true/\Ok (bh nx tg c (ρ++Zo own none) k 0 S1) fun es S2=>es.length<=100000/\Q es S2:=by
 unfold mH;rw [bJ]
 congr 1
 funext nx S1
 rw [dq,aZ];apply propext
 have e:Ok (bnd (bh nx tg c (ρ++Zo own none) k 0 S1) fun es S2=>if es.length<=100000 then some (es,S2) else none) Q=Ok (bh nx tg c (ρ++Zo own none) k 0 S1) fun es S2=>es.length<=100000/\Q es S2:=by
  rw [bJ]
  congr 1
  funext es S2
  rw [dq,aZ,al];apply propext;split
  ·rename_i h;exact ⟨fun z=>⟨h,z⟩,fun z=>z.2⟩
  ·rename_i h;exact ⟨fun z=>z.elim,fun z=>(h z.1).elim⟩
 rw [e];split
 ·rename_i h;exact ⟨fun z=>⟨h,z⟩,fun z=>z.2⟩
 ·rename_i h;exact ⟨fun z=>z.elim,fun z=>(h z.1).elim⟩
theorem AV {k:Nat} {it:XI} {tg:Tg} {c:XA} {ρ:Rho} {S:Sto} {Q:List D->Sto->Prop}:Ok (jU it tg c k ρ S) Q=(dD tg ρ=true/\Ok (it ρ S) fun nx S1=>Ok (bh nx tg c ρ k 0 S1) Q):=by
 unfold jU;rw [dq,aZ,bJ];apply propext;split
 ·rename_i h;exact ⟨fun z=>⟨h,z⟩,fun z=>z.2⟩
 ·rename_i h;exact ⟨fun z=>z.elim,fun z=>(h z.1).elim⟩
theorem DW {x:XA} {ρ:Rho} {S:Sto} {Q:List D->Sto->Prop}:Ok (oC x ρ S) Q=Ok (x ρ S) fun ds S1=>ds.length<=1000/\Q ds S1:=by
 unfold oC;rw [bJ]
 congr 1
 funext ds S1
 rw [dq,aZ,al];apply propext;split
 ·rename_i h;exact ⟨fun z=>⟨h,z⟩,fun z=>z.2⟩
 ·rename_i h;exact ⟨fun z=>z.elim,fun z=>(h z.1).elim⟩
theorem DX {ds:List D} {S:Sto} {Q:D->Sto->Prop}:Ok (k8 ds S) Q=(ds.length<=1000/\Q (.tup ds) S):=by
 unfold k8;rw [dq,aZ,al];apply propext;split
 ·rename_i h;exact ⟨fun z=>⟨h,z⟩,fun z=>z.2⟩
 ·rename_i h;exact ⟨fun z=>z.elim,fun z=>(h z.1).elim⟩
theorem b7 {α:Type} (l:List α) (g:α->Bool) (S:Sto):nW false (l.map fun t=>D.bl (g t)) S=some (.bl (l.all g),S):=by
 unfold nW;have h1:(l.map fun t=>D.bl (g t)).all xI=true:=by rw [ZP];simp [Function.comp_def,xI]
 have h2:(l.map fun t=>D.bl (g t)).all nV=l.all g:=by rw [ZP];rfl
 rw [if_pos ⟨rfl,h1⟩,h2]
theorem fq {p:Nat} {S:Sto} {ts:List Dw.D} {ds:List D} {tg:Tg} {c:XA} {ρ:Rho} {Q:List D->Sto->Prop} (h:TDs p S ts ds) (hl:ts.length<=100000) (g:Dw.D->Bool)
  (step:∀ (i:Nat) t d S',ts[i]?=some t->Sm S S'->TD p S' t d->∃ ρ1,ay tg d ρ=some ρ1/\Ok (c ρ1 S') fun es S1=>es=[.bl (g t)]/\Sm S' S1) (q:∀ S',Sm S S'->Q (ts.map fun t=>.bl (g t)) S') :
  Ok (bh (nxL ds) tg c ρ LF 0 S) fun es S2=>es.length<=100000/\Q es S2:=by
 refine (dr ts.length (fun i acc S'=>Sm S S'/\acc=(ts.take i).map fun t=>.bl (g t)) (by unfold LF;omega) (fun i acc S' hi ⟨sm,ea⟩=>?_) (fun acc S' ⟨sm,ea⟩=>?_) ⟨Sm.refl S,by simp⟩).mono fun es S' ⟨sm,ea⟩=>?_
 ·obtain ⟨d,e1,td⟩:=h.get (gEG hi);obtain ⟨ρ1,e2,es,S1,e3,rfl,sm'⟩:=step i ts[i] d S' (gEG hi) sm (td.keep sm.kp);refine ⟨d,ρ1,by show some ds[i]?=_;rw [e1],e2,_,S1,e3,sm.trans sm',?_⟩;rw [ea,Zz hi,ZB];rfl
 ·show some ds[ts.length]?=_;rw [Zy (by rw [h.len];omega)]
 ·rw [Yo] at ea;subst ea;exact ⟨by rw [Za];exact hl,q S' sm⟩
theorem DY {S:Sto} {n:Nat} {lo:Int} {tg:Tg} {c:XA} {ρ:Rho} {Q:List D->Sto->Prop} (hl:n<=100000) (g:Nat->Bool)
  (step:∀ (i:Nat) S',i < n->Sm S S'->∃ ρ1,ay tg (.int (lo+i)) ρ=some ρ1/\Ok (c ρ1 S') fun es S1=>es=[.bl (g i)]/\Sm S' S1) (q:∀ S',Sm S S'->Q ((Zj n).map fun i=>.bl (g i)) S') :
  Ok (bh (nxR lo n) tg c ρ LF 0 S) fun es S2=>es.length<=100000/\Q es S2:=by
 refine (dr n (fun i acc S'=>Sm S S'/\acc=(Zj i).map fun t=>.bl (g t)) (by unfold LF;omega) (fun i acc S' hi ⟨sm,ea⟩=>?_) (fun acc S' ⟨sm,ea⟩=>?_) ⟨Sm.refl S,by simp⟩).mono fun es S' ⟨sm,ea⟩=>?_
 ·obtain ⟨ρ1,e2,es,S1,e3,rfl,sm'⟩:=step i S' hi sm;refine ⟨_,ρ1,by show some (if i < n then some (D.int (lo+i)) else none)=_;rw [if_pos hi],e2,_,S1,e3,sm.trans sm',?_⟩;rw [ea,YI,ZB];rfl
 ·show some (if n < n then some (D.int (lo+n)) else none)=_;rw [if_neg (ZQ n)]
 ·subst ea;exact ⟨by rw [Za,ZL];exact hl,q S' sm⟩
theorem DZ {p:Nat} {S:Sto} {ts:List Dw.D} {ds:List D} {tg:Tg} {c:XA} {ρ:Rho} {Q:List D->Sto->Prop} (h:TDs p S ts ds) (hl:ts.length<=100000) (g:Nat->Bool)
  (step:∀ (i:Nat) t d S',ts[i]?=some t->Sm S S'->TD p S' t d->∃ ρ1,ay tg (.tup [.int i,d]) ρ=some ρ1/\Ok (c ρ1 S') fun es S1=>es=[.bl (g i)]/\Sm S' S1) (q:∀ S',Sm S S'->Q ((Zj ts.length).map fun i=>.bl (g i)) S') :
  Ok (bh (uy ds) tg c ρ LF 0 S) fun es S2=>es.length<=100000/\Q es S2:=by
 refine (dr ts.length (fun i acc S'=>Sm S S'/\acc=(Zj i).map fun t=>.bl (g t)) (by unfold LF;omega) (fun i acc S' hi ⟨sm,ea⟩=>?_) (fun acc S' ⟨sm,ea⟩=>?_) ⟨Sm.refl S,by simp⟩).mono fun es S' ⟨sm,ea⟩=>?_
 ·obtain ⟨d,e1,td⟩:=h.get (gEG hi);obtain ⟨ρ1,e2,es,S1,e3,rfl,sm'⟩:=step i ts[i] d S' (gEG hi) sm (td.keep sm.kp);refine ⟨.tup [.int i,d],ρ1,?_,e2,_,S1,e3,sm.trans sm',?_⟩
  ·show enm ds i=_;unfold enm;rw [if_pos (by rw [h.len];omega),e1];rfl
  ·rw [ea,YI,ZB];rfl
 ·show enm ds ts.length=_;unfold enm;rw [if_pos (by rw [h.len];omega),Zy (by rw [h.len];omega)];rfl
 ·subst ea;exact ⟨by rw [Za,ZL];exact hl,q S' sm⟩
theorem uL {S:Sto} {m n:Nat} {tg:Tg} {c:XA} {ρ:Rho} (hm:S[m]?=some (.lst ((Zj n).map fun j=>.int (Int.ofNat j)))) (hn:n<=1000) (f:Nat->List D)
  (step:∀ (i:Nat) S',i < n->Sm S S'->∃ ρ1,ay tg (.int i) ρ=some ρ1/\Ok (c ρ1 S') fun es S1=>es=f i/\Sm S' S1):Ok (bh (nxS m) tg c ρ LF 0 S) fun es S2=>es=(Zj n).flatMap f/\Sm S S2:=by
 refine (dr n (fun i acc S'=>Sm S S'/\acc=(Zj i).flatMap f) (by unfold LF;omega) (fun i acc S' hi ⟨sm,ea⟩=>?_) (fun acc S' ⟨sm,ea⟩=>?_) ⟨Sm.refl S,by simp⟩).mono fun es S' ⟨sm,ea⟩=>⟨ea,sm⟩
 ·obtain ⟨ρ1,e2,es,S1,e3,rfl,sm'⟩:=step i S' hi sm;refine ⟨.int i,ρ1,?_,e2,_,S1,e3,sm.trans sm',?_⟩
  ·show (am S' m).map (fun ds=>ds[i]?)=_;simp only [am,sm _ _ hm,Zp,Zl,Yy hi];rfl
  ·rw [ea,Dw.ow]
 ·show (am S' m).map (fun ds=>ds[n]?)=_;simp only [am,sm _ _ hm,Zp];rw [Zy (by simp)]
theorem AW {x:XA} {ρ:Rho} {S:Sto} {Q:D->Sto->Prop}:Ok (dN x ρ S) Q=Ok (x ρ S) fun ds S1=>Q (.ref S1.length) (S1++[.lst ds]):=by
 unfold dN;rw [bJ]
 congr 1
 funext ds S1
 rw [al]
theorem Jc {x:XE} {ρ:Rho} {S:Sto} {Q:List D->Sto->Prop} (h:Ok (x ρ S) fun d S1=>∃ i:Nat,d = .int i/\i<=1000/\Q ((Zj i).map fun j=>.int (Int.ofNat j)) S1):Ok (x8 x ρ S) Q:=by
 unfold x8;rw [bJ];refine h.mono fun d S1 ⟨i,e,hi,q⟩=>?_;subst e;dsimp only;rw [if_pos (by omega),al,Zn];exact q
theorem qB {p:Nat} {S:Sto} {a b:Int}:∀ {fs:List Dw.D} {ds:List D},fs.all (fun e=>Dw.az e a b)=true->TDs p S fs ds->ds=(Dw.bI fs).map D.int
 | [],ds,_,h=>by rw [h.nil];rfl
 | t::fs,ds,hw,h=>by
  obtain ⟨d,r,rfl,h1,h2⟩:=h.cons;rw [ZS,bAE] at hw;obtain ⟨i,rfl,_⟩:=Dw.aD hw.1;rw [h1.int,qB hw.2 h2];rfl
theorem sE (is:List Int):(is.map D.int).all cu=true:=by rw [ZP];simp [Function.comp_def,cu]
theorem AX (is:List Int) (i:Int) (S:Sto):uv (.tup (is.map D.int)) [.int i] S=some (.int (is.count i:Nat),S):=by
 have e:((is.map D.int).countP fun z=>eqF z (.int i))=is.count i:=by
  rw [List.countP_map];unfold XF
  congr 1
 simp only [uv];rw [if_pos ⟨rfl,sE is⟩,e]
theorem qC (neg:Bool) (is:List Int) (i:Int) (S:Sto):inS neg (.int i) (.tup (is.map D.int)) S=some (.bl (neg != decide (i ∈ is)),S):=by
 have e:inF (.int i) (is.map D.int)=decide (i ∈ is):=by
  unfold inF;rw [Xo,Z0,YE];simp only [Function.comp_def,eqF,beq_iff_eq,decide_eq_true_eq];exact ⟨fun ⟨x,hx,e⟩=>e ▸ hx,fun h=>⟨i,h,rfl⟩⟩
 simp only [inS,aj];rw [if_pos ⟨rfl,sE is⟩,e]
theorem D0 (i j:Int) (S:Sto):av .eq (.int i) (.int j) S=some (.bl (decide (i=j)),S):=by
 simp only [av,eqS];have:eqD 60 S (.int i) (.int j)=some (i == j):=rfl;rw [this];rfl
theorem D1 (i j:Int) (S:Sto):av .ne (.int i) (.int j) S=some (.bl (!decide (i=j)),S):=by
 simp only [av,neS];have:eqD 60 S (.int i) (.int j)=some (i == j):=rfl;rw [this];rfl
theorem Jd {i j:Int} {S:Sto} {Q:D->Sto->Prop}:Ok (av .eq (.int i) (.int j) S) Q=Q (.bl (decide (i=j))) S:=by rw [D0,al]
theorem Je {i j:Int} {S:Sto} {Q:D->Sto->Prop}:Ok (av .ne (.int i) (.int j) S) Q=Q (.bl (!decide (i=j))) S:=by rw [D1,al]
noncomputable def Jf:Dw.D->Bool
 | .non=>true
 | _=>false
theorem Jg {p:Nat} {S:Sto} {t:Dw.D} {d:D} (h:TD p S t d):bF d=Jf t:=by
 cases t with
 | non=>rw [h.non];rfl
 | bl _=>rw [h.bl];rfl
 | int _=>rw [h.int];rfl
 | str _=>rw [h.str];rfl
 | tup _=>obtain ⟨_,rfl,_⟩:=h.tup;rfl
 | lst _=>rw [TD] at h;obtain ⟨n,ds,rfl,_⟩:=h;rfl
 | dic _ _=>rw [TD] at h;obtain ⟨n,ds,rfl,_⟩:=h;rfl
theorem MS {p:Nat} {S:Sto} {t:Dw.D} {d:D} (h:TD p S t d):av .is d .non S=some (.bl (Jf t),S):=by
 rw [<-Jg h];simp only [av];have:isB false d .non S=some (.bl (false != bF d),S):=by cases d <;> rfl
 rw [this];cases bF d <;> rfl
theorem D2 {i:Nat} {d:D} {ρ:Rho}:ay (.name i) d ρ=if i < ρ.length then some (ρ.set i (some d)) else none:=by simp only [ay]
theorem AY {ts:List Tg} {ds:List D} {ρ:Rho}:ay (.tup ts) (.tup ds) ρ=aN ts ds ρ:=by simp only [ay]
theorem wp {ρ:Rho}:aN [] [] ρ=some ρ:=by simp only [aN]
theorem sF {i:Nat} {ts:List Tg} {d:D} {ds:List D} {ρ:Rho}:aN (.name i::ts) (d::ds) ρ=if i < ρ.length then aN ts ds (ρ.set i (some d)) else none:=by
 simp only [aN,ay];split
 ·rename_i ρ' h;split at h
  ·rename_i hc;cases h;rw [if_pos hc]
  ·cases h
 ·rename_i h;split at h
  ·cases h
  ·rename_i hc;rw [if_neg hc]
theorem ci {i j:Nat} {a b:D} {ρ:Rho} (h1:i < ρ.length) (h2:j < ρ.length):ay (.tup [.name i,.name j]) (.tup [a,b]) ρ=some ((ρ.set i (some a)).set j (some b)):=by
 rw [AY,sF,if_pos h1,sF,if_pos (by rw [Z7];exact h2),wp]
theorem ak {S:Sto} {a:Nat} {es:List D} (h:S[a]?=some (.lst es)):am S a=some es:=by simp only [am,h]
theorem wq {S:Sto} {a b n:Nat} {es:List D} (h1:S[a]?=some (.lst es)) (h2:S[b]?=some (.lst [])) (hn:a ≠ b):eqD (n+1) S (.ref a) (.ref b)=some es.isEmpty:=by
 show (match am S a,am S b with | some xs,some ys=>if a=b then some true else if xs.length=ys.length then eqL (eqD n S) xs ys else some false | _,_=>none)=_;rw [ak h1,ak h2];show (if a=b then some true else if es.length=([]:List D).length then eqL (eqD n S) es [] else some false)=_;rw [if_neg hn];cases es with
 | nil=>simp [eqL]
 | cons x xs=>simp
theorem ne_nil {S:Sto} {a b:Nat} {es:List D} (h1:S[a]?=some (.lst es)) (h2:S[b]?=some (.lst [])) (hn:a ≠ b):av .ne (.ref a) (.ref b) S=some (.bl (!es.isEmpty),S):=by
 simp only [av,neS,wq h1 h2 hn,Zp]
theorem Jh {S:Sto} {a b:Nat} {es:List D} (h1:S[a]?=some (.lst es)) (h2:S[b]?=some (.lst [])) (hn:a ≠ b):av .eq (.ref a) (.ref b) S=some (.bl es.isEmpty,S):=by
 simp only [av,eqS,wq h1 h2 hn,Zp]
theorem wr {S:Sto} {es:List D}:av .ne (.ref (Zb S)) (.ref (Zb (S++[Ob.lst es]))) (S++[Ob.lst es]++[Ob.lst []])=some (.bl (!es.isEmpty),S++[Ob.lst es]++[Ob.lst []]):=
 ne_nil (by rw [Z6,Zq (Zd _),Yh];rfl) (by rw [Zq (Zd _),Yh];rfl) (by simp)
theorem AZ (ds:List D) (k:Nat) (hk:k<=ds.length):gZ ds none (some (k:Int))=ds.take k:=by
 unfold gZ;rw [Dw.zn _ _ (by omega),Zn,Y4 hk];rfl
theorem iT {p:Nat} {S:Sto} {ts:List Dw.D} {ds:List D} (h:TDs p S ts ds):au ce (.tup ds) S=some (.int ts.length,S):=by
 simp only [au,aj,ce,h.len]
theorem bG {p:Nat} {S:Sto} {ts:List Dw.D} {ds:List D} {i:Nat} {t:Dw.D} {Q:D->Sto->Prop} (h:TDs p S ts ds) (e:ts[i]?=some t) (q:∀ d,TD p S t d->Q d S):Ok (ixS (.tup ds) (.int i) S) Q:=by
 obtain ⟨d,e1,td⟩:=h.get e;have hi:=(Zc.mp e1).1
 have ea:atI ds (i:Int)=some d:=by
  unfold atI ixN;rw [if_pos (by omega),if_pos (by omega),Zn];exact e1
 simp only [ixS,aj,ea,Zp];rw [al];exact q d td
end Ev
namespace Ev
open PySem PySem.Spec PyProof.Rows L2
section
variable {S S' S1 S2:Sto} {p:Nat} {Q:D->Sto->Prop} {ρ:Rho}
theorem Ji {i j:Int}:Ok (bL .mod (.int i) (.int j) S) Q=(0 < j/\Q (.int (i % j)) S):=by
 simp only [bL,HK,dq,al,aZ];apply propext;split
 ·rename_i h;exact ⟨fun z=>⟨h,z⟩,fun z=>z.2⟩
 ·rename_i h;exact ⟨fun z=>z.elim,fun z=>(h z.1).elim⟩
theorem D3 {i j:Int}:Ok (bL .fdiv (.int i) (.int j) S) Q=((0 < j/\j < 1073741824)/\Q (.int (i / j)) S):=by
 simp only [bL,zF,dq,al,aZ];apply propext;split
 ·rename_i h;exact ⟨fun z=>⟨h,z⟩,fun z=>z.2⟩
 ·rename_i h;exact ⟨fun z=>z.elim,fun z=>(h z.1).elim⟩
theorem Jj {i j:Int}:Ok (bL .mul (.int i) (.int j) S) Q=(jc i j=true/\Q (.int (i * j)) S):=by
 simp only [bL,qb,dq,al,aZ];apply propext;split
 ·rename_i h;exact ⟨fun z=>⟨h,z⟩,fun z=>z.2⟩
 ·rename_i h;exact ⟨fun z=>z.elim,fun z=>(h z.1).elim⟩
theorem Jk {i j:Int}:Ok (bL .pow (.int i) (.int j) S) Q=((0<=j/\j<=1000000/\i.natAbs < 2 ^ 64)/\Q (.int (i ^ j.toNat)) S):=by
 simp only [bL,HL,dq,al,aZ];apply propext;split
 ·rename_i h;exact ⟨fun z=>⟨h,z⟩,fun z=>z.2⟩
 ·rename_i h;exact ⟨fun z=>z.elim,fun z=>(h z.1).elim⟩
theorem wt {i j:Int} (h1:-(2 ^ 64) < j) (h2:j < 2 ^ 64):jc i j=true:=by simp only [jc,YJ,bAE,decide_eq_true_eq];exact .inr ⟨h1,h2⟩
theorem lI {i j:Int} (h1:-(2 ^ 64) < i) (h2:i < 2 ^ 64):jc i j=true:=by simp only [jc,YJ,bAE,decide_eq_true_eq];exact .inl ⟨h1,h2⟩
noncomputable def Pot (p:Nat) (S:Sto):Prop:=∃ n:Int,S[p]?=some (.lst [.int n])
structure Dr (p:Nat) (S S':Sto):Prop where
 kp:Kp p S S'
 pot:Pot p S'
theorem Dr.refl (h:Pot p S):Dr p S S:=⟨Kp.refl p S,h⟩
theorem Dr.trans (a:Dr p S S1) (b:Dr p S1 S2):Dr p S S2:=⟨a.kp.trans b.kp,b.pot⟩
theorem Dr.sm (h:Pot p S) (s:Sm S S'):Dr p S S':=⟨s.kp,let ⟨n,e⟩:=h;⟨n,s _ _ e⟩⟩
theorem Dr.thenSm (a:Dr p S S1) (s:Sm S1 S2):Dr p S S2:=a.trans (Dr.sm a.pot s)
theorem Pot.lt (h:Pot p S):p < S.length:=let ⟨_,e⟩:=h;(Zc.mp e).1
theorem Jl {o:Ob}:Kp p S (S.set p o):=fun i u n e=>by rw [ZJ (Ne.symm n)];exact e
theorem ft {o:Ob} (h:p < S.length):(S.set p o)[p]?=some o:=by rw [YC h]
theorem fP {n:Nat} {lo:Int} {tg:Tg} {b:XS} {Q:Fl->Rho->Sto->Prop} (hl:n<=100000) (I:Nat->Rho->Sto->Prop)
  (step:∀ (i:Nat) ρ S,i < n->I i ρ S->∃ ρ1,ay tg (.int (lo+i)) ρ=some ρ1/\OkS (b ρ1 S) fun fl ρ2 S2=>match fl with | .nx=>I (i+1) ρ2 S2 | .ct=>I (i+1) ρ2 S2 | .bk=>Q .nx ρ2 S2 | .rt d=>Q (.rt d) ρ2 S2)
  (q:∀ ρ S',I n ρ S'->Q .nx ρ S') (h0:I 0 ρ S):OkS (eF (nxR lo n) tg b LF 0 ρ S) Q:=by
 refine jG n I (by unfold LF;omega) (fun i ρ S' hi iv=>?_) (fun ρ S' iv=>⟨?_,q ρ S' iv⟩) h0
 ·obtain ⟨ρ1,e2,z⟩:=step i ρ S' hi iv;exact ⟨_,ρ1,by show some (if i < n then some (D.int (lo+i)) else none)=_;rw [if_pos hi],e2,z⟩
 ·show some (if n < n then some (D.int (lo+n)) else none)=_;rw [if_neg (ZQ n)]
theorem qD {n:Nat} {lo:Int} {tg:Tg} {c:XA} {Q:List D->Sto->Prop} (hl:n<=100000) (I:Nat->List D->Sto->Prop)
  (step:∀ (i:Nat) acc S',i < n->I i acc S'->∃ ρ1,ay tg (.int (lo+i)) ρ=some ρ1/\Ok (c ρ1 S') fun es S1=>I (i+1) (acc++es) S1) (q:∀ es S',I n es S'->es.length<=100000/\Q es S') (h0:I 0 [] S) :
  Ok (bh (nxR lo n) tg c ρ LF 0 S) fun es S2=>es.length<=100000/\Q es S2:=by
 refine (dr n I (by unfold LF;omega) (fun i acc S' hi iv=>?_) (fun acc S' iv=>?_) h0).mono q
 ·obtain ⟨ρ1,e2,z⟩:=step i acc S' hi iv;exact ⟨_,ρ1,by show some (if i < n then some (D.int (lo+i)) else none)=_;rw [if_pos hi],e2,z⟩
 ·show some (if n < n then some (D.int (lo+n)) else none)=_;rw [if_neg (ZQ n)]
theorem Jm {x:XA} {y:XE}:Ok (ua x y ρ S) Q=Ok (x ρ S) fun ds S1=>Ok (y ρ S1) fun i S2=>∃ k,i = .int k/\∃ d,atI ds k=some d/\Q d S2:=by
 unfold ua;rw [bJ]
 congr 1
 funext ds S1
 rw [bJ]
 congr 1
 funext i S2
 apply propext;cases i with
 | int k=>simp [IU]
 | _=>simp [aZ]
theorem Jn {ds:List D} {i:Int} (h0:0<=i) (h1:i < ds.length):∃ d,atI ds i=some d/\ds[i.toNat]?=some d:=by
 have hi:i.toNat < ds.length:=by omega
 refine ⟨ds[i.toNat],?_,gEG hi⟩;unfold atI ixN;rw [if_pos h0,if_pos (by omega)];exact gEG hi
theorem ek {nx:Nxt} {tg:Tg} {c:XA} {Q:List D->Sto->Prop} (n:Nat) (el:Nat->D) (I:Nat->List D->Sto->Prop) (hnx:∀ i acc S',i<=n->I i acc S'->nx i S'=some (if i < n then some (el i) else none)) (hl:n<=100000)
  (step:∀ (i:Nat) acc S',i < n->I i acc S'->∃ ρ1,ay tg (el i) ρ=some ρ1/\Ok (c ρ1 S') fun es S1=>I (i+1) (acc++es) S1) (q:∀ es S',I n es S'->es.length<=100000/\Q es S') (h0:I 0 [] S) :
  Ok (bh nx tg c ρ LF 0 S) fun es S2=>es.length<=100000/\Q es S2:=by
 refine (dr n I (by unfold LF;omega) (fun i acc S' hi iv=>?_) (fun acc S' iv=>?_) h0).mono q
 ·obtain ⟨ρ1,e2,z⟩:=step i acc S' hi iv;exact ⟨_,ρ1,by rw [hnx i acc S' (by omega) iv,if_pos hi],e2,z⟩
 ·rw [hnx n acc S' (Zd _) iv,if_neg (ZQ n)]
theorem iU {m i:Nat} {ds:List D} (h:S[m]?=some (.lst ds)) (el:Nat->D) (he:∀ i d,ds[i]?=some d->el i=d):nxS m i S=some (if i < ds.length then some (el i) else none):=by
 show (am S m).map (fun ds=>ds[i]?)=_;rw [ak h,Zp];split
 ·rename_i hi;rw [gEG hi,he i _ (gEG hi)]
 ·rename_i hi;rw [Zy (by omega)]
theorem wu {m i:Nat} {ds:List D} (h:S[m]?=some (.lst ds)) (hi':i<=ds.length) (el:Nat->D) (he:∀ i d,ds[i]?=some d->el i = .tup [.int i,d]):xU m i S=some (if i < ds.length then some (el i) else none):=by
 show (am S m).bind (fun ds=>enm ds i)=_;rw [ak h];show enm ds i=_;unfold enm;rw [if_pos hi'];split
 ·rename_i hi;rw [gEG hi,he i _ (gEG hi)];rfl
 ·rename_i hi;rw [Zy (by omega)];rfl
structure RowsS (p:Nat) (S:Sto) (rs:List D) (M:List (List Int)):Prop where
 len:rs.length=M.length
 row:∀ (i:Nat) r,M[i]?=some r->∃ a,rs[i]?=some (.ref a)/\a ≠ p/\S[a]?=some (.lst (r.map D.int))
theorem RowsS.keep {rs:List D} {M:List (List Int)} (h:RowsS p S rs M) (k:Kp p S S'):RowsS p S' rs M:=⟨h.len,fun i r hr=>let ⟨a,e,n,z⟩:=h.row i r hr;⟨a,e,n,k _ _ n z⟩⟩
theorem RowsS.nil:RowsS p S [] []:=⟨rfl,fun i r h=>by simp at h⟩
theorem RowsS.snoc {rs:List D} {M:List (List Int)} {a:Nat} {r:List Int} (h:RowsS p S rs M) (n:a ≠ p) (z:S[a]?=some (.lst (r.map D.int))):RowsS p S (rs++[.ref a]) (M++[r]):=by
 refine ⟨by simp [h.len],fun i r' hr=>?_⟩;by_cases hi:i < M.length
 ·rw [Zw hi] at hr;obtain ⟨b,e,nb,zb⟩:=h.row i r' hr;exact ⟨b,by rw [Zw (by rw [h.len];exact hi)];exact e,nb,zb⟩
 ·rw [Zq (by omega)] at hr
  have hz:i - M.length=0:=by
   have:=(Zc.mp hr).1;simp at this;omega
  rw [hz] at hr;cases hr;exact ⟨a,by rw [Zq (by rw [h.len];omega),h.len,hz];rfl,n,z⟩
theorem ai {o:Ob}:(S++[o])[S.length]?=some o:=by rw [Zq (Zd _),Yh];rfl
theorem Kp.setNew {f:Nat} {o:Ob} (h:Kp p S S') (hf:S.length<=f):Kp p S (S'.set f o):=fun i u n e=>by
 have hi:=(Zc.mp e).1;rw [ZJ (by omega)];exact h i u n e
theorem Pot.setNe {f:Nat} {o:Ob} (h:Pot p S) (hf:f ≠ p):Pot p (S.set f o):=by
 obtain ⟨n,e⟩:=h;exact ⟨n,by rw [ZJ hf];exact e⟩
noncomputable def ab (q:Int × Int):D:=.tup [.int q.1,.int q.2]
theorem gA:∀ (es:List (Int × Int)),TDs p S (es.map Dw.aX) (es.map ab)
 | []=>aE
 | e::es=>ac (bv (ac bK (ac bK aE))) (gA es)
theorem qE {f:Nat} {ds:List D} {e:D} (h:S[f]?=some (.lst ds)) (hl:ds.length < 100000):Ok (uu (.ref f) [e] S) Q=Q .non (S.set f (.lst (ds++[e]))):=by
 simp only [uu,chg,h];rw [if_pos hl];exact al
theorem dz {f:Nat} {ds:List D} (h:S[f]?=some (.lst ds)):eC (.ref f) S=true:=by simp only [eC,ak h];rfl
theorem ww {f:Nat} {ds:List D} {e:D} (h:S[f]?=some (.lst (ds++[e]))):ixS (.ref f) (.int (-1)) S=some (e,S):=by
 have:atI (ds++[e]) (-1:Int)=some e:=by
  unfold atI ixN;rw [if_neg (by decide),if_pos (by rw [Zr,ZI];omega)];show (ds++[e])[((-1:Int)+((ds++[e]).length:Int)).toNat]?=some e;have:((-1:Int)+((ds++[e]).length:Int)).toNat=ds.length:=by rw [Zr,ZI];omega
  rw [this,Zq (Zd _),Yh];rfl
 simp only [ixS,aj,ak h,Zp,this]
theorem yU {ds:List D} {i:Nat} {d:D} (h:ds[i]?=some d):ixS (.tup ds) (.int i) S=some (d,S):=by
 have hi:=(Zc.mp h).1
 have ea:atI ds (i:Int)=some d:=by
  unfold atI ixN;rw [if_pos (by omega),if_pos (by omega),Zn];exact h
 simp only [ixS,aj,ea,Zp]
theorem pF {ds:List D} {i:Nat} {d:D} (h:ds[i]?=some d):atI ds (i:Int)=some d:=by
 have hi:=(Zc.mp h).1;unfold atI ixN;rw [if_pos (by omega),if_pos (by omega),Zn];exact h
theorem fu {n:Nat} {ts:List Dw.D} {ds:List D} (hn:n ≠ p) (h:S[n]?=some (.lst ds)) (q:TDs p S ts ds):TD p S (.lst ts) (.ref n):=by rw [TD];exact ⟨n,ds,rfl,hn,h,q⟩
theorem A0 {n:Nat} {ks:List Key} {ts:List Dw.D} {ds:List D} (hn:n ≠ p) (h:S[n]?=some (.dic ks ds)) (q:TDs p S ts ds):TD p S (.dic ks ts) (.ref n):=by rw [TD];exact ⟨n,ds,rfl,hn,h,q⟩
theorem D4 {ds:List D}:av .eq (.tup ds) (.tup []) S=some (.bl ds.isEmpty,S):=by
 simp only [av,eqS]
 have:eqD 60 S (.tup ds) (.tup [])=some ds.isEmpty:=by
  cases ds <;> rfl
 rw [this];rfl
theorem D5 {ds:List D}:av .ne (.tup ds) (.tup []) S=some (.bl (!ds.isEmpty),S):=by
 simp only [av,neS]
 have:eqD 60 S (.tup ds) (.tup [])=some ds.isEmpty:=by
  cases ds <;> rfl
 rw [this];rfl
theorem Jo {xs ys:List D}:Ok (bL .add (.tup xs) (.tup ys) S) Q=(xs.length+ys.length<=1000/\Q (.tup (xs++ys)) S):=by
 simp only [bL,k9,dq,al,aZ];apply propext;split
 ·rename_i h;exact ⟨fun z=>⟨h,z⟩,fun z=>z.2⟩
 ·rename_i h;exact ⟨fun z=>z.elim,fun z=>(h z.1).elim⟩
end
end Ev
namespace Ev
open PySem PySem.Spec PyProof.Rows L2
noncomputable abbrev WP (α:Type):=Rho->Sto->(α->Sto->Prop)->Prop
noncomputable def Sd {α:Type} (w:WP α) (x:Rho->Sto->Option (α × Sto)):Prop:=∀ ρ S Q,w ρ S Q->Ok (x ρ S) Q
theorem ba {α β:Type} {x:Option (α × Sto)} {f:α->Sto->Option (β × Sto)} {Q:β->Sto->Prop} (h:Ok x fun a S=>Ok (f a S) Q):Ok (bnd x f) Q:=bJ ▸ h
theorem bx {α:Type} {a:α} {S:Sto} {Q:α->Sto->Prop} (h:Q a S):Ok (some (a,S)) Q:=⟨_,_,rfl,h⟩
noncomputable def wIf (b:Bool) (A B:Prop):Prop:=match b with
 | true=>A
 | false=>B
noncomputable def wBl (d:D) (Q:Bool->Prop):Prop:=match d with
 | .bl b=>Q b
 | .non=>False | .int _=>False | .str _=>False | .tup _=>False | .ref _=>False
noncomputable def dB (d:D) (Q:Int->Prop):Prop:=match d with
 | .int i=>Q i
 | .non=>False | .bl _=>False | .str _=>False | .tup _=>False | .ref _=>False
theorem nw {d:D} {Q:Bool->Prop} (h:wBl d Q):∃ b,d = .bl b/\Q b:=by cases d <;> first | exact h.elim | exact ⟨_,rfl,h⟩
theorem cq {d:D} {Q:Int->Prop} (h:dB d Q):∃ b,d = .int b/\Q b:=by cases d <;> first | exact h.elim | exact ⟨_,rfl,h⟩
noncomputable def Ox (o:Option D) (Q:D->Prop):Prop:=match o with
 | some d=>Q d
 | none=>False
noncomputable def uM:Rho->Nat->(D->Prop)->Prop
 | [],_,_=>False
 | o::_,0,Q=>Ox o Q
 | _::ρ,i+1,Q=>uM ρ i Q
theorem wx:∀ {ρ:Rho} {i:Nat} {Q:D->Prop},uM ρ i Q->∃ d,ρ[i]?=some (some d)/\Q d
 | [],_,_,h=>h.elim
 | some d::_,0,_,h=>⟨d,rfl,h⟩
 | none::_,0,_,h=>h.elim
 | o::ρ,i+1,_,h=>by rw [Yp];exact wx (ρ:=ρ) h
noncomputable def MT (i:Nat):WP D:=fun ρ S Q=>uM ρ i fun d=>Q d S
theorem MU {i:Nat}:Sd (MT i) (xD i):=fun ρ S Q h=>by
 rw [I8];exact wx h
noncomputable def wC (d:D):WP D:=fun _ S Q=>Q d S
theorem s_c {d:D}:Sd (wC d) (xC d):=fun _ _ _ h=>bx h
noncomputable def D6 (g:D->D->Sto->(D->Sto->Prop)->Prop) (x y:WP D):WP D:=fun ρ S Q=>x ρ S fun a S1=>y ρ S1 fun b S2=>g a b S2 Q
theorem A6 {g:D->D->Sto->(D->Sto->Prop)->Prop} {f:D->D->Sto->Option (D × Sto)} {w v:WP D} {x y:XE} (hw:Sd w x) (hv:Sd v y) (hg:∀ {a b S Q},g a b S Q->Ok (f a b S) Q):Sd (D6 g w v) (rB f x y):=
 fun _ _ _ h=>ba ((hw _ _ _ h).mono fun _ _ h=>ba ((hv _ _ _ h).mono fun _ _ h=>hg h))
noncomputable def wUn {α β:Type} (g:α->Sto->(β->Sto->Prop)->Prop) (x:WP α):WP β:=fun ρ S Q=>x ρ S fun a S1=>g a S1 Q
theorem D7 {α β:Type} {g:α->Sto->(β->Sto->Prop)->Prop} {f:α->Sto->Option (β × Sto)} {w:WP α} {x:Rho->Sto->Option (α × Sto)} (hw:Sd w x) (hg:∀ {a S Q},g a S Q->Ok (f a S) Q):Sd (wUn g w) (fun ρ S=>bnd (x ρ S) f):=
 fun _ _ _ h=>ba ((hw _ _ _ h).mono fun _ _ h=>hg h)
noncomputable def wOk {α β:Type} (f:α->Sto->Option (β × Sto)) (a:α) (S:Sto) (Q:β->Sto->Prop):Prop:=Ok (f a S) Q
noncomputable def wII:BOp->Int->Int->Sto->(D->Sto->Prop)->Prop
 | .add,i,j,S,Q=>Q (.int (i+j)) S
 | .sub,i,j,S,Q=>Q (.int (i - j)) S
 | .mul,i,j,S,Q=>jc i j=true/\Q (.int (i * j)) S
 | .mod,i,j,S,Q=>0 < j/\Q (.int (i % j)) S
 | .fdiv,i,j,S,Q=>(0 < j/\j < 1073741824)/\Q (.int (i / j)) S
 | .pow,i,j,S,Q=>(0<=j/\j<=1000000/\i.natAbs < 2 ^ 64)/\Q (.int (i ^ j.toNat)) S
theorem Jp {o:BOp} {i j:Int} {S:Sto} {Q:D->Sto->Prop} (h:wII o i j S Q):Ok (bL o (.int i) (.int j) S) Q:=by
 cases o with
 | add=>rw [Ja];exact h
 | sub=>rw [Jb];exact h
 | mul=>rw [Jj];exact h
 | mod=>rw [Ji];exact h
 | fdiv=>rw [D3];exact h
 | pow=>rw [Jk];exact h
noncomputable def wTT:BOp->List D->List D->Sto->(D->Sto->Prop)->Prop
 | .add,xs,ys,S,Q=>xs.length+ys.length<=1000/\Q (.tup (xs++ys)) S
 | .sub,_,_,_,_=>False
 | .mul,_,_,_,_=>False
 | .mod,_,_,_,_=>False
 | .fdiv,_,_,_,_=>False
 | .pow,_,_,_,_=>False
theorem Jq {o:BOp} {i j:List D} {S:Sto} {Q:D->Sto->Prop} (h:wTT o i j S Q):Ok (bL o (.tup i) (.tup j) S) Q:=by
 cases o with
 | add=>rw [Jo];exact h
 | _=>exact h.elim
noncomputable def A7 (o:BOp) (i:Int) (y:D) (S:Sto) (Q:D->Sto->Prop):Prop:=match y with
 | .int j=>wII o i j S Q
 | .non=>False | .bl _=>False | .str _=>False | .ref _=>False
 | .tup ys=>Ok (bL o (.int i) (.tup ys) S) Q
noncomputable def wy (o:BOp) (xs:List D) (y:D) (S:Sto) (Q:D->Sto->Prop):Prop:=match y with
 | .tup ys=>wTT o xs ys S Q
 | .non=>False | .bl _=>False | .str _=>False | .ref _=>False
 | .int j=>Ok (bL o (.tup xs) (.int j) S) Q
noncomputable def uN (o:BOp) (x y:D) (S:Sto) (Q:D->Sto->Prop):Prop:=match x with
 | .int i=>A7 o i y S Q
 | .tup xs=>wy o xs y S Q
 | .non=>Ok (bL o .non y S) Q
 | .bl b=>Ok (bL o (.bl b) y S) Q
 | .str b=>Ok (bL o (.str b) y S) Q
 | .ref b=>Ok (bL o (.ref b) y S) Q
theorem D8 {o:BOp} {x y:D} {S:Sto} {Q:D->Sto->Prop} (h:uN o x y S Q):Ok (bL o x y S) Q:=by
 cases x with
 | int i=>cases y with
  | int j=>exact Jp h
  | tup ys=>exact h
  | _=>exact h.elim
 | tup xs=>cases y with
  | int j=>exact h
  | tup ys=>exact Jq h
  | _=>exact h.elim
 | _=>exact h
noncomputable def wCI:COp->Int->Int->Sto->(D->Sto->Prop)->Prop
 | .eq,i,j,S,Q=>Q (.bl (decide (i=j))) S
 | .ne,i,j,S,Q=>Q (.bl (!decide (i=j))) S
 | .lt,i,j,S,Q=>Q (.bl (decide (i < j))) S
 | .le,i,j,S,Q=>Q (.bl (decide (i<=j))) S
 | .gt,i,j,S,Q=>Q (.bl (decide (j < i))) S
 | .ge,i,j,S,Q=>Q (.bl (decide (j<=i))) S
 | .is,_,_,_,_=>False
 | .isnot,_,_,_,_=>False
 | .isin,_,_,_,_=>False
 | .notin,_,_,_,_=>False
theorem Jr {o:COp} {i j:Int} {S:Sto} {Q:D->Sto->Prop} (h:wCI o i j S Q):Ok (av o (.int i) (.int j) S) Q:=by
 cases o with
 | eq=>rw [Jd];exact h
 | ne=>rw [Je];exact h
 | lt=>rw [MO];exact h
 | le=>rw [MN];exact h
 | gt=>rw [MP];exact h
 | ge=>rw [MQ];exact h
 | _=>exact h.elim
noncomputable def Js (o:COp) (i:Int) (y:D) (S:Sto) (Q:D->Sto->Prop):Prop:=match y with
 | .int j=>wCI o i j S Q
 | .non=>Ok (av o (.int i) .non S) Q
 | .bl b=>Ok (av o (.int i) (.bl b) S) Q
 | .str b=>Ok (av o (.int i) (.str b) S) Q
 | .ref b=>Ok (av o (.int i) (.ref b) S) Q
 | .tup b=>Ok (av o (.int i) (.tup b) S) Q
noncomputable def yd (o:COp) (xs:List D) (y:D) (S:Sto) (Q:D->Sto->Prop):Prop:=match o with
 | .eq=>match y with
  | .tup ys=>match ys with
   | []=>Q (.bl xs.isEmpty) S
   | y::ys=>Ok (av .eq (.tup xs) (.tup (y::ys)) S) Q
  | .non=>Ok (av .eq (.tup xs) .non S) Q
  | .bl b=>Ok (av .eq (.tup xs) (.bl b) S) Q
  | .str b=>Ok (av .eq (.tup xs) (.str b) S) Q
  | .ref b=>Ok (av .eq (.tup xs) (.ref b) S) Q
  | .int b=>Ok (av .eq (.tup xs) (.int b) S) Q
 | .ne=>match y with
  | .tup ys=>match ys with
   | []=>Q (.bl (!xs.isEmpty)) S
   | y::ys=>Ok (av .ne (.tup xs) (.tup (y::ys)) S) Q
  | .non=>Ok (av .ne (.tup xs) .non S) Q
  | .bl b=>Ok (av .ne (.tup xs) (.bl b) S) Q
  | .str b=>Ok (av .ne (.tup xs) (.str b) S) Q
  | .ref b=>Ok (av .ne (.tup xs) (.ref b) S) Q
  | .int b=>Ok (av .ne (.tup xs) (.int b) S) Q
 | .is=>Ok (av .is (.tup xs) y S) Q
 | .isnot=>Ok (av .isnot (.tup xs) y S) Q
 | .isin=>Ok (av .isin (.tup xs) y S) Q
 | .notin=>Ok (av .notin (.tup xs) y S) Q
 | .lt=>False | .le=>False | .gt=>False | .ge=>False
noncomputable def wCx (o:COp) (x y:D) (S:Sto) (Q:D->Sto->Prop):Prop:=match x with
 | .int i=>Js o i y S Q
 | .tup xs=>yd o xs y S Q
 | .non=>Ok (av o .non y S) Q
 | .bl b=>Ok (av o (.bl b) y S) Q
 | .str b=>Ok (av o (.str b) y S) Q
 | .ref b=>Ok (av o (.ref b) y S) Q
theorem Jt {o:COp} {x y:D} {S:Sto} {Q:D->Sto->Prop} (h:wCx o x y S Q):Ok (av o x y S) Q:=by
 cases x with
 | int i=>cases y with
  | int j=>exact Jr h
  | _=>exact h
 | tup xs=>cases o with
  | eq=>cases y with
   | tup ys=>cases ys with
    | nil=>rw [D4,al];exact h
    | cons y ys=>exact h
   | _=>exact h
  | ne=>cases y with
   | tup ys=>cases ys with
    | nil=>rw [D5,al];exact h
    | cons y ys=>exact h
   | _=>exact h
  | lt=>exact h.elim
  | le=>exact h.elim
  | gt=>exact h.elim
  | ge=>exact h.elim
  | _=>exact h
 | _=>exact h
noncomputable def wCm (o:COp) (x y:D) (S:Sto) (Q:D->Sto->Prop):Prop:=match o with
 | .is=>Ok (av .is x y S) Q
 | .isnot=>Ok (av .isnot x y S) Q
 | .isin=>Ok (av .isin x y S) Q
 | .notin=>Ok (av .notin x y S) Q
 | .eq=>wCx .eq x y S Q
 | .ne=>wCx .ne x y S Q
 | .lt=>wCx .lt x y S Q
 | .le=>wCx .le x y S Q
 | .gt=>wCx .gt x y S Q
 | .ge=>wCx .ge x y S Q
theorem qF {o:COp} {x y:D} {S:Sto} {Q:D->Sto->Prop} (h:wCm o x y S Q):Ok (av o x y S) Q:=by
 cases o <;> first | exact Jt h | exact h
noncomputable def Ju (o p:COp) (x y z:WP D):WP D:=fun ρ S Q=>x ρ S fun a S1=>y ρ S1 fun b S2=>wCm o a b S2 fun r S3=>wBl r fun c=>wIf c (z ρ S3 fun e S4=>wCm p b e S4 Q) (Q (.bl false) S3)
theorem Gh {o p:COp} {w v u:WP D} {x y z:XE} (hw:Sd w x) (hv:Sd v y) (hu:Sd u z):Sd (Ju o p w v u) (xX (av o) (av p) x y z):=fun _ _ _ h=>by
 rw [I0];refine (hw _ _ _ h).mono fun a S1 h=>(hv _ _ _ h).mono fun b S2 h=>(qF h).mono fun r S3 h=>?_;obtain ⟨c,e,h⟩:=nw h;refine ⟨c,e,?_⟩;cases c with
 | true=>exact (hu _ _ _ h).mono fun e S4 h=>qF h
 | false=>exact h
noncomputable def MV (x y:WP D):WP D:=fun ρ S Q=>x ρ S fun d S1=>wBl d fun b=>wIf b (y ρ S1 Q) (Q (.bl false) S1)
theorem MW {w v:WP D} {x y:XE} (hw:Sd w x) (hv:Sd v y):Sd (MV w v) (z8 x y):=fun _ _ _ h=>by
 rw [IY];refine (hw _ _ _ h).mono fun a S1 h=>?_;obtain ⟨c,e,h⟩:=nw h;refine ⟨c,e,?_⟩;cases c with
 | true=>exact hv _ _ _ h
 | false=>exact h
noncomputable def wOr (x y:WP D):WP D:=fun ρ S Q=>x ρ S fun d S1=>wBl d fun b=>wIf b (Q (.bl true) S1) (y ρ S1 Q)
theorem Oy {w v:WP D} {x y:XE} (hw:Sd w x) (hv:Sd v y):Sd (wOr w v) (xOr x y):=fun _ _ _ h=>by
 rw [MM];refine (hw _ _ _ h).mono fun a S1 h=>?_;obtain ⟨c,e,h⟩:=nw h;refine ⟨c,e,?_⟩;cases c with
 | false=>exact hv _ _ _ h
 | true=>exact h
noncomputable def MX (x:WP D):WP D:=fun ρ S Q=>x ρ S fun d S1=>wBl d fun b=>Q (.bl (!b)) S1
theorem MY {w:WP D} {x:XE} (hw:Sd w x):Sd (MX w) (xUn xW x):=fun _ _ _ h=>ba ((hw _ _ _ h).mono fun a S1 h=>by
 rw [IZ];exact nw h)
noncomputable def MZ (x:WP D):WP D:=fun ρ S Q=>x ρ S fun d S1=>dB d fun i=>Q (.int (-i)) S1
theorem M0 {w:WP D} {x:XE} (hw:Sd w x):Sd (MZ w) (xUn Ik x):=fun _ _ _ h=>ba ((hw _ _ _ h).mono fun a S1 h=>by
 obtain ⟨i,rfl,h⟩:=cq h;exact bx h)
noncomputable def wO:Option (WP D)->WP (Option Int)
 | none=>fun _ S Q=>Q none S
 | some w=>fun ρ S Q=>w ρ S fun d S1=>dB d fun i=>Q (some i) S1
noncomputable def uO (lo hi:Option Int) (d:D) (S:Sto) (Q:D->Sto->Prop):Prop:=match d with
 | .tup ds=>Q (.tup (gZ ds lo hi)) S
 | .ref n=>Ok (slS lo hi (.ref n) S) Q
 | .non=>False | .bl _=>False | .str _=>False | .int _=>False
noncomputable def wSl (x:WP D) (lo hi:WP (Option Int)):WP D:=fun ρ S Q=>x ρ S fun d S1=>lo ρ S1 fun l S2=>hi ρ S2 fun h S3=>uO l h d S3 Q
theorem Oz:Sd (wO none) ud:=fun _ _ _ h=>bx h
theorem OA {w:WP D} {x:XE} (hw:Sd w x):Sd (wO (some w)) (ue x):=fun _ _ _ h=>ba ((hw _ _ _ h).mono fun d S1 h=>by
 obtain ⟨i,rfl,h⟩:=cq h;exact bx h)
theorem OB {w:WP D} {l u:WP (Option Int)} {x:XE} {lo hi:XO} (hw:Sd w x) (hl:Sd l lo) (hu:Sd u hi):Sd (wSl w l u) (xSl x lo hi):=fun _ _ _ h=>ba ((hw _ _ _ h).mono fun d S1 h=>ba ((hl _ _ _ h).mono fun a S2 h=>ba ((hu _ _ _ h).mono fun b S3 h=>by
 cases d with
 | tup ds=>exact bx h
 | ref n=>exact h
 | _=>exact h.elim)))
noncomputable def Gi (g:List D->Sto->Option (D × Sto)) (n:Nat) (x:WP (List D)):WP D:=fun ρ S Q=>x ρ S fun ds S1=>ds.length=n/\Ok (g ds S1) Q
theorem Jv {g:List D->Sto->Option (D × Sto)} {n:Nat} {w:WP (List D)} {x:XA} (hw:Sd w x):Sd (Gi g n w) (rX g n x):=fun _ _ _ h=>by
 rw [DU];exact hw _ _ _ h
noncomputable def kg (x:WP (List D)):WP D:=fun ρ S Q=>x ρ S fun ds S1=>Q (.ref S1.length) (S1++[.lst ds])
theorem gR {w:WP (List D)} {x:XA} (hw:Sd w x):Sd (kg w) (dN x):=fun _ _ _ h=>by rw [AW];exact hw _ _ _ h
noncomputable def fv:Nat->List CE->Prop->Prop
 | _,[],A=>A
 | 0,_::_,_=>False
 | n+1,_::es,A=>fv n es A
theorem jH:∀ {n:Nat} {es:List CE} {A:Prop},fv n es A->es.length<=n/\A
 | n,[],_,h=>⟨Xx _,by cases n <;> exact h⟩
 | 0,_::_,_,h=>h.elim
 | n+1,_::es,_,h=>by rw [ZA];exact ⟨Xr (jH (es:=es) h).1,(jH (es:=es) h).2⟩
noncomputable def wSh {α:Type} (es:List CE) (x:WP α):WP α:=fun ρ S Q=>fv 60 es (x ρ S Q)
noncomputable def A8 (c:D->Sto->Bool) (f:D->List D->Sto->Option (D × Sto)) (x:WP D) (y:WP (List D)):WP D:=fun ρ S Q=>x ρ S fun d S1=>c d S1=true/\y ρ S1 fun as S2=>Ok (f d as S2) Q
theorem wz {c:D->Sto->Bool} {f:D->List D->Sto->Option (D × Sto)} {w:WP D} {v:WP (List D)} {x:XE} {y:XA} (hw:Sd w x) (hv:Sd v y):Sd (A8 c f w v) (xS c f x y):=fun _ _ _ h=>ba ((hw _ _ _ h).mono fun d S1 h=>by
 rw [if_pos h.1];exact ba (hv _ _ _ h.2))
noncomputable def Jw (x:WP D):WP (List D):=fun ρ S Q=>x ρ S fun d S1=>∃ i:Nat,d = .int i/\i<=1000/\Q ((Zj i).map fun j=>.int (Int.ofNat j)) S1
theorem Gj {w:WP D} {x:XE} (hw:Sd w x):Sd (Jw w) (x8 x):=fun _ _ _ h=>Jc (hw _ _ _ h)
noncomputable def M1:WP (List D):=fun _ S Q=>Q [] S
theorem M2:Sd M1 CZ:=fun _ _ _ h=>bx h
noncomputable def Gk (x:WP D) (y:WP (List D)):WP (List D):=fun ρ S Q=>x ρ S fun a S1=>y ρ S1 fun as S2=>Q (a::as) S2
theorem Jx {w:WP D} {v:WP (List D)} {x:XE} {y:XA} (hw:Sd w x) (hv:Sd v y):Sd (Gk w v) (vM x y):=fun _ _ _ h=>ba ((hw _ _ _ h).mono fun d S1 h=>ba ((hv _ _ _ h).mono fun ds S2 h=>bx h))
noncomputable def OC (o:Option D) (A:Prop):Prop:=match o with
 | none=>A
 | some _=>False
noncomputable def wFr:Rho->Nat->Prop->Prop
 | [],_,_=>False
 | o::_,0,A=>OC o A
 | _::ρ,i+1,A=>wFr ρ i A
theorem qG:∀ {ρ:Rho} {i:Nat} {A:Prop},wFr ρ i A->ρ[i]?=some none/\A
 | [],_,_,h=>h.elim
 | none::_,0,_,h=>⟨rfl,h⟩
 | some _::_,0,_,h=>h.elim
 | o::ρ,i+1,_,h=>by rw [Yp];exact qG (ρ:=ρ) h
noncomputable def sG:List Tg->Rho->Prop->Prop
 | [],_,A=>A
 | .name i::ts,ρ,A=>wFr ρ i (sG ts ρ A)
 | .tup us::ts,ρ,A=>dD (.tup us) ρ=true/\sG ts ρ A
noncomputable def wFt:Tg->Rho->Prop->Prop
 | .name i,ρ,A=>wFr ρ i A
 | .tup ts,ρ,A=>sG ts ρ A
theorem o9 {i:Nat} {ρ:Rho} (h:ρ[i]?=some none):dD (.name i) ρ=true:=by rw [dD,h]
theorem qH:∀ {ts:List Tg} {ρ:Rho} {A:Prop},sG ts ρ A->fU ts ρ=true/\A
 | [],_,_,h=>⟨by rw [fU],h⟩
 | .name i::ts,ρ,_,h=>by
  obtain ⟨e,h⟩:=qG h;obtain ⟨e2,h⟩:=qH h;exact ⟨by rw [fU,o9 e,e2];rfl,h⟩
 | .tup us::ts,ρ,_,h=>by
  obtain ⟨e,h⟩:=h;obtain ⟨e2,h⟩:=qH h;exact ⟨by rw [fU,e,e2];rfl,h⟩
theorem uQ {t:Tg} {ρ:Rho} {A:Prop} (h:wFt t ρ A):dD t ρ=true/\A:=by
 cases t with
 | name i=>exact ⟨o9 (qG h).1,(qG h).2⟩
 | tup ts=>rw [dD];exact qH h
noncomputable def sH:List Str->Rho->(Rho->Prop)->Prop
 | [],r,Q=>Q r
 | _::own,r,Q=>sH own (none::r) Q
noncomputable def sI:Rho->Rho->(Rho->Prop)->Prop
 | [],r,Q=>Q r
 | o::ρ,r,Q=>sI ρ r fun r'=>Q (o::r')
theorem wD:∀ {ρ r:Rho} {Q:Rho->Prop},sI ρ r Q->Q (ρ++r)
 | [],_,_,h=>h
 | o::ρ,r,Q,h=>wD (ρ:=ρ) (Q:=fun r'=>Q (o::r')) h
theorem wG:∀ {own:List Str} {k:Nat} {Q:Rho->Prop},sH own (Zo k none) Q->Q (Zo (own.length+k) none)
 | [],k,_,h=>by rw [Y3,XH];exact h
 | _::own,k,Q,h=>by
  have:=wG (own:=own) (k:=k+1) h;rw [ZA,show own.length+1+k=own.length+(k+1) by omega];exact this
noncomputable def Gm (own:List Str) (it:WP Nxt) (tg:Tg) (c:XA) (k:Nat):WP (List D):=fun ρ S Q=>it ρ S fun nx S1=>sH own [] fun r=>sI ρ r fun ρ'=>wFt tg ρ' (Ok (bh nx tg c ρ' k 0 S1) fun es S2=>es.length<=100000/\Q es S2)
theorem A9 {own:List Str} {k:Nat} {w:WP Nxt} {it:XI} {tg:Tg} {c:XA} (hw:Sd w it):Sd (Gm own w tg c k) (mH own.length it tg c k):=fun _ _ _ h=>by
 rw [DV]
 exact (hw _ _ _ h).mono fun nx S1 h=>by
  have h:=wD (wG (own:=own) (k:=0) h);exact uQ h
noncomputable def Ba (it:WP Nxt) (tg:Tg) (c:XA) (k:Nat):WP (List D):=fun ρ S Q=>wFt tg ρ (it ρ S fun nx S1=>Ok (bh nx tg c ρ k 0 S1) Q)
theorem D9 {k:Nat} {w:WP Nxt} {it:XI} {tg:Tg} {c:XA} (hw:Sd w it):Sd (Ba w tg c k) (jU it tg c k):=fun _ _ _ h=>by
 rw [AV];exact ⟨(uQ h).1,hw _ _ _ (uQ h).2⟩
noncomputable def Bb (d:D) (S1:Sto) (Q:Nxt->Sto->Prop):Prop:=match d with
 | .tup ds=>Q (nxL ds) S1
 | .ref n=>(am S1 n).isSome=true/\Q (nxS n) S1
 | .non=>False | .bl _=>False | .str _=>False | .int _=>False
theorem OD {w:WP D} {x:XE} (hw:Sd w x):Sd (fun ρ S Q=>w ρ S fun d S1=>Bb d S1 Q) (xIV x):=fun _ _ _ h=>ba ((hw _ _ _ h).mono fun d S1 h=>by
 cases d with
 | tup ds=>exact bx h
 | ref n=>dsimp only;rw [if_pos h.1];exact bx h.2
 | _=>exact h.elim)
noncomputable def Bc (d:D) (S1:Sto) (Q:Nxt->Sto->Prop):Prop:=match d with
 | .tup ds=>Q (uy ds) S1
 | .ref n=>(am S1 n).isSome=true/\Q (xU n) S1
 | .non=>False | .bl _=>False | .str _=>False | .int _=>False
theorem OE {w:WP D} {x:XE} (hw:Sd w x):Sd (fun ρ S Q=>w ρ S fun d S1=>Bc d S1 Q) (xEV x):=fun _ _ _ h=>ba ((hw _ _ _ h).mono fun d S1 h=>by
 cases d with
 | tup ds=>exact bx h
 | ref n=>dsimp only;rw [if_pos h.1];exact bx h.2
 | _=>exact h.elim)
noncomputable def wOn {α β:Type} (f:α->β) (x:WP α):WP β:=fun ρ S Q=>x ρ S fun a S1=>Q (f a) S1
theorem Be {α β:Type} {f:α->β} {w:WP α} {x:Rho->Sto->Option (α × Sto)} (hw:Sd w x):Sd (wOn f w) (fun ρ S=>bnd (x ρ S) fun a S1=>some (f a,S1)):=fun _ _ _ h=>ba ((hw _ _ _ h).mono fun d S1 h=>bx h)
noncomputable def wR1 (x:WP D):WP Nxt:=fun ρ S Q=>x ρ S fun d S1=>dB d fun j=>lim j=true/\Q (nxR 0 j.toNat) S1
theorem OG {w:WP D} {x:XE} (hw:Sd w x):Sd (wR1 w) (xR1 x):=fun _ _ _ h=>ba ((hw _ _ _ h).mono fun d S1 h=>by
 obtain ⟨i,rfl,h⟩:=cq h;dsimp only;rw [if_pos h.1];exact bx h.2)
noncomputable def wR2 (x y:WP D):WP Nxt:=fun ρ S Q=>x ρ S fun d S1=>y ρ S1 fun e S2=>dB d fun i=>dB e fun j=>(lim i=true/\lim j=true)/\Q (nxR i (j - i).toNat) S2
theorem OH {w v:WP D} {x y:XE} (hw:Sd w x) (hv:Sd v y):Sd (wR2 w v) (xR2 x y):=fun _ _ _ h=>ba ((hw _ _ _ h).mono fun d S1 h=>ba ((hv _ _ _ h).mono fun e S2 h=>by
 obtain ⟨i,rfl,h'⟩:=cq h;obtain ⟨j,rfl,h''⟩:=cq h';dsimp only;rw [if_pos h''.1];exact bx h''.2))
noncomputable def aH (d:D) (S:Sto) (Q:Bool->Sto->Prop):Prop:=match d with
 | .bl b=>Q b S
 | .tup ds=>Q (!ds.isEmpty) S
 | .int i=>Q (i != 0) S
 | .non=>Q false S
 | .str y=>Ok (mq (.str y) S) Q
 | .ref y=>Ok (mq (.ref y) S) Q
theorem Bf {d:D} {S:Sto} {Q:Bool->Sto->Prop} (h:aH d S Q):Ok (mq d S) Q:=by cases d <;> first | exact bx h | exact h
noncomputable def wB (x:WP D):WP Bool:=fun ρ S Q=>x ρ S fun d S1=>wBl d fun b=>Q b S1
theorem s_b {w:WP D} {x:XE} (hw:Sd w x):Sd (wB w) (xB x):=fun _ _ _ h=>by
 rw [MR];exact (hw _ _ _ h).mono fun d S1 h=>nw h
noncomputable def Gn (x y:WP Bool):WP Bool:=fun ρ S Q=>x ρ S fun b S1=>wIf b (y ρ S1 Q) (Q false S1)
noncomputable def M3 (x y:WP Bool):WP Bool:=fun ρ S Q=>x ρ S fun b S1=>wIf b (Q true S1) (y ρ S1 Q)
noncomputable def Go (x:WP Bool):WP Bool:=fun ρ S Q=>x ρ S fun b S1=>Q (!b) S1
theorem Jy {w v:WP Bool} {x y:XT} (hw:Sd w x) (hv:Sd v y):Sd (Gn w v) (Ab x y):=fun _ _ _ h=>ba ((hw _ _ _ h).mono fun b S1 h=>by
 cases b with
 | true=>exact hv _ _ _ h
 | false=>exact bx h)
theorem M4 {w v:WP Bool} {x y:XT} (hw:Sd w x) (hv:Sd v y):Sd (M3 w v) (Im x y):=fun _ _ _ h=>ba ((hw _ _ _ h).mono fun b S1 h=>by
 cases b with
 | false=>exact hv _ _ _ h
 | true=>exact bx h)
theorem Jz {w:WP Bool} {x:XT} (hw:Sd w x):Sd (Go w) (Ac x):=fun _ _ _ h=>ba ((hw _ _ _ h).mono fun b S1 h=>bx h)
noncomputable def Gp (t:WP Bool) (c:WP (List D)):WP (List D):=fun ρ S Q=>t ρ S fun b S1=>wIf b (c ρ S1 Q) (Q [] S1)
theorem JA {t:WP Bool} {c:WP (List D)} {x:XT} {y:XA} (ht:Sd t x) (hc:Sd c y):Sd (Gp t c) (z5 x y):=fun _ _ _ h=>ba ((ht _ _ _ h).mono fun b S1 h=>by
 cases b with
 | true=>exact hc _ _ _ h
 | false=>exact bx h)
noncomputable def Ea (f:Bool->List D->Option (List D)) (ds:List D) (S:Sto) (Q:List D->Sto->Prop):Prop:=∃ es,f false ds=some es/\Q es S
noncomputable def Eb (f:Bool->List D->Option (List D)) (d:D) (S:Sto) (Q:List D->Sto->Prop):Prop:=∃ r es,aj d S=some r/\f r.1 r.2=some es/\Q es S
noncomputable def uR (d:D) (S:Sto) (Q:List D->Sto->Prop):Prop:=Ok ((aj d S).map fun r=>(r.2,S)) Q
theorem M5 {f:Bool->List D->Option (List D)} {w:WP (List D)} {x:XA} (hw:Sd w x):Sd (fun ρ S Q=>w ρ S fun ds S1=>Ea f ds S1 Q) (xY f x):=fun _ _ _ h=>ba ((hw _ _ _ h).mono fun ds S1 ⟨es,e,h⟩=>by rw [e];exact bx h)
theorem M6 {f:Bool->List D->Option (List D)} {w:WP D} {x:XE} (hw:Sd w x):Sd (fun ρ S Q=>w ρ S fun ds S1=>Eb f ds S1 Q) (xZ f x):=fun _ _ _ h=>ba ((hw _ _ _ h).mono fun ds S1 ⟨r,es,e1,e,h⟩=>by
 rw [e1];dsimp only;rw [e];exact bx h)
noncomputable def wNo {α:Type}:WP α:=fun _ _ _=>False
theorem sJ {α:Type} {x:Rho->Sto->Option (α × Sto)}:Sd wNo x:=fun _ _ _ h=>h.elim
noncomputable def aV (b:Bool) (x:WP (List D)) (y:WP D) (ρ:Rho) (S:Sto) (KT:List D->Sto->Prop) (KV:D->Sto->Prop):Prop:=match b with
 | true=>x ρ S KT
 | false=>y ρ S KV
noncomputable def wOf {α:Type} (b:Bool) (x:WP (List D)) (y:WP D) (gt:List D->Sto->(α->Sto->Prop)->Prop) (gv:D->Sto->(α->Sto->Prop)->Prop):WP α:=fun ρ S Q=>aV b x y ρ S (fun ds S1=>gt ds S1 Q) (fun d S1=>gv d S1 Q)
theorem s_of {α:Type} {b:Bool} {w:WP (List D)} {v:WP D} {gt:List D->Sto->(α->Sto->Prop)->Prop} {gv:D->Sto->(α->Sto->Prop)->Prop} {x y:Rho->Sto->Option (α × Sto)} (hw:Sd (fun ρ S Q=>w ρ S fun ds S1=>gt ds S1 Q) x) (hv:Sd (fun ρ S Q=>v ρ S fun d S1=>gv d S1 Q) y):Sd (wOf b w v gt gv) (if b=true then x else y):=by
 cases b with
 | true=>exact hw
 | false=>exact hv
theorem OI {b:Bool} {w:WP (List D)} {v u:WP D} {x:XA} {y z:XE} (hw:Sd w x) (hu:Sd u z) (hv:Sd v y):Sd (fun ρ S Q=>aV b w u ρ S (fun ds S1=>v ρ S1 fun i S2=>dB i fun k=>∃ d,atI ds k=some d/\Q d S2) (fun d S1=>v ρ S1 fun i S2=>Ok (ixS d i S2) Q)) (if b=true then ua x y else rB ixS z y):=fun ρ S Q h=>by
 cases b with
 | true=>
  show Ok (ua x y ρ S) Q;rw [Jm];exact (hw _ _ _ h).mono fun ds S1 h=>(hv _ _ _ h).mono fun i S2 h=>cq h
 | false=>exact ba ((hu _ _ _ h).mono fun ds S1 h=>ba (hv _ _ _ h))
noncomputable def wO2 (t:CE->WP D):Option CE->Option (WP D)
 | none=>none
 | some e=>some (t e)
noncomputable def Ec (t:CE->WP Bool):Option CE->WP (List D)->WP (List D)
 | some c,x=>Gp (t c) x
 | none,x=>x
noncomputable def Bg (x y:D) (S:Sto) (Q:D->Sto->Prop):Prop:=dB x fun i=>dB y fun j=>Q (.int (if j > i then j else i)) S
noncomputable def Bh (x y:D) (S:Sto) (Q:D->Sto->Prop):Prop:=dB x fun i=>dB y fun j=>Q (.int (if j < i then j else i)) S
noncomputable def w2 (g:D->D->Sto->(D->Sto->Prop)->Prop):List D->Sto->(D->Sto->Prop)->Prop
 | [],_,_=>False
 | [_],_,_=>False
 | [x,y],S,Q=>g x y S Q
 | _::_::_::_,_,_=>False
theorem Gq {g:D->D->Sto->(D->Sto->Prop)->Prop} {f:D->D->Sto->Option (D × Sto)} (hg:∀ {a b S Q},g a b S Q->Ok (f a b S) Q):∀ {ds:List D} {S:Sto} {Q:D->Sto->Prop},w2 g ds S Q->Ok (two f ds S) Q
 | [],_,_,h=>h.elim
 | [_],_,_,h=>h.elim
 | [x,y],_,_,h=>hg h
 | _::_::_::_,_,_,h=>h.elim
noncomputable def Gr:WP D:=fun _ S Q=>Q (.ref (Zb S)) (S++[.dic [] []])
noncomputable def Gs (i j:Int):WP D:=fun _ S Q=>Q (.ref (Zb S)) (S++[.dic [nZ i] [.int j]])
noncomputable def wCf (i:CI->WP Nxt) (own:List Str) (t:CE->XT) (e:List Cl->XA):List Cl->WP (List D)
 | []=>wNo
 | ⟨tg,it,cond⟩::rest=>Gm own (i it) tg (cnd t cond (e rest)) LF
mutual
noncomputable def wE (C:Calls) (ar:Nat->Nat):Nat->CE->WP D
 | 0,_=>wNo
 | n+1,e=>match e with
  | .non=>wC .non
  | .bl b=>wC (.bl b)
  | .int i=>wC (.int i)
  | .str x=>wC (.str x)
  | .var i=>MT i
  | .con _ v=>wC (.int v)
  | .tup es=>wSh es (wOn D.tup (wA C ar n es))
  | .lst es=>kg (wSh es (wA C ar n es))
  | .dic0=>Gr
  | .dic1 i j=>Gs i j
  | .bin o a b=>D6 (uN o) (wE C ar n a) (wE C ar n b)
  | .neg a=>MZ (wE C ar n a)
  | .cmp o a b=>D6 (wCm o) (wE C ar n a) (wE C ar n b)
  | .chn o p a b c=>Ju o p (wE C ar n a) (wE C ar n b) (wE C ar n c)
  | .and a b=>MV (wE C ar n a) (wE C ar n b)
  | .or a b=>wOr (wE C ar n a) (wE C ar n b)
  | .not a=>MX (wE C ar n a)
  | .ix a b=>fun ρ S Q=>aV (ag a) (wTm C ar n a) (wE C ar n a) ρ S (fun ds S1=>wE C ar n b ρ S1 fun i S2=>dB i fun k=>∃ d,atI ds k=some d/\Q d S2) (fun d S1=>wE C ar n b ρ S1 fun i S2=>Ok (ixS d i S2) Q)
  | .sl a lo hi=>wSl (wE C ar n a) (wO (wO2 (wE C ar n) lo)) (wO (wO2 (wE C ar n) hi))
  | .call f es=>Gi (C f) (ar f) (wA C ar n es)
  | .inst t a=>wUn (wOk (mw t)) (wE C ar n a)
  | .len a=>wOf (ag a) (wTm C ar n a) (wE C ar n a) (wOk (ce false)) (wOk (au ce))
  | .all a=>wOf (ag a) (wTm C ar n a) (wE C ar n a) (wOk (nW false)) (wOk (au nW))
  | .any a=>wOf (ag a) (wTm C ar n a) (wE C ar n a) (wOk (nX false)) (wOk (au nX))
  | .tupOf a=>wOf (ag a) (wTm C ar n a) (wE C ar n a) (wOk (jQ false)) (wOk (au jQ))
  | .listOf a=>kg (wOf (ag a) (wTm C ar n a) (wE C ar n a) (fun ds S Q=>Q ds S) uR)
  | .listR a=>kg (Jw (wE C ar n a))
  | .srt a=>kg (wOf (ag a) (wTm C ar n a) (wE C ar n a) (Ea cO) (Eb cO))
  | .mxL a=>wOf (ag a) (wTm C ar n a) (wE C ar n a) (wOk (lb false)) (wOk (au lb))
  | .intOf a=>wUn (wOk zQ) (wE C ar n a)
  | .mx a b=>wUn (w2 Bg) (wA C ar n [a,b])
  | .mn a b=>wUn (w2 Bh) (wA C ar n [a,b])
  | .rep a=>wUn (wOk ji) (wE C ar n a)
  | .comp own elt cls=>kg (wCf (wI C ar n) own (evT C ar n) (g8 C ar n elt) cls)
  | .app o a=>A8 eC uu (wE C ar n o) (wA C ar n [a])
  | .popAt o a=>A8 eC eV (wE C ar n o) (wA C ar n [a])
  | .ins o i a=>A8 eC ux (wE C ar n o) (wA C ar n [i,a])
  | .cnt o a=>A8 (fun d _=>isTup d) uv (wE C ar n o) (wA C ar n [a])
noncomputable def wA (C:Calls) (ar:Nat->Nat):Nat->List CE->WP (List D)
 | 0,_=>wNo
 | n+1,es=>match es with
  | []=>M1
  | e::es=>Gk (wE C ar n e) (wA C ar n es)
noncomputable def wTm (C:Calls) (ar:Nat->Nat):Nat->CE->WP (List D)
 | 0,_=>wNo
 | n+1,e=>match e with
  | .lst es=>wSh es (wA C ar n es)
  | .listOf a=>wOf (ag a) (wTm C ar n a) (wE C ar n a) (fun ds S Q=>Q ds S) uR
  | .listR a=>Jw (wE C ar n a)
  | .srt a=>wOf (ag a) (wTm C ar n a) (wE C ar n a) (Ea cO) (Eb cO)
  | .comp own elt cls=>wCf (wI C ar n) own (evT C ar n) (g8 C ar n elt) cls
  | .non=>wNo
  | .bl _=>wNo
  | .int _=>wNo
  | .str _=>wNo
  | .var _=>wNo
  | .con _ _=>wNo
  | .tup _=>wNo
  | .dic0=>wNo
  | .dic1 _ _=>wNo
  | .bin _ _ _=>wNo
  | .neg _=>wNo
  | .cmp _ _ _=>wNo
  | .chn _ _ _ _ _=>wNo
  | .and _ _=>wNo
  | .or _ _=>wNo
  | .not _=>wNo
  | .ix _ _=>wNo
  | .sl _ _ _=>wNo
  | .call _ _=>wNo
  | .inst _ _=>wNo
  | .len _=>wNo
  | .all _=>wNo
  | .any _=>wNo
  | .tupOf _=>wNo
  | .mxL _=>wNo
  | .intOf _=>wNo
  | .mx _ _=>wNo
  | .mn _ _=>wNo
  | .rep _=>wNo
  | .app _ _=>wNo
  | .popAt _ _=>wNo
  | .ins _ _ _=>wNo
  | .cnt _ _=>wNo
noncomputable def wI (C:Calls) (ar:Nat->Nat):Nat->CI->WP Nxt
 | 0,_=>wNo
 | n+1,it=>match it with
  | .val a=>wOf (ag a) (wTm C ar n a) (wE C ar n a) (fun ds S Q=>Q (nxL ds) S) Bb
  | .r1 a=>wR1 (wE C ar n a)
  | .r2 a b=>wR2 (wE C ar n a) (wE C ar n b)
  | .en a=>wOf (ag a) (wTm C ar n a) (wE C ar n a) (fun ds S Q=>Q (uy ds) S) Bc
noncomputable def wT (C:Calls) (ar:Nat->Nat):Nat->CE->WP Bool
 | 0,_=>wNo
 | n+1,e=>match e with
  | .cmp o a b=>wB (D6 (wCm o) (wE C ar n a) (wE C ar n b))
  | .chn o p a b c=>wB (Ju o p (wE C ar n a) (wE C ar n b) (wE C ar n c))
  | .and a b=>Gn (wT C ar n a) (wT C ar n b)
  | .or a b=>M3 (wT C ar n a) (wT C ar n b)
  | .not a=>Go (wT C ar n a)
  | .non=>wUn aH (wE C ar n (.non))
  | .bl b=>wUn aH (wE C ar n (.bl b))
  | .int i=>wUn aH (wE C ar n (.int i))
  | .str x=>wUn aH (wE C ar n (.str x))
  | .var i=>wUn aH (wE C ar n (.var i))
  | .con k v=>wUn aH (wE C ar n (.con k v))
  | .tup es=>wUn aH (wE C ar n (.tup es))
  | .lst es=>wUn aH (wE C ar n (.lst es))
  | .dic0=>wUn aH (wE C ar n (.dic0))
  | .dic1 i j=>wUn aH (wE C ar n (.dic1 i j))
  | .bin o a b=>wUn aH (wE C ar n (.bin o a b))
  | .neg a=>wUn aH (wE C ar n (.neg a))
  | .ix a b=>wUn aH (wE C ar n (.ix a b))
  | .sl a lo hi=>wUn aH (wE C ar n (.sl a lo hi))
  | .call f es=>wUn aH (wE C ar n (.call f es))
  | .inst t a=>wUn aH (wE C ar n (.inst t a))
  | .len a=>wUn aH (wE C ar n (.len a))
  | .all a=>wUn aH (wE C ar n (.all a))
  | .any a=>wUn aH (wE C ar n (.any a))
  | .tupOf a=>wUn aH (wE C ar n (.tupOf a))
  | .listOf a=>wUn aH (wE C ar n (.listOf a))
  | .listR a=>wUn aH (wE C ar n (.listR a))
  | .srt a=>wUn aH (wE C ar n (.srt a))
  | .mxL a=>wUn aH (wE C ar n (.mxL a))
  | .intOf a=>wUn aH (wE C ar n (.intOf a))
  | .mx a b=>wUn aH (wE C ar n (.mx a b))
  | .mn a b=>wUn aH (wE C ar n (.mn a b))
  | .rep a=>wUn aH (wE C ar n (.rep a))
  | .comp own elt cls=>wUn aH (wE C ar n (.comp own elt cls))
  | .app o a=>wUn aH (wE C ar n (.app o a))
  | .popAt o a=>wUn aH (wE C ar n (.popAt o a))
  | .ins o i a=>wUn aH (wE C ar n (.ins o i a))
  | .cnt o a=>wUn aH (wE C ar n (.cnt o a))
end
noncomputable def wCl (C:Calls) (ar:Nat->Nat) (n:Nat) (elt:CE):List Cl->WP (List D)
 | []=>wOn (fun d=>[d]) (wE C ar n elt)
 | ⟨tg,it,cond⟩::rest=>Ba (wI C ar n it) tg (cnd (evT C ar n) cond (g8 C ar n elt rest)) LF
theorem qI {C:Calls} {ar:Nat->Nat}:∀ {n:Nat} {es:List CE} {ρ:Rho} {S S':Sto} {ds:List D},evA C ar n es ρ S=some (ds,S')->ds.length=es.length
 | 0,_,_,_,_,_,h=>by simp only [evA,xNo] at h;cases h
 | n+1,[],_,_,_,_,h=>by simp only [evA,CZ] at h;cases h;rfl
 | n+1,e::es,_,_,_,_,h=>by
  simp only [evA,vM] at h;obtain ⟨a,S1,e1,h⟩:=ae h;obtain ⟨as,S2,e2,h⟩:=ae h;cases h;rw [ZA,ZA,qI e2]
structure SndW (C:Calls) (ar:Nat->Nat) (n:Nat):Prop where
 e:∀ {e:CE},Sd (wE C ar n e) (evE C ar n e)
 a:∀ {es:List CE},Sd (wA C ar n es) (evA C ar n es)
 m:∀ {e:CE},Sd (wTm C ar n e) (cz C ar n e)
 i:∀ {i:CI},Sd (wI C ar n i) (evI C ar n i)
 t:∀ {e:CE},Sd (wT C ar n e) (evT C ar n e)
section
variable {C:Calls} {ar:Nat->Nat} {n:Nat}
theorem M7 (h:SndW C ar n) {es:List CE}:Sd (wSh es (wOn D.tup (wA C ar n es))) (k7 k8 (evA C ar n es)):=fun ρ S Q w=>by
 obtain ⟨le,w⟩:=jH w;obtain ⟨ds,S1,e1,q⟩:=h.a _ _ _ w;refine ba ⟨ds,S1,e1,?_⟩;have l:=qI e1;show Ok (k8 ds S1) Q;rw [DX];exact ⟨by omega,q⟩
theorem Bi (h:SndW C ar n) {es:List CE}:Sd (wSh es (wA C ar n es)) (oC (evA C ar n es)):=fun ρ S Q w=>by
 obtain ⟨le,w⟩:=jH w;obtain ⟨ds,S1,e1,q⟩:=h.a _ _ _ w;rw [DW];have l:=qI e1;exact ⟨ds,S1,e1,by omega,q⟩
theorem Gu (h:SndW C ar n) {o:Option CE}:Sd (wO (wO2 (wE C ar n) o)) (opt (evE C ar n) o):=by
 cases o with
 | none=>exact Oz
 | some e=>exact OA h.e
theorem Ed {a b:D} {S:Sto} {Q:D->Sto->Prop} (h:Bg a b S Q):Ok (zJ a b S) Q:=by
 obtain ⟨i,rfl,h'⟩:=cq h;obtain ⟨j,rfl,h''⟩:=cq h';exact bx h''
theorem Ee {a b:D} {S:Sto} {Q:D->Sto->Prop} (h:Bh a b S Q):Ok (zK a b S) Q:=by
 obtain ⟨i,rfl,h'⟩:=cq h;obtain ⟨j,rfl,h''⟩:=cq h';exact bx h''
end
end Ev
namespace Ev
open PySem PySem.Spec PyProof.Rows L2
section
variable {C:Calls} {ar:Nat->Nat} {n:Nat}
theorem M8 (h:SndW C ar n) {o:Option CE} {w:WP (List D)} {x:XA} (hw:Sd w x):Sd (Ec (wT C ar n) o w) (cnd (evT C ar n) o x):=by
 cases o with
 | none=>exact hw
 | some c=>exact JA h.t hw
theorem Bj {α β:Type} {f:α->Sto->Option (β × Sto)} {a:α} {S:Sto} {Q:β->Sto->Prop} (h:wOk f a S Q):Ok (f a S) Q:=h
theorem s_q (h:SndW C ar n) {f:Bool->List D->Sto->Option (D × Sto)} {a:CE}:Sd (wOf (ag a) (wTm C ar n a) (wE C ar n a) (wOk (f false)) (wOk (au f))) (if ag a=true then rC f (cz C ar n a) else rD f (evE C ar n a)):=
 s_of (D7 (f:=f false) h.m Bj) (D7 (f:=au f) h.e Bj)
theorem Gv (h:SndW C ar n) {a:CE}:Sd (wOf (ag a) (wTm C ar n a) (wE C ar n a) (fun ds S Q=>Q ds S) uR) (if ag a=true then cz C ar n a else mI (evE C ar n a)):=s_of h.m (fun _ _ _ w=>ba (h.e _ _ _ w))
theorem Gw (h:SndW C ar n) {a:CE}:Sd (wOf (ag a) (wTm C ar n a) (wE C ar n a) (Ea cO) (Eb cO)) (if ag a=true then xY cO (cz C ar n a) else xZ cO (evE C ar n a)):=s_of (M5 h.m) (M6 h.e)
theorem s_u {g:D->Sto->Option (D × Sto)} {w:WP D} {x:XE} (hw:Sd w x):Sd (wUn (wOk g) w) (xUn g x):=D7 (f:=g) hw Bj
theorem OJ {w:WP (List D)} {x:XA} (hw:Sd w x):Sd (wUn (w2 Bg) w) (k7 (two zJ) x):=fun _ _ _ h=>ba ((hw _ _ _ h).mono fun _ _ h=>Gq (fun z=>Ed z) h)
theorem OK {w:WP (List D)} {x:XA} (hw:Sd w x):Sd (wUn (w2 Bh) w) (k7 (two zK) x):=fun _ _ _ h=>ba ((hw _ _ _ h).mono fun _ _ h=>Gq (fun z=>Ee z) h)
theorem JB:Sd Gr Ae:=fun _ _ _ h=>bx h
theorem JC {i j:Int}:Sd (Gs i j) (Af i j):=fun _ _ _ h=>bx h
theorem M9 {w:WP D} {x:XE} (hw:Sd w x):Sd (wUn aH w) (C8 x):=D7 (f:=mq) hw Bf
theorem sK:∀ n,SndW C ar n
 | 0=>⟨sJ,sJ,sJ,sJ,sJ⟩
 | n+1=>by
  have h:=sK n;refine ⟨fun {e}=>?_,fun {es}=>?_,fun {e}=>?_,fun {i}=>?_,fun {e}=>?_⟩
  ·cases e with
   | non=>exact s_c
   | bl b=>exact s_c
   | int b=>exact s_c
   | str b=>exact s_c
   | var b=>exact MU
   | con b v=>exact s_c
   | tup es=>exact M7 h
   | lst es=>exact gR (Bi h)
   | dic0=>exact JB
   | dic1 i j=>exact JC
   | bin o a b=>exact A6 h.e h.e D8
   | neg a=>exact M0 h.e
   | cmp o a b=>exact A6 h.e h.e qF
   | chn o p a b c=>exact Gh h.e h.e h.e
   | and a b=>exact MW h.e h.e
   | or a b=>exact Oy h.e h.e
   | not a=>exact MY h.e
   | ix a b=>exact OI h.m h.e h.e
   | sl a lo hi=>exact OB h.e (Gu h) (Gu h)
   | call f es=>exact Jv h.a
   | inst t a=>exact s_u h.e
   | len a=>exact s_q h
   | all a=>exact s_q h
   | any a=>exact s_q h
   | tupOf a=>exact s_q h
   | listOf a=>exact gR (Gv h)
   | listR a=>exact gR (Gj h.e)
   | srt a=>exact gR (Gw h)
   | mxL a=>exact s_q h
   | intOf a=>exact s_u h.e
   | mx a b=>exact OJ h.a
   | mn a b=>exact OK h.a
   | rep a=>exact s_u h.e
   | comp own elt cls=>cases cls with
    | nil=>exact gR sJ
    | cons c rest=>cases c with | mk tg it cond=>exact gR (A9 h.i)
   | app o a=>exact wz h.e h.a
   | popAt o a=>exact wz h.e h.a
   | ins o i a=>exact wz h.e h.a
   | cnt o a=>exact wz h.e h.a
  ·cases es with
   | nil=>exact M2
   | cons e es=>exact Jx h.e h.a
  ·cases e with
   | lst es=>exact Bi h
   | listOf a=>exact Gv h
   | listR a=>exact Gj h.e
   | srt a=>exact Gw h
   | comp own elt cls=>cases cls with
    | nil=>exact sJ
    | cons c rest=>cases c with | mk tg it cond=>exact A9 h.i
   | _=>exact sJ
  ·cases i with
   | val a=>exact s_of (Be h.m) (OD h.e)
   | r1 a=>exact OG h.e
   | r2 a b=>exact OH h.e h.e
   | en a=>exact s_of (Be h.m) (OE h.e)
  ·cases e with
   | cmp o a b=>exact s_b (A6 h.e h.e qF)
   | chn o p a b c=>exact s_b (Gh h.e h.e h.e)
   | and a b=>exact Jy h.t h.t
   | or a b=>exact M4 h.t h.t
   | not a=>exact Jz h.t
   | _=>exact M9 h.e
theorem OL {elt:CE} {cls:List Cl}:Sd (wCl C ar n elt cls) (g8 C ar (n+1) elt cls):=by
 cases cls with
 | nil=>exact Be (sK n).e
 | cons c rest=>cases c with | mk tg it cond=>exact D9 (sK n).i
theorem JD {elt:CE} {cls:List Cl} {o:Option CE} {ρ:Rho} {S:Sto} {Q:List D->Sto->Prop} (h:Ec (wT C ar (n+1)) o (wCl C ar n elt cls) ρ S Q):Ok (cnd (evT C ar (n+1)) o (g8 C ar (n+1) elt cls) ρ S) Q:=M8 (sK (n+1)) OL _ _ _ h
noncomputable def wNm:Nat->D->Rho->(Rho->Prop)->Prop
 | _,_,[],_=>False
 | 0,d,_::ρ,Q=>Q (some d::ρ)
 | i+1,d,o::ρ,Q=>wNm i d ρ fun ρ'=>Q (o::ρ')
theorem qJ:∀ {i:Nat} {d:D} {ρ:Rho} {Q:Rho->Prop},wNm i d ρ Q->i < ρ.length/\Q (ρ.set i (some d))
 | i,_,[],_,h=>by cases i <;> exact h.elim
 | 0,d,_::ρ,Q,h=>⟨by simp,h⟩
 | i+1,d,o::ρ,Q,h=>by
  have:=qJ (ρ:=ρ) (Q:=fun ρ'=>Q (o::ρ')) h;exact ⟨by rw [ZA];omega,this.2⟩
noncomputable def wBs:List Tg->List D->Rho->(Rho->Prop)->Prop
 | [],[],ρ,Q=>Q ρ
 | [],_::_,_,_=>False
 | .name _::_,[],_,_=>False
 | .tup _::_,[],_,_=>False
 | .name i::ts,d::ds,ρ,Q=>wNm i d ρ fun ρ1=>wBs ts ds ρ1 Q
 | .tup us::ts,d::ds,ρ,Q=>∃ ρ1,ay (.tup us) d ρ=some ρ1/\wBs ts ds ρ1 Q
noncomputable def wTp (ts:List Tg) (d:D) (ρ:Rho) (Q:Rho->Prop):Prop:=match d with
 | .tup ds=>wBs ts ds ρ Q
 | .non=>False | .bl _=>False | .str _=>False | .int _=>False | .ref _=>False
noncomputable def wBd:Tg->D->Rho->(Rho->Prop)->Prop
 | .name i,d,ρ,Q=>wNm i d ρ Q
 | .tup ts,d,ρ,Q=>wTp ts d ρ Q
theorem Bk {i:Nat} {d:D} {ρ:Rho} {Q:Rho->Prop} (h:wNm i d ρ Q):∃ ρ1,ay (.name i) d ρ=some ρ1/\Q ρ1:=⟨_,by rw [D2,if_pos (qJ h).1],(qJ h).2⟩
theorem uS:∀ {ts:List Tg} {ds:List D} {ρ:Rho} {Q:Rho->Prop},wBs ts ds ρ Q->∃ ρ1,aN ts ds ρ=some ρ1/\Q ρ1
 | [],[],ρ,Q,h=>⟨ρ,wp,h⟩
 | [],_::_,_,_,h=>h.elim
 | .name _::_,[],_,_,h=>h.elim
 | .tup _::_,[],_,_,h=>h.elim
 | .name i::ts,d::ds,ρ,Q,h=>by
  obtain ⟨ρ1,e,q⟩:=Bk h;obtain ⟨ρ2,e2,q⟩:=uS q;exact ⟨ρ2,by rw [aN,e];exact e2,q⟩
 | .tup us::ts,d::ds,ρ,Q,h=>by
  obtain ⟨ρ1,e,q⟩:=h;obtain ⟨ρ2,e2,q⟩:=uS q;exact ⟨ρ2,by rw [aN,e];exact e2,q⟩
theorem JE {t:Tg} {d:D} {ρ:Rho} {Q:Rho->Prop} (h:wBd t d ρ Q):∃ ρ1,ay t d ρ=some ρ1/\Q ρ1:=by
 cases t with
 | name i=>exact Bk h
 | tup ts=>cases d with
  | tup ds=>rw [AY];exact uS h
  | _=>exact h.elim
noncomputable abbrev WS:=Rho->Sto->(Fl->Rho->Sto->Prop)->Prop
noncomputable def rW (y:WS) (ρ:Rho) (S:Sto) (Q:Fl->Rho->Sto->Prop):Prop:=y ρ S Q
noncomputable def wNx (y:WS) (Q:Fl->Rho->Sto->Prop) (f:Fl) (ρ:Rho) (S:Sto):Prop:=match f with
 | .nx=>rW y ρ S Q
 | .rt d=>Q (.rt d) ρ S
 | .bk=>Q .bk ρ S
 | .ct=>Q .ct ρ S
mutual
noncomputable def wS (C:Calls) (ar:Nat->Nat):Nat->CS->WS
 | 0,_=>fun _ _ _=>False
 | n+1,s=>match s with
  | .asg t e=>fun ρ S Q=>wE C ar n e ρ S fun d S1=>wBd t d ρ fun ρ1=>Q .nx ρ1 S1
  | .setI v o i=>fun ρ S Q=>wE C ar n v ρ S fun a S1=>wE C ar n o ρ S1 fun b S2=>wE C ar n i ρ S2 fun c S3=>∃ S4,eD b c a S3=some S4/\Q .nx ρ S4
  | .swp v o i q j=>fun ρ S Q=>wE C ar n v ρ S fun d S1=>∃ a b,d = .tup [a,b]/\wE C ar n o ρ S1 fun x S2=>wE C ar n i ρ S2 fun y S3=>∃ S4,eD x y a S3=some S4/\wE C ar n q ρ S4 fun z S5=>wE C ar n j ρ S5 fun w S6=>∃ S7,eD z w b S6=some S7/\Q .nx ρ S7
  | .ex e=>fun ρ S Q=>wE C ar n e ρ S fun _ S1=>Q .nx ρ S1
  | .ret e=>fun ρ S Q=>wE C ar n e ρ S fun d S1=>Q (.rt d) ρ S1
  | .ifs c a b=>fun ρ S Q=>wT C ar n c ρ S fun t S1=>wIf t (rW (wSs C ar n a) ρ S1 Q) (rW (wSs C ar n b) ρ S1 Q)
  | .for_ t it b=>fun ρ S Q=>wI C ar n it ρ S fun nx S1=>OkS (eF nx t (g9 C ar n b) LF 0 ρ S1) Q
  | .cnt=>fun ρ S Q=>Q .ct ρ S
  | .never=>fun _ _ _=>False
noncomputable def wSs (C:Calls) (ar:Nat->Nat):Nat->List CS->WS
 | 0,_=>fun _ _ _=>False
 | n+1,ss=>match ss with
  | []=>fun ρ S Q=>Q .nx ρ S
  | s::ss=>fun ρ S Q=>wS C ar n s ρ S (wNx (wSs C ar n ss) Q)
end
structure SdS (C:Calls) (ar:Nat->Nat) (n:Nat):Prop where
 s:∀ {s:CS} {ρ S Q},wS C ar n s ρ S Q->OkS (evS C ar n s ρ S) Q
 ss:∀ {ss:List CS} {ρ S Q},wSs C ar n ss ρ S Q->OkS (g9 C ar n ss ρ S) Q
theorem Bl:∀ n,SdS C ar n
 | 0=>⟨fun h=>by simp only [wS] at h,fun h=>by simp only [wSs] at h⟩
 | n+1=>by
  have h:=Bl n;have g:SndW C ar n:=sK n;refine ⟨fun {s ρ S Q} w=>?_,fun {ss ρ S Q} w=>?_⟩
  ·cases s with
   | asg t e=>simp only [evS,DR];simp only [wS] at w;exact (g.e _ _ _ w).mono fun d S1 w=>JE w
   | setI v o i=>simp only [evS,AS];simp only [wS] at w;exact (g.e _ _ _ w).mono fun a S1 w=>(g.e _ _ _ w).mono fun b S2 w=>g.e _ _ _ w
   | swp v o i q j=>
    obtain ⟨d,S1,e1,a,b,rfl,w⟩:=g.e _ _ _ w;obtain ⟨x,S2,e2,w⟩:=g.e _ _ _ w;obtain ⟨y,S3,e3,S4,e4,w⟩:=g.e _ _ _ w;obtain ⟨z,S5,e5,w⟩:=g.e _ _ _ w;obtain ⟨u,S6,e6,S7,e7,w⟩:=g.e _ _ _ w;refine ⟨.nx,ρ,S7,?_,w⟩;show zX (evE C ar n v) (evE C ar n o) (evE C ar n i) (evE C ar n q) (evE C ar n j) ρ S=_;unfold zX;rw [e1];have h1:mG a (evE C ar n o) (evE C ar n i) ρ S1=some S4:=by unfold mG;rw [e2];dsimp only;rw [e3];exact e4
    have h2:mG b (evE C ar n q) (evE C ar n j) ρ S4=some S7:=by unfold mG;rw [e5];dsimp only;rw [e6];exact e7
    dsimp only [Dk];rw [h1];dsimp only;rw [h2];rfl
   | ex e=>simp only [evS,AR];simp only [wS] at w;exact g.e _ _ _ w
   | ret e=>simp only [evS,DS];simp only [wS] at w;exact g.e _ _ _ w
   | ifs c a b=>
    simp only [evS,IV];simp only [wS] at w;refine (g.t _ _ _ w).mono fun t S1 w=>?_;cases t with
    | true=>exact h.ss w
    | false=>exact h.ss w
   | for_ t it b=>simp only [evS,DT];simp only [wS] at w;exact g.i _ _ _ w
   | cnt=>simp only [wS] at w;simp only [evS];exact ⟨_,_,_,rfl,w⟩
   | never=>simp only [wS] at w
  ·cases ss with
   | nil=>simp only [wSs] at w;simp only [g9];exact ⟨_,_,_,rfl,w⟩
   | cons s ss=>
    simp only [wSs] at w;simp only [g9,DQ];refine (h.s w).mono fun f ρ1 S1 w=>?_;cases f with
    | nx=>exact h.ss w
    | _=>exact w
theorem JF {ss:List CS} {ρ:Rho} {S:Sto} {Q:Fl->Rho->Sto->Prop} (h:rW (wSs C ar n ss) ρ S Q):OkS (g9 C ar n ss ρ S) Q:=(Bl n).ss h
theorem Bm {s:CS} {ss:List CS} {ρ:Rho} {S:Sto} {Q:Fl->Rho->Sto->Prop} (h:wS C ar n s ρ S (wNx (wSs C ar n ss) Q)):rW (wSs C ar (n+1) (s::ss)) ρ S Q:=h
theorem Ef {ρ:Rho} {S:Sto} {Q:Fl->Rho->Sto->Prop} (h:Q .nx ρ S):rW (wSs C ar (n+1) []) ρ S Q:=h
end
end Ev
namespace Ev
open PySem PySem.Spec PyProof.Rows L2
section
variable {C:Calls} {ar:Nat->Nat} {A B:Prop} {S S1:Sto} {Q:D->Sto->Prop} {Ql:List D->Sto->Prop} {Qn:Nxt->Sto->Prop} {Qb:Bool->Prop} {Qi:Int->Prop} {Qd:D->Prop} {Qr:Rho->Prop} {Qt:Bool->Sto->Prop} {Qs:Fl->Rho->Sto->Prop} {t:Bool} {d x y:D} {i j:Int} {n m f:Nat} {s:Str} {o:BOp} {c p:COp} {ds xs ys:List D} {l h:Option Int} {tg:Tg} {ts:List Tg} {ρ ρ2:Rho} {es:List CE} {a b e:CE} {oa ob cd:Option CE} {own:List Str} {it:CI} {rest:List Cl} {ty:Ty} {w wl:WP (List D)} {wv:WP D} {sa sb:List CS} {ws:WS} {od:Option D} {g:D->D->Sto->(D->Sto->Prop)->Prop}
theorem JG:wE C ar (n+1) (.non) ρ S Q=(Q .non S):=rfl
theorem Na:wE C ar (n+1) (.bl t) ρ S Q=(Q (.bl t) S):=rfl
theorem JH:wE C ar (n+1) (.int i) ρ S Q=(Q (.int i) S):=rfl
theorem JI:wE C ar (n+1) (.str s) ρ S Q=(Q (.str s) S):=rfl
theorem JJ:wE C ar (n+1) (.con m i) ρ S Q=(Q (.int i) S):=rfl
theorem JK:wE C ar (n+1) (.var m) ρ S Q=(uM ρ m fun d=>Q d S):=rfl
theorem JL:wE C ar (n+1) (.tup es) ρ S Q=(fv 60 es (wA C ar n es ρ S fun ds S1=>Q (.tup ds) S1)):=rfl
theorem JM:wE C ar (n+1) (.lst es) ρ S Q=(fv 60 es (wA C ar n es ρ S fun ds S1=>Q (.ref S1.length) (S1++[.lst ds]))):=rfl
theorem Eg:wE C ar (n+1) (.dic0) ρ S Q=(Q (.ref (Zb S)) (S++[.dic [] []])):=rfl
theorem Eh:wE C ar (n+1) (.dic1 i j) ρ S Q=(Q (.ref (Zb S)) (S++[.dic [nZ i] [.int j]])):=rfl
theorem JN:wE C ar (n+1) (.bin o a b) ρ S Q=(wE C ar n a ρ S fun x S1=>wE C ar n b ρ S1 fun y S2=>uN o x y S2 Q):=rfl
theorem JO:wE C ar (n+1) (.neg a) ρ S Q=(wE C ar n a ρ S fun d S1=>dB d fun i=>Q (.int (-i)) S1):=rfl
theorem JP:wE C ar (n+1) (.cmp c a b) ρ S Q=(wE C ar n a ρ S fun x S1=>wE C ar n b ρ S1 fun y S2=>wCm c x y S2 Q):=rfl
theorem JQ:wE C ar (n+1) (.chn c p a b e) ρ S Q=(wE C ar n a ρ S fun x S1=>wE C ar n b ρ S1 fun y S2=>wCm c x y S2 fun r S3=>wBl r fun t=>wIf t (wE C ar n e ρ S3 fun z S4=>wCm p y z S4 Q) (Q (.bl false) S3)):=rfl
theorem JR:wE C ar (n+1) (.and a b) ρ S Q=(wE C ar n a ρ S fun d S1=>wBl d fun t=>wIf t (wE C ar n b ρ S1 Q) (Q (.bl false) S1)):=rfl
theorem Nb:wE C ar (n+1) (.or a b) ρ S Q=(wE C ar n a ρ S fun d S1=>wBl d fun t=>wIf t (Q (.bl true) S1) (wE C ar n b ρ S1 Q)):=rfl
theorem JS:wE C ar (n+1) (.not a) ρ S Q=(wE C ar n a ρ S fun d S1=>wBl d fun t=>Q (.bl (!t)) S1):=rfl
theorem Nc:wE C ar (n+1) (.ix a b) ρ S Q=(aV (ag a) (wTm C ar n a) (wE C ar n a) ρ S (fun ds S1=>wE C ar n b ρ S1 fun i S2=>dB i fun k=>∃ d,atI ds k=some d/\Q d S2) (fun d S1=>wE C ar n b ρ S1 fun i S2=>Ok (ixS d i S2) Q)):=rfl
theorem Ei:wE C ar (n+1) (.sl a none none) ρ S Q=(wE C ar n a ρ S fun d S1=>uO none none d S1 Q):=rfl
theorem Ej:wE C ar (n+1) (.sl a none (some b)) ρ S Q=(wE C ar n a ρ S fun d S1=>wE C ar n b ρ S1 fun y S2=>dB y fun j=>uO none (some j) d S2 Q):=rfl
theorem Ek:wE C ar (n+1) (.sl a (some b) none) ρ S Q=(wE C ar n a ρ S fun d S1=>wE C ar n b ρ S1 fun y S2=>dB y fun j=>uO (some j) none d S2 Q):=rfl
theorem El:wE C ar (n+1) (.sl a (some b) (some e)) ρ S Q=(wE C ar n a ρ S fun d S1=>wE C ar n b ρ S1 fun y S2=>dB y fun j=>wE C ar n e ρ S2 fun z S3=>dB z fun k=>uO (some j) (some k) d S3 Q):=rfl
theorem Em:wE C ar (n+1) (.call f es) ρ S Q=(wA C ar n es ρ S fun ds S1=>ds.length=ar f/\Ok (C f ds S1) Q):=rfl
theorem En:wE C ar (n+1) (.inst ty a) ρ S Q=(wE C ar n a ρ S fun d S1=>Ok (mw ty d S1) Q):=rfl
theorem JT:wE C ar (n+1) (.len a) ρ S Q=(aV (ag a) (wTm C ar n a) (wE C ar n a) ρ S (fun ds S1=>Ok (ce false ds S1) Q) (fun d S1=>Ok (au ce d S1) Q)):=rfl
theorem JU:wE C ar (n+1) (.all a) ρ S Q=(aV (ag a) (wTm C ar n a) (wE C ar n a) ρ S (fun ds S1=>Ok (nW false ds S1) Q) (fun d S1=>Ok (au nW d S1) Q)):=rfl
theorem JV:wE C ar (n+1) (.any a) ρ S Q=(aV (ag a) (wTm C ar n a) (wE C ar n a) ρ S (fun ds S1=>Ok (nX false ds S1) Q) (fun d S1=>Ok (au nX d S1) Q)):=rfl
theorem Bn:wE C ar (n+1) (.tupOf a) ρ S Q=(aV (ag a) (wTm C ar n a) (wE C ar n a) ρ S (fun ds S1=>Ok (jQ false ds S1) Q) (fun d S1=>Ok (au jQ d S1) Q)):=rfl
theorem JW:wE C ar (n+1) (.mxL a) ρ S Q=(aV (ag a) (wTm C ar n a) (wE C ar n a) ρ S (fun ds S1=>Ok (lb false ds S1) Q) (fun d S1=>Ok (au lb d S1) Q)):=rfl
theorem ye:wE C ar (n+1) (.listOf a) ρ S Q=(aV (ag a) (wTm C ar n a) (wE C ar n a) ρ S (fun ds S1=>Q (.ref S1.length) (S1++[.lst ds])) (fun d S1=>Ok ((aj d S1).map fun r=>(r.2,S1)) fun ds S1=>Q (.ref S1.length) (S1++[.lst ds]))):=rfl
theorem Bo:wE C ar (n+1) (.listR a) ρ S Q=(wE C ar n a ρ S fun d S1=>∃ i:Nat,d = .int i/\i<=1000/\Q (.ref S1.length) (S1++[.lst ((Zj i).map fun j=>.int (Int.ofNat j))])):=rfl
theorem JX:wE C ar (n+1) (.srt a) ρ S Q=(aV (ag a) (wTm C ar n a) (wE C ar n a) ρ S (fun ds S1=>∃ es,cO false ds=some es/\Q (.ref S1.length) (S1++[.lst es])) (fun d S1=>∃ r es,aj d S1=some r/\cO r.1 r.2=some es/\Q (.ref S1.length) (S1++[.lst es]))):=rfl
theorem Bp:wE C ar (n+1) (.intOf a) ρ S Q=(wE C ar n a ρ S fun d S1=>Ok (zQ d S1) Q):=rfl
theorem Nd:wE C ar (n+1) (.mx a b) ρ S Q=(wA C ar n [a,b] ρ S fun ds S1=>w2 Bg ds S1 Q):=rfl
theorem Nf:wE C ar (n+1) (.mn a b) ρ S Q=(wA C ar n [a,b] ρ S fun ds S1=>w2 Bh ds S1 Q):=rfl
theorem JY:wE C ar (n+1) (.rep a) ρ S Q=(wE C ar n a ρ S fun d S1=>Ok (ji d S1) Q):=rfl
theorem Eo:wE C ar (n+1) (.comp own a (⟨tg,it,cd⟩::rest)) ρ S Q=(wI C ar n it ρ S fun nx S1=>sH own [] fun r=>sI ρ r fun ρ'=>wFt tg ρ' (Ok (bh nx tg (cnd (evT C ar n) cd (g8 C ar n a rest)) ρ' LF 0 S1) fun es S2=>es.length<=100000/\Q (.ref S2.length) (S2++[.lst es]))):=rfl
theorem JZ:wE C ar (n+1) (.app a b) ρ S Q=(wE C ar n a ρ S fun d S1=>eC d S1=true/\wA C ar n [b] ρ S1 fun as S2=>Ok (uu d as S2) Q):=rfl
theorem Bq:wE C ar (n+1) (.popAt a b) ρ S Q=(wE C ar n a ρ S fun d S1=>eC d S1=true/\wA C ar n [b] ρ S1 fun as S2=>Ok (eV d as S2) Q):=rfl
theorem J0:wE C ar (n+1) (.ins a b e) ρ S Q=(wE C ar n a ρ S fun d S1=>eC d S1=true/\wA C ar n [b,e] ρ S1 fun as S2=>Ok (ux d as S2) Q):=rfl
theorem J1:wE C ar (n+1) (.cnt a b) ρ S Q=(wE C ar n a ρ S fun d S1=>isTup d=true/\wA C ar n [b] ρ S1 fun as S2=>Ok (uv d as S2) Q):=rfl
theorem OM:wA C ar (n+1) [] ρ S Ql=Ql [] S:=rfl
theorem OO:wA C ar (n+1) (a::es) ρ S Ql=(wE C ar n a ρ S fun d S1=>wA C ar n es ρ S1 fun ds S2=>Ql (d::ds) S2):=rfl
theorem J2:wTm C ar (n+1) (.lst es) ρ S Ql=fv 60 es (wA C ar n es ρ S Ql):=rfl
theorem yf:wTm C ar (n+1) (.listOf a) ρ S Ql=(aV (ag a) (wTm C ar n a) (wE C ar n a) ρ S (fun ds S1=>Ql ds S1) (fun d S1=>Ok ((aj d S1).map fun r=>(r.2,S1)) Ql)):=rfl
theorem Bs:wTm C ar (n+1) (.listR a) ρ S Ql=(wE C ar n a ρ S fun d S1=>∃ i:Nat,d = .int i/\i<=1000/\Ql ((Zj i).map fun j=>.int (Int.ofNat j)) S1):=rfl
theorem J3:wTm C ar (n+1) (.srt a) ρ S Ql=(aV (ag a) (wTm C ar n a) (wE C ar n a) ρ S (fun ds S1=>∃ es,cO false ds=some es/\Ql es S1) (fun d S1=>∃ r es,aj d S1=some r/\cO r.1 r.2=some es/\Ql es S1)):=rfl
theorem Ep:wTm C ar (n+1) (.comp own a (⟨tg,it,cd⟩::rest)) ρ S Ql=(wI C ar n it ρ S fun nx S1=>sH own [] fun r=>sI ρ r fun ρ'=>wFt tg ρ' (Ok (bh nx tg (cnd (evT C ar n) cd (g8 C ar n a rest)) ρ' LF 0 S1) fun es S2=>es.length<=100000/\Ql es S2)):=rfl
theorem J4:wI C ar (n+1) (.val a) ρ S Qn=(aV (ag a) (wTm C ar n a) (wE C ar n a) ρ S (fun ds S1=>Qn (nxL ds) S1) (fun d S1=>Bb d S1 Qn)):=rfl
theorem Ni:wI C ar (n+1) (.en a) ρ S Qn=(aV (ag a) (wTm C ar n a) (wE C ar n a) ρ S (fun ds S1=>Qn (uy ds) S1) (fun d S1=>Bc d S1 Qn)):=rfl
theorem Nj:wI C ar (n+1) (.r1 a) ρ S Qn=(wE C ar n a ρ S fun d S1=>dB d fun j=>lim j=true/\Qn (nxR 0 j.toNat) S1):=rfl
theorem Nk:wI C ar (n+1) (.r2 a b) ρ S Qn=(wE C ar n a ρ S fun d S1=>wE C ar n b ρ S1 fun e S2=>dB d fun i=>dB e fun j=>(lim i=true/\lim j=true)/\Qn (nxR i (j - i).toNat) S2):=rfl
theorem J5:wT C ar (n+1) (.cmp c a b) ρ S Qt=(wE C ar n a ρ S fun x S1=>wE C ar n b ρ S1 fun y S2=>wCm c x y S2 fun d S3=>wBl d fun t=>Qt t S3):=rfl
theorem J6:wT C ar (n+1) (.chn c p a b e) ρ S Qt=(wE C ar n a ρ S fun x S1=>wE C ar n b ρ S1 fun y S2=>wCm c x y S2 fun r S3=>wBl r fun t=>wIf t (wE C ar n e ρ S3 fun z S4=>wCm p y z S4 fun d S5=>wBl d fun t=>Qt t S5) (wBl (.bl false) fun t=>Qt t S3)):=rfl
theorem J7:wT C ar (n+1) (.and a b) ρ S Qt=(wT C ar n a ρ S fun t S1=>wIf t (wT C ar n b ρ S1 Qt) (Qt false S1)):=rfl
theorem Nl:wT C ar (n+1) (.or a b) ρ S Qt=(wT C ar n a ρ S fun t S1=>wIf t (Qt true S1) (wT C ar n b ρ S1 Qt)):=rfl
theorem J8:wT C ar (n+1) (.not a) ρ S Qt=(wT C ar n a ρ S fun t S1=>Qt (!t) S1):=rfl
theorem Nm:wT C ar (n+1) (.bl t) ρ S Qt=(wE C ar n (.bl t) ρ S fun d S1=>aH d S1 Qt):=rfl
theorem J9:wT C ar (n+1) (.var m) ρ S Qt=(wE C ar n (.var m) ρ S fun d S1=>aH d S1 Qt):=rfl
theorem Er:wT C ar (n+1) (.call f es) ρ S Qt=(wE C ar n (.call f es) ρ S fun d S1=>aH d S1 Qt):=rfl
theorem Es:wT C ar (n+1) (.inst ty a) ρ S Qt=(wE C ar n (.inst ty a) ρ S fun d S1=>aH d S1 Qt):=rfl
theorem Ka:wT C ar (n+1) (.all a) ρ S Qt=(wE C ar n (.all a) ρ S fun d S1=>aH d S1 Qt):=rfl
theorem Kb:wT C ar (n+1) (.any a) ρ S Qt=(wE C ar n (.any a) ρ S fun d S1=>aH d S1 Qt):=rfl
theorem Kc:wT C ar (n+1) (.len a) ρ S Qt=(wE C ar n (.len a) ρ S fun d S1=>aH d S1 Qt):=rfl
theorem Nn:wT C ar (n+1) (.ix a b) ρ S Qt=(wE C ar n (.ix a b) ρ S fun d S1=>aH d S1 Qt):=rfl
theorem Kd:wT C ar (n+1) (.lst es) ρ S Qt=(wE C ar n (.lst es) ρ S fun d S1=>aH d S1 Qt):=rfl
theorem Ke:wT C ar (n+1) (.tup es) ρ S Qt=(wE C ar n (.tup es) ρ S fun d S1=>aH d S1 Qt):=rfl
theorem OP:wCl C ar n a [] ρ S Ql=(wE C ar n a ρ S fun d S1=>Ql [d] S1):=rfl
theorem OQ:wCl C ar n a (⟨tg,it,cd⟩::rest) ρ S Ql=(wFt tg ρ (wI C ar n it ρ S fun nx S1=>Ok (bh nx tg (cnd (evT C ar n) cd (g8 C ar n a rest)) ρ LF 0 S1) Ql)):=rfl
theorem OS:Ec (wT C ar n) none w ρ S Ql=w ρ S Ql:=rfl
theorem OT:Ec (wT C ar n) (some a) w ρ S Ql=(wT C ar n a ρ S fun t S1=>wIf t (w ρ S1 Ql) (Ql [] S1)):=rfl
theorem Kf:wS C ar (n+1) (.asg tg a) ρ S Qs=(wE C ar n a ρ S fun d S1=>wBd tg d ρ fun ρ1=>Qs .nx ρ1 S1):=rfl
theorem Et:wS C ar (n+1) (.setI a b e) ρ S Qs=(wE C ar n a ρ S fun x S1=>wE C ar n b ρ S1 fun y S2=>wE C ar n e ρ S2 fun z S3=>∃ S4,eD y z x S3=some S4/\Qs .nx ρ S4):=rfl
theorem Kg {f g:CE}:wS C ar (n+1) (.swp e a b f g) ρ S Qs=(wE C ar n e ρ S fun d S1=>∃ s t,d = .tup [s,t]/\wE C ar n a ρ S1 fun x S2=>wE C ar n b ρ S2 fun y S3=>∃ S4,eD x y s S3=some S4/\wE C ar n f ρ S4 fun z S5=>wE C ar n g ρ S5 fun w S6=>∃ S7,eD z w t S6=some S7/\Qs .nx ρ S7):=rfl
theorem Np:wS C ar (n+1) (.ex a) ρ S Qs=(wE C ar n a ρ S fun _ S1=>Qs .nx ρ S1):=rfl
theorem Kh:wS C ar (n+1) (.ret a) ρ S Qs=(wE C ar n a ρ S fun d S1=>Qs (.rt d) ρ S1):=rfl
theorem Ki:wS C ar (n+1) (.ifs a sa sb) ρ S Qs=(wT C ar n a ρ S fun t S1=>wIf t (rW (wSs C ar n sa) ρ S1 Qs) (rW (wSs C ar n sb) ρ S1 Qs)):=rfl
theorem Kj:wS C ar (n+1) (.for_ tg it sa) ρ S Qs=(wI C ar n it ρ S fun nx S1=>OkS (eF nx tg (g9 C ar n sa) LF 0 ρ S1) Qs):=rfl
theorem Kk:wS C ar (n+1) .cnt ρ S Qs=Qs .ct ρ S:=rfl
theorem Nq:wNx ws Qs .nx ρ S=rW ws ρ S Qs:=rfl
theorem Nt:wNx ws Qs (.rt d) ρ S=Qs (.rt d) ρ S:=rfl
theorem Nu:wNx ws Qs .bk ρ S=Qs .bk ρ S:=rfl
theorem Nv:wNx ws Qs .ct ρ S=Qs .ct ρ S:=rfl
theorem Kl:wIf (true && t) A B=wIf t A B:=rfl
theorem Km:wIf (false && t) A B=B:=rfl
theorem Kn:wIf (true || t) A B=A:=rfl
theorem Eu:wIf (false || t) A B=wIf t A B:=rfl
theorem Ew:wIf (!(true && t)) A B=wIf (!t) A B:=rfl
theorem Ex:wIf (!(false && t)) A B=A:=rfl
theorem Ey:wIf (!(true || t)) A B=B:=rfl
theorem Ez:wIf (!(false || t)) A B=wIf (!t) A B:=rfl
theorem Nw:wIf true A B=A:=rfl
theorem Nx:wIf false A B=B:=rfl
theorem Ko:wIf (!true) A B=B:=rfl
theorem Kq:wIf (!false) A B=A:=rfl
theorem Ny:wBl (.bl t) Qb=Qb t:=rfl
theorem Kr:dB (.int i) Qi=Qi i:=rfl
theorem Ks:uM (some d::ρ) 0 Qd=Qd d:=rfl
theorem Kt:uM (od::ρ) (n+1) Qd=uM ρ n Qd:=rfl
theorem Nz:wFr (none::ρ) 0 A=A:=rfl
theorem ND:wFr (od::ρ) (n+1) A=wFr ρ n A:=rfl
theorem Ku:sG [] ρ A=A:=rfl
theorem Kv:sG (.name m::ts) ρ A=wFr ρ m (sG ts ρ A):=rfl
theorem NG:wFt (.name m) ρ A=wFr ρ m A:=rfl
theorem NH:wFt (.tup ts) ρ A=sG ts ρ A:=rfl
theorem Kw:sH [] ρ Qr=Qr ρ:=rfl
theorem Kx:sH (s::own) ρ Qr=sH own (none::ρ) Qr:=rfl
theorem Ky:sI [] ρ Qr=Qr ρ:=rfl
theorem Kz:sI (od::ρ) ρ2 Qr=sI ρ ρ2 fun r=>Qr (od::r):=rfl
theorem NI:fv (n+1) [] A=A:=rfl
theorem NJ:fv (n+1) (a::es) A=fv n es A:=rfl
theorem NK:wNm 0 d (od::ρ) Qr=Qr (some d::ρ):=rfl
theorem NL:wNm (n+1) d (od::ρ) Qr=wNm n d ρ fun r=>Qr (od::r):=rfl
theorem NM:wBs [] [] ρ Qr=Qr ρ:=rfl
theorem NN:wBs (.name m::ts) (d::ds) ρ Qr=wNm m d ρ fun r=>wBs ts ds r Qr:=rfl
theorem NP:wBd (.name m) d ρ Qr=wNm m d ρ Qr:=rfl
theorem NQ:wBd (.tup ts) d ρ Qr=wTp ts d ρ Qr:=rfl
theorem NR:wTp ts (.tup ds) ρ Qr=wBs ts ds ρ Qr:=rfl
theorem EA:wII .add i j S Q=Q (.int (i+j)) S:=rfl
theorem EB:wII .sub i j S Q=Q (.int (i - j)) S:=rfl
theorem EC:wII .mul i j S Q=(jc i j=true/\Q (.int (i * j)) S):=rfl
theorem ED:wII .mod i j S Q=(0 < j/\Q (.int (i % j)) S):=rfl
theorem Bt:wII .fdiv i j S Q=((0 < j/\j < 1073741824)/\Q (.int (i / j)) S):=rfl
theorem EF:wII .pow i j S Q=((0<=j/\j<=1000000/\i.natAbs < 2 ^ 64)/\Q (.int (i ^ j.toNat)) S):=rfl
theorem EG:wTT .add xs ys S Q=(xs.length+ys.length<=1000/\Q (.tup (xs++ys)) S):=rfl
theorem EH:A7 o i (.int j) S Q=wII o i j S Q:=rfl
theorem EI:wy o xs (.tup ys) S Q=wTT o xs ys S Q:=rfl
theorem EJ:wy o xs (.int j) S Q=Ok (bL o (.tup xs) (.int j) S) Q:=rfl
theorem KA:uN o (.int i) y S Q=A7 o i y S Q:=rfl
theorem KB:uN o (.tup xs) y S Q=wy o xs y S Q:=rfl
theorem KC:uN o (.ref n) y S Q=Ok (bL o (.ref n) y S) Q:=rfl
theorem KD:uN o (.str s) y S Q=Ok (bL o (.str s) y S) Q:=rfl
theorem KF:wCI .eq i j S Q=Q (.bl (decide (i=j))) S:=rfl
theorem KG:wCm .eq x y S Q=wCx .eq x y S Q:=rfl
theorem KH:wCI .ne i j S Q=Q (.bl (!decide (i=j))) S:=rfl
theorem KI:wCm .ne x y S Q=wCx .ne x y S Q:=rfl
theorem KJ:wCI .lt i j S Q=Q (.bl (decide (i < j))) S:=rfl
theorem KK:wCm .lt x y S Q=wCx .lt x y S Q:=rfl
theorem KL:wCI .le i j S Q=Q (.bl (decide (i<=j))) S:=rfl
theorem KM:wCm .le x y S Q=wCx .le x y S Q:=rfl
theorem KN:wCI .gt i j S Q=Q (.bl (decide (j < i))) S:=rfl
theorem KO:wCm .gt x y S Q=wCx .gt x y S Q:=rfl
theorem KP:wCI .ge i j S Q=Q (.bl (decide (j<=i))) S:=rfl
theorem KQ:wCm .ge x y S Q=wCx .ge x y S Q:=rfl
theorem KR:wCm .is x y S Q=Ok (av .is x y S) Q:=rfl
theorem yg:wCm .isnot x y S Q=Ok (av .isnot x y S) Q:=rfl
theorem Bu:wCm .isin x y S Q=Ok (av .isin x y S) Q:=rfl
theorem yh:wCm .notin x y S Q=Ok (av .notin x y S) Q:=rfl
theorem NS:wCx c (.int i) y S Q=Js c i y S Q:=rfl
theorem NT:wCx c (.tup xs) y S Q=yd c xs y S Q:=rfl
theorem NU:wCx c .non y S Q=Ok (av c .non y S) Q:=rfl
theorem NV:wCx c (.bl t) y S Q=Ok (av c (.bl t) y S) Q:=rfl
theorem NW:wCx c (.str s) y S Q=Ok (av c (.str s) y S) Q:=rfl
theorem NX:wCx c (.ref n) y S Q=Ok (av c (.ref n) y S) Q:=rfl
theorem KS:Js c i (.int j) S Q=wCI c i j S Q:=rfl
theorem KU:yd .eq xs (.tup []) S Q=Q (.bl xs.isEmpty) S:=rfl
theorem KW:yd .ne xs (.tup []) S Q=Q (.bl (!xs.isEmpty)) S:=rfl
theorem EK:yd .eq xs (.tup (y::ys)) S Q=Ok (av .eq (.tup xs) (.tup (y::ys)) S) Q:=rfl
theorem EL:yd .ne xs (.tup (y::ys)) S Q=Ok (av .ne (.tup xs) (.tup (y::ys)) S) Q:=rfl
theorem KY:uO l h (.tup ds) S Q=Q (.tup (gZ ds l h)) S:=rfl
theorem KZ:uO l h (.ref n) S Q=Ok (slS l h (.ref n) S) Q:=rfl
theorem K0:Bb (.tup ds) S Qn=Qn (nxL ds) S:=rfl
theorem K1:Bb (.ref n) S Qn=((am S n).isSome=true/\Qn (nxS n) S):=rfl
theorem K2:Bc (.tup ds) S Qn=Qn (uy ds) S:=rfl
theorem K3:Bc (.ref n) S Qn=((am S n).isSome=true/\Qn (xU n) S):=rfl
theorem EM:aH (.bl t) S Qt=Qt t S:=rfl
theorem EN:aH (.tup ds) S Qt=Qt (!ds.isEmpty) S:=rfl
theorem EO:aH (.int i) S Qt=Qt (i != 0) S:=rfl
theorem ER:aH (.ref n) S Qt=Ok (mq (.ref n) S) Qt:=rfl
theorem OU:w2 g [x,y] S Q=g x y S Q:=rfl
theorem K4:Bg (.int i) (.int j) S Q=Q (.int (if j > i then j else i)) S:=rfl
theorem K5:Bh (.int i) (.int j) S Q=Q (.int (if j < i then j else i)) S:=rfl
theorem ES:aV (ag (.lst es)) wl wv ρ S Ql Q=wl ρ S Ql:=rfl
theorem uT:aV (ag (.listOf a)) wl wv ρ S Ql Q=wl ρ S Ql:=rfl
theorem yi:aV (ag (.listR a)) wl wv ρ S Ql Q=wl ρ S Ql:=rfl
theorem ET:aV (ag (.srt a)) wl wv ρ S Ql Q=wl ρ S Ql:=rfl
theorem Bv:aV (ag (.comp own a rest)) wl wv ρ S Ql Q=wl ρ S Ql:=rfl
theorem EU:aV (ag (.non)) wl wv ρ S Ql Q=wv ρ S Q:=rfl
theorem K6:aV (ag (.bl t)) wl wv ρ S Ql Q=wv ρ S Q:=rfl
theorem EV:aV (ag (.int i)) wl wv ρ S Ql Q=wv ρ S Q:=rfl
theorem EW:aV (ag (.str s)) wl wv ρ S Ql Q=wv ρ S Q:=rfl
theorem EX:aV (ag (.var m)) wl wv ρ S Ql Q=wv ρ S Q:=rfl
theorem EY:aV (ag (.con m i)) wl wv ρ S Ql Q=wv ρ S Q:=rfl
theorem EZ:aV (ag (.tup es)) wl wv ρ S Ql Q=wv ρ S Q:=rfl
theorem Bw:aV (ag (.dic0)) wl wv ρ S Ql Q=wv ρ S Q:=rfl
theorem Bx:aV (ag (.dic1 i j)) wl wv ρ S Ql Q=wv ρ S Q:=rfl
theorem E5:aV (ag (.bin o a b)) wl wv ρ S Ql Q=wv ρ S Q:=rfl
theorem E6:aV (ag (.neg a)) wl wv ρ S Ql Q=wv ρ S Q:=rfl
theorem E7:aV (ag (.cmp c a b)) wl wv ρ S Ql Q=wv ρ S Q:=rfl
theorem E8:aV (ag (.chn c p a b e)) wl wv ρ S Ql Q=wv ρ S Q:=rfl
theorem E9:aV (ag (.and a b)) wl wv ρ S Ql Q=wv ρ S Q:=rfl
theorem K7:aV (ag (.or a b)) wl wv ρ S Ql Q=wv ρ S Q:=rfl
theorem Fa:aV (ag (.not a)) wl wv ρ S Ql Q=wv ρ S Q:=rfl
theorem K8:aV (ag (.ix a b)) wl wv ρ S Ql Q=wv ρ S Q:=rfl
theorem K9:aV (ag (.sl a oa ob)) wl wv ρ S Ql Q=wv ρ S Q:=rfl
theorem Bz:aV (ag (.call f es)) wl wv ρ S Ql Q=wv ρ S Q:=rfl
theorem BA:aV (ag (.inst ty a)) wl wv ρ S Ql Q=wv ρ S Q:=rfl
theorem Fb:aV (ag (.len a)) wl wv ρ S Ql Q=wv ρ S Q:=rfl
theorem Fc:aV (ag (.all a)) wl wv ρ S Ql Q=wv ρ S Q:=rfl
theorem Fd:aV (ag (.any a)) wl wv ρ S Ql Q=wv ρ S Q:=rfl
theorem yj:aV (ag (.tupOf a)) wl wv ρ S Ql Q=wv ρ S Q:=rfl
theorem Fe:aV (ag (.mxL a)) wl wv ρ S Ql Q=wv ρ S Q:=rfl
theorem yk:aV (ag (.intOf a)) wl wv ρ S Ql Q=wv ρ S Q:=rfl
theorem La:aV (ag (.mx a b)) wl wv ρ S Ql Q=wv ρ S Q:=rfl
theorem Lb:aV (ag (.mn a b)) wl wv ρ S Ql Q=wv ρ S Q:=rfl
theorem Ff:aV (ag (.rep a)) wl wv ρ S Ql Q=wv ρ S Q:=rfl
theorem Fg:aV (ag (.app a b)) wl wv ρ S Ql Q=wv ρ S Q:=rfl
theorem ym:aV (ag (.popAt a b)) wl wv ρ S Ql Q=wv ρ S Q:=rfl
theorem Fh:aV (ag (.ins a b e)) wl wv ρ S Ql Q=wv ρ S Q:=rfl
theorem Fi:aV (ag (.cnt a b)) wl wv ρ S Ql Q=wv ρ S Q:=rfl
theorem aa {α:Type} {z:Option (α × Sto)} {r:α} {S2:Sto} {K:α->Sto->Prop} (e:z=some (r,S2)) (q:K r S2):Ok z K:=⟨r,S2,e,q⟩
theorem bT (h1:t=true->A) (h2:t=false->B):wIf t A B:=by
 cases t with
 | true=>exact h1 rfl
 | false=>exact h2 rfl
end
end Ev
local macro_rules | `(tactic| k_go)=>`(tactic| dsimp only [↓Ev.JG,↓Ev.Na,↓Ev.JH,↓Ev.JI,↓Ev.JJ,↓Ev.JK,↓Ev.JL,↓Ev.JM,↓Ev.Eg,↓Ev.Eh,↓Ev.JN,↓Ev.JO,↓Ev.JP,↓Ev.JQ,↓Ev.JR,↓Ev.Nb,↓Ev.JS,↓Ev.Nc,↓Ev.Ei,↓Ev.Ej,↓Ev.Ek,↓Ev.El,↓Ev.Em,↓Ev.En,↓Ev.JT,↓Ev.JU,↓Ev.JV,↓Ev.Bn,↓Ev.JW,↓Ev.ye,↓Ev.Bo,↓Ev.JX,↓Ev.Bp,↓Ev.Nd,↓Ev.Nf,↓Ev.JY,↓Ev.Eo,↓Ev.JZ,↓Ev.Bq,↓Ev.J0,↓Ev.J1,↓Ev.OM,↓Ev.OO,↓Ev.J2,↓Ev.yf,↓Ev.Bs,↓Ev.J3,↓Ev.Ep,↓Ev.J4,↓Ev.Ni,↓Ev.Nj,↓Ev.Nk,↓Ev.J5,↓Ev.J6,↓Ev.J7,↓Ev.Nl,↓Ev.J8,↓Ev.Nm,↓Ev.J9,↓Ev.Er,↓Ev.Es,↓Ev.Ka,↓Ev.Kb,↓Ev.Kc,↓Ev.Nn,↓Ev.Kd,↓Ev.Ke,↓Ev.OP,↓Ev.OQ,↓Ev.OS,↓Ev.OT,↓Ev.Kf,↓Ev.Et,↓Ev.Kg,↓Ev.Np,↓Ev.Kh,↓Ev.Ki,↓Ev.Kj,↓Ev.Kk,↓Ev.Nq,↓Ev.Nt,↓Ev.Nu,↓Ev.Nv,↓Ev.Kl,↓Ev.Km,↓Ev.Kn,↓Ev.Eu,↓Ev.Ew,↓Ev.Ex,↓Ev.Ey,↓Ev.Ez,↓Ev.Nw,↓Ev.Nx,↓Ev.Ko,↓Ev.Kq,↓Ev.Ny,↓Ev.Kr,↓Ev.Ks,↓Ev.Kt,↓Ev.Nz,↓Ev.ND,↓Ev.Ku,↓Ev.Kv,↓Ev.NG,↓Ev.NH,↓Ev.Kw,↓Ev.Kx,↓Ev.Ky,↓Ev.Kz,↓Ev.NI,↓Ev.NJ,↓Ev.NK,↓Ev.NL,↓Ev.NM,↓Ev.NN,↓Ev.NP,↓Ev.NQ,↓Ev.NR,↓Ev.EA,↓Ev.EB,↓Ev.EC,↓Ev.ED,↓Ev.Bt,↓Ev.EF,↓Ev.EG,↓Ev.EH,↓Ev.EI,↓Ev.EJ,↓Ev.KA,↓Ev.KB,↓Ev.KC,↓Ev.KD,↓Ev.KF,↓Ev.KG,↓Ev.KH,↓Ev.KI,↓Ev.KJ,↓Ev.KK,↓Ev.KL,↓Ev.KM,↓Ev.KN,↓Ev.KO,↓Ev.KP,↓Ev.KQ,↓Ev.KR,↓Ev.yg,↓Ev.Bu,↓Ev.yh,↓Ev.NS,↓Ev.NT,↓Ev.NU,↓Ev.NV,↓Ev.NW,↓Ev.NX,↓Ev.KS,↓Ev.KU,↓Ev.KW,↓Ev.EK,↓Ev.EL,↓Ev.KY,↓Ev.KZ,↓Ev.K0,↓Ev.K1,↓Ev.K2,↓Ev.K3,↓Ev.EM,↓Ev.EN,↓Ev.EO,↓Ev.ER,↓Ev.OU,↓Ev.K4,↓Ev.K5,↓Ev.ES,↓Ev.uT,↓Ev.yi,↓Ev.ET,↓Ev.Bv,↓Ev.EU,↓Ev.K6,↓Ev.EV,↓Ev.EW,↓Ev.EX,↓Ev.EY,↓Ev.EZ,↓Ev.Bw,↓Ev.Bx,↓Ev.E5,↓Ev.E6,↓Ev.E7,↓Ev.E8,↓Ev.E9,↓Ev.K7,↓Ev.Fa,↓Ev.K8,↓Ev.K9,↓Ev.Bz,↓Ev.BA,↓Ev.Fb,↓Ev.Fc,↓Ev.Fd,↓Ev.yj,↓Ev.Fe,↓Ev.yk,↓Ev.La,↓Ev.Lb,↓Ev.Ff,↓Ev.Fg,↓Ev.ym,↓Ev.Fh,↓Ev.Fi,↓Ev.IW,↓Ev.IX])
local macro_rules | `(tactic| k_is)=>`(tactic| ((with_reducible first | refine Ev.JF ?_ | refine Ev.JD ?_ | refine Ev.wcl_ok ?_ | skip);(try dsimp only [List.set_cons_zero,List.set_cons_succ]);(try k_go);(repeat ((with_reducible first | refine Ev.Bm ?_ | refine Ev.Ef ?_);(try k_go)))))
namespace Lw
open PySem Ev
variable {p:Nat} {S:Sto} {k:Nat} {Q:D->Sto->Prop}
theorem ny {t:Dw.D} {d:D} (h:TD p S t d) (q:Q (.bl (Dw.isW t)) S):Ok (evC af (k+1) fb [d] S) Q:=by
 refine aw (d:=iI) (ρ:=[some d]) rfl rfl ?_;dsimp only [iI,m8];k_is;refine aa (dJ h) ?_;k_is;cases t <;> first | exact q | (k_is;rw [dJ h,al];exact q)
theorem bU {t:Dw.D} {d:D} {a b:Int} (h:TD p S t d) (q:Q (.bl (Dw.az t a b)) S):Ok (evC af (k+2) bj [d,.int a,.int b] S) Q:=by
 refine aw (d:=ga) (ρ:=[some d,some (.int a),some (.int b)]) rfl rfl ?_;dsimp only [ga,kG];k_is;refine ⟨rfl,ny h ?_⟩;k_is;cases t with
 | int i=>
  obtain rfl:=h.int;dsimp only [Dw.isW];k_is;dsimp only [Dw.az] at q;cases c:decide (a<=i) with
  | true=>rw [c] at q;exact q
  | false=>rw [c] at q;exact q
 | _=>exact q
theorem gS {t:Dw.D} {d:D} (h:TD p S t d) (q:Q (.bl (Dw.az t 0 9999)) S):Ok (evC af (k+3) cv [d] S) Q:=by
 refine aw (d:=gc) (ρ:=[some d]) rfl rfl ?_;dsimp only [gc,kH];k_is;exact ⟨rfl,bU h q⟩
theorem bz {t:Dw.D} {d:D} {a b:Int} (h:TD p S t d) (q:Q (.bl (Dw.isT t a b)) S):Ok (evC af (k+1) aW [d,.int a,.int b] S) Q:=by
 refine aw (d:=iJ) (ρ:=[some d,some (.int a),some (.int b)]) rfl rfl ?_;dsimp only [iJ,m9];k_is;refine aa (dJ h) ?_;k_is;cases t with
 | tup ts=>
  obtain ⟨ds,rfl,hs⟩:=h.tup;rw [show dC Ty.tuple (tyT (Dw.D.tup ts))=true from rfl];k_is;refine aa (iT hs) ?_;k_is;dsimp only [Dw.isT] at q;cases c:decide (a<=(ts.length:Int)) with
  | true=>rw [c] at q;exact q
  | false=>rw [c] at q;exact q
 | _=>exact q
theorem Lc {t:Dw.D} {d:D} {n:Nat} (h:TD p S t d) (hn:n<=1000) (q:∀ S',Sm S S'->Q (.bl (Dw.hV n t)) S'):Ok (evC af (k+3) jt [d,.int n] S) Q:=by
 refine aw (d:=fg) (ρ:=[some d,some (.int n)]) rfl rfl ?_;dsimp only [fg,jA];k_is;refine ⟨rfl,bz h ?_⟩;k_is;cases t with
 | tup ts=>
  obtain ⟨ds,rfl,hs⟩:=h.tup;rw [Dw.pQ];by_cases hl:ts.length=n
  ·rw [decide_eq_true hl];k_is;refine fq hs (by omega) (fun e=>Dw.az e 1 99) (fun i t d S' _ sm td=>⟨_,rfl,?_⟩) fun S' sm=>?_
   ·k_is;exact ⟨rfl,bU td ⟨rfl,Sm.refl _⟩⟩
   ·rw [b7,al];have:=q S' sm;simp only [Dw.hV,decide_eq_true hl,ZT] at this;exact this
  ·rw [decide_eq_false hl];k_is;have:=q S (Sm.refl S);simp only [Dw.hV,decide_eq_false hl,ZX] at this;exact this
 | _=>exact q S (Sm.refl S)
theorem Ld {rows:List Dw.D} {d:D} (h:TD p S (.tup rows) d) (hl:rows.length<=4) (hr:rows.all (Dw.hV rows.length)=true) (q:∀ S',Sm S S'->Q (.bl ((Dw.xu rows rows.length).all id)) S'):Ok (evC af (k+1) bN [d] S) Q:=by
 obtain ⟨ds,rfl,hs⟩:=h.tup;refine aw (d:=bc) (ρ:=[some (.tup ds),none]) rfl rfl ?_;dsimp only [bc,bO];k_is;refine aa (iT hs) ?_;refine ⟨_,rfl,by omega,?_⟩;k_is;have hm:(S++[Ob.lst ((Zj rows.length).map fun j=>D.int (Int.ofNat j))])[S.length]?=some (.lst ((Zj rows.length).map fun j=>D.int (Int.ofNat j))):=by rw [Zq (Zd _),Yh];rfl
 have sq:∀ S',Sm (S++[Ob.lst ((Zj rows.length).map fun j=>D.int (Int.ofNat j))]) S'->(am S' S.length).isSome=true:=fun S' sm=>by simp only [am,sm _ _ hm];rfl
 refine ⟨sq _ (Sm.refl _),?_⟩;refine (uL hm (by omega) (fun a=>(Zj rows.length).flatMap fun b=>(Zj rows.length).flatMap fun c=>[.bl (Dw.tX rows a b c)]) fun a S1 ha sm1=>⟨_,rfl,?_⟩).mono fun es S2 ⟨ee,sm⟩=>?_
 ·k_is;refine ⟨sq _ sm1,?_⟩;refine uL (sm1 _ _ hm) (by omega) _ fun b S2 hb sm2=>⟨_,rfl,?_⟩;k_is;refine ⟨sq _ (sm1.trans sm2),?_⟩;refine uL (sm2 _ _ (sm1 _ _ hm)) (by omega) _ fun c S3 hc sm3=>⟨_,rfl,?_⟩;k_is;have hs3:TDs p S3 rows ds:=hs.keep (((Sm.app S _).trans sm1).trans (sm2.trans sm3)).kp;obtain ⟨ra,xab,e1,e2,e3,_⟩:=Dw.pR hr ha hb;obtain ⟨ra',xac,e1',e2',e3',_⟩:=Dw.pR hr ha hc;obtain ⟨rc,xcb,f1,f2,f3,_⟩:=Dw.pR hr hc hb;rw [e1] at e1';cases e1';refine bG hs3 e1 fun d1 t1=>?_;obtain ⟨da,rfl,ha'⟩:=t1.tup;refine bG ha' e2 fun d2 t2=>?_;obtain rfl:=t2.int;refine bG hs3 e1 fun d1 t1=>?_;obtain ⟨da',rfl,ha''⟩:=t1.tup;refine bG ha'' e2' fun d2 t2=>?_;obtain rfl:=t2.int;refine bG hs3 f1 fun d1 t1=>?_;obtain ⟨dc,rfl,hc'⟩:=t1.tup;refine bG hc' f2 fun d2 t2=>?_;obtain rfl:=t2.int;k_is;refine ⟨?_,Sm.refl _⟩;rw [<-e3,<-e3',<-f3];rfl
 ·subst ee
  have e:((Zj rows.length).flatMap fun a=>(Zj rows.length).flatMap fun b=>(Zj rows.length).flatMap fun c=>[D.bl (Dw.tX rows a b c)])=(Dw.xu rows rows.length).map fun b=>D.bl b:=by
   have one:∀ (l:List Nat) (f:Nat->D),(l.flatMap fun c=>[f c])=l.map f:=fun l f=>by
    induction l with
    | nil=>rfl
    | cons a l ih=>rw [YD,ih];rfl
   unfold Dw.xu;simp only [List.map_flatMap,ZV,Function.comp_def,one]
  rw [e,b7,al];refine ⟨?_,?_⟩
  ·rw [Za]
   have:=Dw.vD (n:=rows.length) (m:=16) (f:=fun a=>(Zj rows.length).flatMap fun b=>(Zj rows.length).map fun c=>Dw.tX rows a b c) fun a _=>by
    have:=Dw.vD (n:=rows.length) (m:=4) (f:=fun b=>(Zj rows.length).map fun c=>Dw.tX rows a b c) fun b _=>by rw [Za,ZL];exact hl
    omega
   unfold Dw.xu;omega
  ·exact q _ ((Sm.app S _).trans sm)
end Lw
namespace Lw
open PySem Ev
variable {p:Nat} {S:Sto} {k:Nat} {Q:D->Sto->Prop}
theorem Fj {t:Dw.D} {d:D} (h:TD p S t d) (q:∀ S',Sm S S'->Q (.bl (Dw.bX t)) S'):Ok (evC af (k+4) mY [d] S) Q:=by
 refine aw (d:=iK) (ρ:=[some d]) rfl rfl ?_;dsimp only [iK,nc];k_is;refine ⟨rfl,bz h ?_⟩;k_is;cases t with
 | tup ts=>
  obtain ⟨ds,rfl,hs⟩:=h.tup;rw [Dw.Ht];by_cases hl:1<=ts.length/\ts.length<=4
  ·rw [decide_eq_true hl.1,decide_eq_true hl.2];k_is;refine fq hs (by omega) (Dw.hV ts.length) (fun i t d S' _ sm td=>⟨_,rfl,?_⟩) fun S' sm=>?_
   ·k_is;have hs':TDs p S' ts ds:=hs.keep sm.kp;refine aa (iT hs') ?_;exact ⟨rfl,Lc td (by omega) fun S2 sm2=>⟨rfl,sm2⟩⟩
   ·rw [b7,al];k_is;refine bT (fun hr=>?_) fun hr=>?_
    ·refine ⟨rfl,Ld (h.keep sm.kp) hl.2 hr fun S2 sm2=>?_⟩;have:=q S2 (sm.trans sm2);simp only [Dw.bX,decide_eq_true hl.1,decide_eq_true hl.2,hr,ZT] at this;exact this
    ·have:=q S' sm;simp only [Dw.bX,decide_eq_true hl.1,decide_eq_true hl.2,hr,ZT,ZX] at this;exact this
  ·have e:(decide (1<=ts.length) && decide (ts.length<=4))=false:=by simpa using hl
   rw [e];have:=q S (Sm.refl S);simp only [Dw.bX,e,ZX] at this;exact this
 | _=>exact q S (Sm.refl S)
theorem uU {t:Dw.D} {d:D} (h:TD p S t d) (q:Q (.bl (Dw.a8 t)) S):Ok (evC af (k+4) ju [d] S) Q:=by
 refine aw (d:=fh) (ρ:=[some d]) rfl rfl ?_;dsimp only [fh,jB];k_is;refine ⟨rfl,bz h ?_⟩;k_is;cases t with
 | tup ts=>
  obtain ⟨ds,rfl,hs⟩:=h.tup;rw [Dw.tY];by_cases hl:ts.length=2
  ·obtain ⟨b,e,rfl⟩:=Dw.pS hl;rw [decide_eq_true hl];k_is;refine bG (i:=0) hs rfl fun d1 t1=>⟨rfl,gS t1 ?_⟩;k_is;simp only [Dw.a8] at q;refine bT (fun h1=>?_) fun h1=>?_
   ·rw [h1] at q;refine bG (i:=1) hs rfl fun d2 t2=>⟨rfl,gS t2 ?_⟩;k_is;refine bT (fun h2=>?_) fun h2=>?_
    ·rw [h2] at q;refine bG (i:=0) hs rfl fun d1 t1=>bG (i:=1) hs rfl fun d2 t2=>?_;obtain ⟨i,rfl,_⟩:=Dw.aD h1;obtain ⟨j,rfl,_⟩:=Dw.aD h2;obtain rfl:=t1.int;obtain rfl:=t2.int;exact q
    ·rw [h2] at q;exact q
   ·rw [h1] at q;exact q
  ·rw [decide_eq_false hl];rw [Dw.t5 hl] at q;exact q
 | _=>exact q
theorem BB {t:Dw.D} {d:D} (h:TD p S t d) (q:∀ S',Sm S S'->Q (.bl (Dw.bH t)) S'):Ok (evC af (k+5) kA [d] S) Q:=by
 refine aw (d:=gg) (ρ:=[some d]) rfl rfl ?_;dsimp only [gg,kJ];k_is;refine ⟨rfl,bz h ?_⟩;k_is;cases t with
 | tup ts=>
  obtain ⟨ds,rfl,hs⟩:=h.tup;rw [Dw.Hu];by_cases hl:ts.length<=4
  ·rw [decide_eq_true hl];k_is;refine fq hs (by omega) Dw.a8 (fun i t d S' _ sm td=>⟨_,rfl,?_⟩) fun S' sm=>?_
   ·k_is;exact ⟨rfl,uU td ⟨rfl,Sm.refl _⟩⟩
   ·rw [b7,al];k_is;have hs':TDs p S' ts ds:=hs.keep sm.kp;cases hr:ts.all Dw.a8 with
    | false=>
     k_is;have:=q S' sm;simp only [Dw.bH,decide_eq_true hl,hr,ZT,ZX] at this;exact this
    | true=>
     k_is;refine aa (iT hs') ?_;k_is;refine ⟨⟨by decide,by simp only [lim,bAE,decide_eq_true_eq];omega⟩,?_⟩;have en:((ts.length:Int) - 1).toNat=ts.length - 1:=by omega
     rw [en];refine DY (by omega) (fun i=>decide (Dw.kr ts i < Dw.kq ts (i+1))) (fun i S2 hi sm2=>⟨_,rfl,?_⟩) fun S2 sm2=>?_
     ·k_is;have hs2:TDs p S2 ts ds:=hs'.keep sm2.kp;obtain ⟨b1,e1,f1,f2,f3⟩:=Dw.vF (i:=i+1) hr (by omega);obtain ⟨b0,e0,g1,g2,g3⟩:=Dw.vF (i:=i) hr (by omega);have z1:(1:Int)+i=((i+1:Nat):Int):=by omega
      have z2:(1:Int)+i - 1=((i:Nat):Int):=by omega
      rw [z1];refine bG hs2 f1 fun d1 t1=>?_;obtain ⟨x1,rfl,y1⟩:=t1.tup;refine bG (i:=0) y1 rfl fun d2 t2=>?_;obtain rfl:=t2.int;have z3:((i+1:Nat):Int) - 1=((i:Nat):Int):=by omega
      rw [z3];refine bG hs2 g1 fun d1 t1=>?_;obtain ⟨x1,rfl,y1⟩:=t1.tup;refine bG (i:=1) y1 rfl fun d2 t2=>?_;obtain rfl:=t2.int;k_is;rw [f2,g3];exact ⟨rfl,Sm.refl _⟩
     ·rw [b7,al];have:=q S2 (sm.trans sm2);simp only [Dw.bH,decide_eq_true hl,hr,ZT] at this;have e:(Dw.pP ts).all id=(Zj (ts.length - 1)).all fun i=>decide (Dw.kr ts i < Dw.kq ts (i+1)):=by unfold Dw.pP;rw [ZP];rfl
      rw [<-e];exact this
  ·rw [decide_eq_false hl];k_is;have:=q S (Sm.refl S);simp only [Dw.bH,decide_eq_false hl,ZX] at this;exact this
 | _=>exact q S (Sm.refl S)
end Lw
namespace Lw
open PySem Ev
variable {p:Nat} {S:Sto} {k:Nat} {Q:D->Sto->Prop}
theorem Lf {a b c e:Dw.D} {ds:List D} (h:TDs p S [a,b,c,e] ds):∃ w x y z,ds=[w,x,y,z]/\TD p S a w/\TD p S b x/\TD p S c y/\TD p S e z:=by
 obtain ⟨w,_,rfl,h1,h⟩:=h.cons;obtain ⟨x,_,rfl,h2,h⟩:=h.cons;obtain ⟨y,_,rfl,h3,h⟩:=h.cons;obtain ⟨z,_,rfl,h4,h⟩:=h.cons;obtain rfl:=h.nil;exact ⟨w,x,y,z,rfl,h1,h2,h3,h4⟩
theorem yn {t:Dw.D} {d:D} (h:TD p S t d) (q:∀ S',Sm S S'->Q (.bl (Dw.bP t)) S'):Ok (evC af (k+6) kz [d] S) Q:=by
 refine aw (d:=gf) (ρ:=[some d,none,none,none,none]) rfl rfl ?_;dsimp only [gf,kI];k_is;refine ⟨rfl,bz h ?_⟩;k_is;cases t with
 | tup ts=>
  obtain ⟨ds,rfl,hs⟩:=h.tup;rw [Dw.zm];by_cases hl:ts.length=4
  ·obtain ⟨a,b,c,e,rfl⟩:=Dw.vE hl;obtain ⟨w,x,y,z,rfl,h1,h2,h3,h4⟩:=Lf hs;rw [decide_eq_true hl];k_is;refine ⟨rfl,bU h1 ?_⟩;rw [Dw.FX] at q;k_is;cases e1:Dw.az a 0 8 with
   | false=>rw [e1] at q;exact q S (Sm.refl S)
   | true=>
    rw [e1] at q;k_is;refine ⟨rfl,bU h2 ?_⟩;k_is;cases e2:Dw.az b 0 60 with
    | false=>rw [e2] at q;exact q S (Sm.refl S)
    | true=>
     rw [e2] at q;k_is;refine ⟨rfl,Fj h3 fun S1 sm=>?_⟩;k_is;cases e3:Dw.bX c with
     | false=>rw [e3] at q;exact q S1 sm
     | true=>
      rw [e3] at q;k_is;exact ⟨rfl,BB (h4.keep sm.kp) fun S2 sm2=>q S2 (sm.trans sm2)⟩
  ·rw [decide_eq_false hl];k_is;have:=q S (Sm.refl S)
   have e:Dw.bP (.tup ts)=false:=by
    unfold Dw.bP;split
    ·rename_i he;cases he;exact absurd rfl hl
    ·rfl
   rw [e] at this;exact this
 | _=>exact q S (Sm.refl S)
theorem wH {r s h' t:Dw.D} {rows:List Dw.D} {m d:D} (hm:TD p S (.tup [r,s,.tup rows,h']) m) (h:TD p S t d) (q:Q (.bl (Dw.az t 0 ((rows.length:Int) - 1))) S):Ok (evC af (k+3) jY [m,d] S) Q:=by
 obtain ⟨ds,rfl,hs⟩:=hm.tup;obtain ⟨w,x,y,z,rfl,h1,h2,h3,h4⟩:=Lf hs;obtain ⟨rs,rfl,hr⟩:=h3.tup;refine aw (d:=j4) (ρ:=[some _,some d]) rfl rfl ?_;dsimp only [j4,oZ];k_is;refine bG (i:=2) hs rfl fun d1 t1=>?_;obtain ⟨rs,rfl,hr⟩:=t1.tup;refine aa (iT hr) ?_;k_is;exact ⟨rfl,bU h q⟩
theorem BC {r s h' t:Dw.D} {rows:List Dw.D} {m d:D} (hm:TD p S (.tup [r,s,.tup rows,h']) m) (h:TD p S t d) (q:Q (.bl (Dw.cL rows.length t)) S):Ok (evC af (k+4) mZ [m,d] S) Q:=by
 refine aw (d:=iM) (ρ:=[some m,some d]) rfl rfl ?_;dsimp only [iM,ng];k_is;refine aa (MS h) ?_;k_is;cases t with
 | non=>exact q
 | tup ts=>
  obtain ⟨ds,rfl,hs⟩:=h.tup;dsimp only [Jf];k_is;refine ⟨rfl,bz h ?_⟩;k_is;rw [Dw.tY];by_cases hl:ts.length=2
  ·obtain ⟨b,e,rfl⟩:=Dw.pS hl;rw [decide_eq_true hl];k_is;refine bG (i:=0) hs rfl fun d1 t1=>⟨rfl,wH hm t1 ?_⟩;simp only [Dw.cL] at q;k_is;cases e1:Dw.az b 0 ((rows.length:Int) - 1) with
   | false=>rw [e1] at q;exact q
   | true=>
    rw [e1] at q;k_is;exact bG (i:=1) hs rfl fun d2 t2=>⟨rfl,gS t2 q⟩
  ·rw [decide_eq_false hl];rw [Dw.zt hl] at q;exact q
 | _=>exact ⟨rfl,bz h (by k_is;exact q)⟩
end Lw
namespace Lw
open PySem Ev
variable {p:Nat} {S:Sto} {k:Nat} {Q:D->Sto->Prop}
theorem yo {t:Dw.D} {d:D} {n:Nat} (h:TD p S t d) (hn:n<=1000) (q:∀ S',Sm S S'->Q (.bl (Dw.cU n t)) S'):Ok (evC af (k+3) jr [d,.int n] S) Q:=by
 refine aw (d:=ff) (ρ:=[some d,some (.int n)]) rfl rfl ?_;dsimp only [ff,jz];k_is;refine ⟨rfl,bz h ?_⟩;k_is;cases t with
 | tup ts=>
  obtain ⟨ds,rfl,hs⟩:=h.tup;rw [Dw.zu];by_cases hl:ts.length<=n
  ·rw [decide_eq_true hl];k_is;refine fq hs (by omega) (fun e=>Dw.az e 0 ((n:Int) - 1)) (fun i t d S' _ sm td=>⟨_,rfl,?_⟩) fun S' sm=>?_
   ·k_is;exact ⟨rfl,bU td ⟨rfl,Sm.refl _⟩⟩
   ·rw [b7,al];k_is;cases hr:ts.all (fun e=>Dw.az e 0 ((n:Int) - 1)) with
    | false=>
     k_is;have:=q S' sm;simp only [Dw.cU,hr,ZX,Bool.and_false] at this;exact this
    | true=>
     k_is;have ei:=qB hr hs;subst ei;refine fq (hs.keep sm.kp) (by omega) (fun t=>decide (((XF (Dw.intOf t) (Dw.bI ts):Nat):Int)=1)) (fun i t d S2 ht sm2 td=>⟨_,rfl,?_⟩) fun S2 sm2=>?_
     ·obtain ⟨j,rfl,_⟩:=Dw.aD (Zx.mp hr t (Zm ht));obtain rfl:=td.int;k_is;refine ⟨rfl,?_⟩;rw [AX,al];k_is;exact ⟨rfl,Sm.refl _⟩
     ·rw [b7,al];have:=q S2 (sm.trans sm2)
      have e:(ts.all fun t=>decide (((XF (Dw.intOf t) (Dw.bI ts):Nat):Int)=1))=Dw.i8 (Dw.bI ts):=by
       rw [<-Dw.rm,ZP]
       conv=>rhs;unfold Dw.bI
       rw [ZP];rfl
      simp only [Dw.cU,hr,decide_eq_true hl,ZT] at this;rw [e];exact this
  ·rw [decide_eq_false hl];k_is;have:=q S (Sm.refl S);simp only [Dw.cU,decide_eq_false hl,ZX] at this;exact this
 | _=>dsimp only [Dw.isT];k_is;exact q S (Sm.refl S)
theorem NY {a b c e f g i:Dw.D} {ds:List D} (h:TDs p S [a,b,c,e,f,g,i] ds):∃ t u v w x y z,ds=[t,u,v,w,x,y,z]/\TD p S a t/\TD p S b u/\TD p S c v/\TD p S e w/\TD p S f x/\TD p S g y/\TD p S i z:=by
 obtain ⟨t,_,rfl,h1,h⟩:=h.cons;obtain ⟨u,_,rfl,h2,h⟩:=h.cons;obtain ⟨v,_,rfl,h3,h⟩:=h.cons;obtain ⟨w,_,rfl,h4,h⟩:=h.cons;obtain ⟨x,_,rfl,h5,h⟩:=h.cons;obtain ⟨y,_,rfl,h6,h⟩:=h.cons;obtain ⟨z,_,rfl,h7,h⟩:=h.cons;obtain rfl:=h.nil;exact ⟨t,u,v,w,x,y,z,rfl,h1,h2,h3,h4,h5,h6,h7⟩
theorem yp {r s:Int} {h' t:Dw.D} {rows:List Dw.D} {m d:D} (hm:TD p S (.tup [.int r,.int s,.tup rows,h']) m) (h:TD p S t d) (q:∀ S',Sm S S'->Q (.bl (Dw.bp rows.length r s t)) S'):Ok (evC af (k+4) kB [m,d] S) Q:=by
 obtain ⟨ms,rfl,hms⟩:=hm.tup;refine aw (d:=gh) (ρ:=[some (.tup ms),some d,none,none,none,none,none,none,none]) rfl rfl ?_;dsimp only [gh,kK];k_is;refine ⟨rfl,bz h ?_⟩;k_is;cases t with
 | tup ts=>
  obtain ⟨ds,rfl,hs⟩:=h.tup;rw [Dw.Hy];by_cases hl:ts.length=7
  ·obtain ⟨tk,tj,tf,tl,tu,tw,tg,rfl⟩:=Dw.zr hl;obtain ⟨dk,dj,df,dl,du,dw,dg,rfl,h1,h2,h3,h4,h5,h6,h7⟩:=NY hs;rw [decide_eq_true hl];k_is;have ht:TDs p S [tj,tf,tl,tu] [dj,df,dl,du]:=ac h2 (ac h3 (ac h4 (ac h5 aE)));refine fq ht (by simp) (fun e=>Dw.az e 0 9999) (fun i t d S' _ sm td=>⟨_,rfl,?_⟩) fun S' sm=>?_
   ·k_is;exact ⟨rfl,gS td ⟨rfl,Sm.refl _⟩⟩
   ·rw [b7,al];k_is;simp only [Dw.bp] at q;cases hr:[tj,tf,tl,tu].all (fun e=>Dw.az e 0 9999) with
    | false=>k_is;rw [hr] at q;exact q S' sm
    | true=>
     k_is;rw [hr] at q;have hr':=hr;simp only [ZS,Xm,Yz,bAE] at hr';obtain ⟨ij,rfl,_⟩:=Dw.aD hr'.1;obtain ⟨jf,rfl,_⟩:=Dw.aD hr'.2.1;obtain ⟨il,rfl,_⟩:=Dw.aD hr'.2.2.1;obtain rfl:=h2.int;obtain rfl:=h3.int;obtain rfl:=h4.int;refine bG (i:=1) (hms.keep sm.kp) rfl fun d1 t1=>?_;obtain rfl:=t1.int;k_is;simp only [Dw.leD,Int.add_zero,ZT] at q;cases c1:decide (ij+s<=jf) with
     | false=>k_is;rw [c1] at q;exact q S' sm
     | true=>
      k_is;rw [c1] at q;cases c2:decide (jf<=il) with
      | false=>k_is;rw [c2] at q;exact q S' sm
      | true=>
       k_is;rw [c2] at q;refine ⟨rfl,wH (hm.keep sm.kp) (h1.keep sm.kp) ?_⟩;k_is;cases c3:Dw.az tk 0 ((rows.length:Int) - 1) with
       | false=>rw [c3] at q;exact q S' sm
       | true=>
        rw [c3] at q;k_is;refine ⟨rfl,bU (h6.keep sm.kp) ?_⟩;k_is;cases c4:Dw.az tw 0 99 with
        | false=>rw [c4] at q;exact q S' sm
        | true=>
         rw [c4] at q;k_is;refine bG (i:=0) (hms.keep sm.kp) rfl fun d1 t1=>?_;obtain rfl:=t1.int;exact ⟨rfl,bU (h7.keep sm.kp) (q S' sm)⟩
  ·rw [decide_eq_false hl];k_is;have:=q S (Sm.refl S);rw [Dw.xy hl] at this;exact this
 | _=>dsimp only [Dw.isT];k_is;exact q S (Sm.refl S)
theorem uV {r s:Int} {h' t:Dw.D} {rows:List Dw.D} {m d:D} (hm:TD p S (.tup [.int r,.int s,.tup rows,h']) m) (h:TD p S t d) (q:∀ S',Sm S S'->Q (.bl (Dw.bt rows.length r s t)) S'):Ok (evC af (k+5) hY [m,d] S) Q:=by
 refine aw (d:=dS) (ρ:=[some m,some d]) rfl rfl ?_;dsimp only [dS,im];k_is;refine ⟨rfl,bz h ?_⟩;k_is;cases t with
 | tup ts=>
  obtain ⟨ds,rfl,hs⟩:=h.tup;have e7:=Dw.zu ts 7;rw [show ((7:Nat):Int)=7 from rfl] at e7;rw [e7];by_cases hl:ts.length<=7
  ·rw [decide_eq_true hl];k_is;refine fq hs (by omega) (Dw.bp rows.length r s) (fun i t d S' _ sm td=>⟨_,rfl,?_⟩) fun S' sm=>?_
   ·k_is;exact ⟨rfl,yp (hm.keep sm.kp) td fun S2 sm2=>⟨rfl,sm2⟩⟩
   ·rw [b7,al];have:=q S' sm;simp only [Dw.bt,decide_eq_true hl,ZT] at this;exact this
  ·rw [decide_eq_false hl];have:=q S (Sm.refl S);simp only [Dw.bt,decide_eq_false hl,ZX] at this;exact this
 | _=>dsimp only [Dw.isT];k_is;exact q S (Sm.refl S)
theorem BD {n:Nat} {r s:Int} {t:Dw.D} {gs:List Dw.D} {g d:D} (hg:TD p S (.tup gs) g) (ha:gs.all (Dw.bp n r s)=true) (hl:gs.length<=7) (h:TD p S t d) (q:∀ S',Sm S S'->Q (.bl (Dw.cV gs t)) S'):Ok (evC af (k+4) kC [g,d] S) Q:=by
 obtain ⟨ds,rfl,hs⟩:=hg.tup;refine aw (d:=gk) (ρ:=[some (.tup ds),some d]) rfl rfl ?_;dsimp only [gk,kL];k_is;refine aa (iT hs) ?_;refine ⟨rfl,yo h (by omega) fun S1 sm=>?_⟩;k_is;cases hu:Dw.cU gs.length t with
 | false=>
  k_is;have:=q S1 sm
  have e:Dw.cV gs t=false:=by
   unfold Dw.cV;split
   ·rw [hu];rfl
   ·rfl
  rw [e] at this;exact this
 | true=>
  k_is;cases t with
  | tup fs=>
   obtain ⟨es,rfl,hf⟩:=h.tup
   have hw:fs.all (fun e=>Dw.az e 0 ((gs.length:Int) - 1))=true:=by
    simp only [Dw.cU,bAE] at hu;exact hu.2.1
   have ei:=qB hw hf;subst ei;refine DZ (hs.keep sm.kp) (by omega) (fun i=>decide (Dw.fT gs i=0) || decide (((i:Nat):Int) ∈ Dw.bI fs)) (fun i t d S2 ht sm2 td=>⟨_,ci (Zu (by decide) (Zd 4)) (Zu (by decide) (Zd 4)),?_⟩) fun S2 sm2=>?_
   ·obtain ⟨a1,a2,a3,a4,a5,a6,g,rfl,hg',_⟩:=Dw.CU ha ht;obtain ⟨xs,rfl,hx⟩:=td.tup;k_is;refine bG (i:=6) hx rfl fun d1 t1=>?_;obtain rfl:=t1.int;k_is;rw [hg'];cases c:decide (g=0) with
    | true=>k_is;exact ⟨rfl,Sm.refl _⟩
    | false=>
     k_is;simp only [av,qC,al];exact ⟨by simp,Sm.refl _⟩
   ·rw [b7,al];have:=q S2 (sm.trans sm2);simp only [Dw.cV,hu,ZT] at this;have e:(Dw.CT gs (Dw.bI fs)).all id=(Zj gs.length).all fun i=>decide (Dw.fT gs i=0) || decide (((i:Nat):Int) ∈ Dw.bI fs):=by unfold Dw.CT;rw [ZP];rfl
    rw [<-e];exact this
  | _=>simp [Dw.cU] at hu
theorem Lg {t:Dw.D} {d:D} (h:TD p S t d) (q:∀ S',Sm S S'->Q (.bl (Dw.oz t)) S'):Ok (evC af (k+7) su [d] S) Q:=by
 refine aw (d:=nt) (ρ:=[some d,none,none,none,none]) rfl rfl ?_;dsimp only [nt,sx];k_is;refine ⟨rfl,bz h ?_⟩;k_is;cases t with
 | tup ts=>
  obtain ⟨ds,rfl,hs⟩:=h.tup;rw [Dw.zm];by_cases hl:ts.length=4
  ·obtain ⟨tm,ta,tg,tf,rfl⟩:=Dw.vE hl;obtain ⟨dm,da,dg,df,rfl,h1,h2,h3,h4⟩:=Lf hs;rw [decide_eq_true hl];k_is;rw [Dw.zv] at q;refine ⟨rfl,yn h1 fun S1 sm1=>?_⟩;k_is;cases em:Dw.bP tm with
   | false=>rw [em] at q;exact q S1 sm1
   | true=>
    rw [em] at q;obtain ⟨r,s,rows,hs',rfl,_⟩:=Dw.xv em;k_is;refine ⟨rfl,BC (h1.keep sm1.kp) (h2.keep sm1.kp) ?_⟩;k_is;simp only [Dw.gF,Dw.lc,Dw.pU] at q;cases ea:Dw.cL rows.length ta with
    | false=>rw [ea] at q;exact q S1 sm1
    | true=>
     rw [ea] at q;k_is;refine ⟨rfl,uV (h1.keep sm1.kp) (h3.keep sm1.kp) fun S2 sm2=>?_⟩;k_is;cases eg:Dw.bt rows.length r s tg with
     | false=>rw [eg] at q;exact q S2 (sm1.trans sm2)
     | true=>
      rw [eg] at q;k_is;cases tg with
      | tup gs=>
       simp only [Dw.bt,bAE,decide_eq_true_eq] at eg;exact ⟨rfl,BD (h3.keep (sm1.trans sm2).kp) eg.2 eg.1 (h4.keep (sm1.trans sm2).kp) fun S3 sm3=>q S3 ((sm1.trans sm2).trans sm3)⟩
      | _=>simp [Dw.bt] at eg
  ·rw [decide_eq_false hl];k_is;have:=q S (Sm.refl S);rw [Dw.Hx hl] at this;exact this
 | _=>dsimp only [Dw.isT];k_is;exact q S (Sm.refl S)
end Lw
namespace Lw
open PySem Ev
variable {p:Nat} {S:Sto} {k:Nat} {Q:D->Sto->Prop}
theorem ao {f:Int} (h:Pot p S) (h0:0 < f) (h1:f < 1073741824) (q:∀ (r:Int) S',0<=r->r < f->Dr p S S'->Q (.int r) S'):Ok (evC af (k+1) ad [.ref p,.int f] S) Q:=by
 obtain ⟨n,e⟩:=h;have lt:p < S.length:=(Zc.mp e).1;refine aw (d:=iP) (ρ:=[some (.ref p),some (.int f),none]) rfl rfl ?_;dsimp only [iP,nj];k_is;have ix:ixS (.ref p) (.int 0) S=some (.int n,S):=by simp only [ixS,aj,am,e];rfl
 refine aa ix ?_;k_is;refine ⟨h0,?_⟩;k_is;refine aa ix ?_;k_is;refine ⟨⟨h0,h1⟩,?_⟩;k_is;refine ⟨S.set p (.lst [.int (n / f)]),by simp only [eD,e];rfl,?_⟩;exact q _ _ (XC _ (by omega)) (Xi _ h0) ⟨Jl,_,ft lt⟩
theorem Fk {c:Nat} {ns:List Int} (h:S[0]?=some (.frz (ns.map D.int))) (q:∀ i:Int,Q (.int i) S):Ok (evC af (k+1) ic [.ref 0,.int c] S) Q:=by
 refine aw (d:=dY) (ρ:=[some (.ref 0),some (.int c)]) rfl rfl ?_;dsimp only [dY,ir];k_is;have ln:au ce (.ref 0) S=some (.int ns.length,S):=by simp only [au,aj,am,h,Zp,ce,Za]
 refine aa ln ?_;k_is;refine bT (fun hc=>?_) fun hc=>?_
 ·k_is;have hc':=of_decide_eq_true hc;obtain ⟨d,e1,e2⟩:=Jn (ds:=ns.map D.int) (i:=c) (by omega) (by rw [Za];omega);have ix:ixS (.ref 0) (.int c) S=some (d,S):=by simp only [ixS,aj,am,h,Zp,e1]
  refine aa ix ?_;rw [Zl] at e2;cases hn:ns[(c:Int).toNat]? with
  | none=>rw [hn] at e2;cases e2
  | some i=>rw [hn] at e2;cases e2;exact q i
 ·k_is;exact q 0
theorem Lh {c:Int} (q:∀ n:Int,Q (.ref S.length) (S++[.lst [.int n]])):Ok (evC af (k+1) oX [.int c] S) Q:=by
 refine aw (d:=j8) (ρ:=[some (.int c),none,none,none]) rfl rfl ?_;dsimp only [j8,o5];k_is;refine ⟨⟨by decide,by decide,by decide⟩,?_⟩;k_is;refine bT (fun _=>?_) fun _=>?_
 ·k_is;refine ⟨⟨by decide,by decide,by decide⟩,?_⟩;k_is;exact q _
 ·k_is;refine ⟨by decide,?_⟩;refine fP (by decide) (fun i ρ S'=>S'=S/\∃ n:Int,∃ u v,ρ=[some (.int c),some (.int n),u,v]) (fun i ρ S' hi ⟨es,n,u,v,er⟩=>?_) (fun ρ S' ⟨es,n,u,v,er⟩=>?_) ⟨rfl,0,none,none,rfl⟩
  ·subst es er;refine ⟨_,rfl,?_⟩;k_is;refine ⟨by decide,?_⟩;k_is;refine ⟨lI (by decide) (by decide),?_⟩;k_is;refine ⟨wt (by decide) (by decide),by decide,?_⟩;k_is;have a1:=XC ((c % 2147483629+7919 * (0+(i:Int))+1) * 48271) (show (2147483647:Int) ≠ 0 by decide);have a2:=Xi ((c % 2147483629+7919 * (0+(i:Int))+1) * 48271) (show (0:Int) < 2147483647 by decide);refine ⟨lI (by omega) (by omega),?_⟩;k_is;refine ⟨lI (by decide) (by decide),?_⟩;k_is;refine ⟨by decide,?_⟩;k_is;refine ⟨wt (by decide) (by decide),?_⟩;k_is;exact ⟨rfl,_,_,_,rfl⟩
  ·subst es er;k_is;exact q n
end Lw
namespace Sn
open Ev
structure Sky where
 r:Int
 s:Int
 M:List (List Int)
 H:List (Int × Int)
 ah:Option (Int × Int)
 G:List (List Int)
 F:List Int
noncomputable def gi (G:List (List Int)) (i:Int) (k:Nat):Int:=((G[i.toNat]?).getD []).getD k 0
noncomputable def Ris:Int->List (Int × Int)->Prop
 | _,[]=>True
 | lo,p::l=>lo < p.1/\p.1 < p.2/\Ris p.2 l
section
variable (K:Sky)
noncomputable def jn (g:Int):Int:=gi K.G g 1
noncomputable def gp (a b:Int):Int:=Dw.mg2 K.M a.toNat b.toNat
noncomputable def Fm (ah:Option (Int × Int)) (k:Int):Int:=match ah with
 | none=>0
 | some p=>p.2+gp K p.1 k
noncomputable def js:List Int:=hX (K.G.map fun g=>g.getD 1 0)
noncomputable def ax (t:Int) (p:Int × Int):Bool:=decide (jn K p.1<=t) && decide (t < p.2 - K.s)
noncomputable def wts (L:List (Int × Int)) (t:Int):Nat:=(L.filter (ax K t)).length
noncomputable def eM (L:List (Int × Int)) (g m:Int):List Int:=((jn K g::L.map fun p=>jn K p.1).filter fun t=>decide (jn K g<=t) && decide (t < m - K.s))
noncomputable def uW (L:List (Int × Int)) (g m:Int):Int:=Mb 0 ((eM K L g m).map fun t=>1+(wts K L t:Int))
noncomputable def iV (L:List (Int × Int)) (g m:Int):List Int:=jn K g::(js K).filter fun t=>decide (jn K g < t) && ax K t (g,m)
noncomputable def sL (L:List (Int × Int)) (g m:Int):Int:=eU ((iV K L g m).map fun t=>1+(wts K L t:Int))
noncomputable def sM (L:List (Int × Int)) (g m:Int):Bool:=decide (0 < gi K.G g 6) && (ax K (jn K g) (g,m) && decide (gi K.G g 6 < sL K L g m))
noncomputable def sN (L:List (Int × Int)) (g m:Int):Bool:=decide (0 < gi K.G g 6) && decide (gi K.G g 6 < uW K L g m)
end
variable {K:Sky}
theorem qK {ns:List Int} (h:ns ≠ []):eU ns ∈ ns:=by
 cases ns with
 | nil=>exact absurd rfl h
 | cons n ns=>exact (jg ns n).1
theorem qL {ns:List Int} {x:Int} (h:x ∈ ns):x<=eU ns:=by
 cases ns with
 | nil=>simp at h
 | cons n ns=>exact (jg ns n).2 x h
theorem BE {A B:List Int} (hA:A ≠ []) (h:∀ x ∈ A,∃ y ∈ B,x<=y):eU A<=eU B:=by
 obtain ⟨y,hy,hle⟩:=h _ (qK hA);exact Int.le_trans hle (qL hy)
theorem nz {c:Int} {ns:List Int} (h:ns ≠ []):Mb c ns=eU ns:=by
 cases ns with
 | nil=>exact absurd rfl h
 | cons n ns=>rfl
theorem lJ {α:Type} {p q:α->Bool}:∀ {l:List α},(∀ x ∈ l,p x=true->q x=true)->(l.filter p).length<=(l.filter q).length
 | [],_=>Zd _
 | a::l,h=>by
  have ih:=lJ (l:=l) fun x hx=>h x (Ze _ hx);have h0:=h a Zg;rw [YG,YG];split
  ·rename_i c;rw [if_pos (h0 c),ZA,ZA];omega
  ·split
   ·rw [ZA];omega
   ·exact ih
theorem qM {j t:Int} (hj:j<=t):∀ (L:List (Int × Int)),∃ u,(u=j\/∃ p ∈ L,u=jn K p.1)/\j<=u/\u<=t/\∀ p ∈ L,ax K t p=true->jn K p.1<=u
 | []=>⟨j,.inl rfl,YA _,hj,fun p hp=>by simp at hp⟩
 | p::L=>by
  obtain ⟨u,h1,h2,h3,h4⟩:=qM hj L;by_cases hw:ax K t p=true/\u < jn K p.1
  ·refine ⟨jn K p.1,.inr ⟨p,Zg,rfl⟩,by omega,?_,fun q hq hqw=>?_⟩
   ·have:=hw.1;simp only [ax,bAE,decide_eq_true_eq] at this;exact this.1
   ·rcases Zk.mp hq with rfl | hq
    ·exact YA _
    ·have:=h4 q hq hqw;omega
  ·refine ⟨u,?_,h2,h3,fun q hq hqw=>?_⟩
   ·rcases h1 with h1 | ⟨q,hq,h1⟩
    ·exact .inl h1
    ·exact .inr ⟨q,Ze _ hq,h1⟩
   ·rcases Zk.mp hq with rfl | hq
    ·by_cases hlt:u < jn K q.1
     ·exact absurd ⟨hqw,hlt⟩ hw
     ·omega
    ·exact h4 q hq hqw
theorem Fn {L:List (Int × Int)} {g m:Int} (h:jn K g < m - K.s) (hL:∀ p ∈ L,jn K p.1 ∈ js K):sL K L g m=uW K L g m:=by
 have k0:jn K g ∈ eM K L g m:=by
  unfold eM;rw [ZR];exact ⟨Zg,by simp [h]⟩
 have kn:(eM K L g m).map (fun t=>1+(wts K L t:Int)) ≠ []:=fun z=>by
  rw [List.map_eq_nil_iff] at z;rw [z] at k0;simp at k0
 unfold uW sL;rw [nz kn];refine Int.le_antisymm (BE (by simp [iV]) fun x hx=>?_) (BE kn fun x hx=>?_)
 ·obtain ⟨t,ht,rfl⟩:=ZD.mp hx
  have ht':jn K g<=t/\t < m - K.s:=by
   rcases Zk.mp ht with rfl | ht
   ·exact ⟨YA _,h⟩
   ·have:=(ZR.mp ht).2;simp only [ax,bAE,decide_eq_true_eq] at this;exact ⟨this.2.1,this.2.2⟩
  obtain ⟨u,h1,h2,h3,h4⟩:=qM (K:=K) ht'.1 L;refine ⟨1+(wts K L u:Int),ZD.mpr ⟨u,?_,rfl⟩,?_⟩
  ·unfold eM;refine ZR.mpr ⟨?_,by simp only [bAE,decide_eq_true_eq];omega⟩;rcases h1 with rfl | ⟨p,hp,rfl⟩
   ·exact Zg
   ·exact Ze _ (ZD.mpr ⟨p,hp,rfl⟩)
  ·have:wts K L t<=wts K L u:=lJ fun p hp hw=>by
    have a:=h4 p hp hw;simp only [ax,bAE,decide_eq_true_eq] at hw ⊢;omega
   omega
 ·obtain ⟨t,ht,rfl⟩:=ZD.mp hx;refine ⟨1+(wts K L t:Int),ZD.mpr ⟨t,?_,rfl⟩,YA _⟩;unfold eM at ht;obtain ⟨h1,h2⟩:=ZR.mp ht;simp only [bAE,decide_eq_true_eq] at h2;unfold iV;by_cases e:t=jn K g
  ·rw [e];exact Zg
  ·refine Ze _ (ZR.mpr ⟨?_,by simp only [ax,bAE,decide_eq_true_eq];omega⟩);rcases Zk.mp h1 with rfl | h1
   ·exact absurd rfl e
   ·obtain ⟨p,hp,rfl⟩:=ZD.mp h1;exact hL p hp
theorem yq {L:List (Int × Int)} {g m:Int} (h:¬ jn K g < m - K.s):uW K L g m=0:=by
 have:eM K L g m=[]:=by
  unfold eM;rw [List.filter_eq_nil_iff];intro t _;simp only [bAE,decide_eq_true_eq];omega
 unfold uW;rw [this];rfl
theorem Fo {L:List (Int × Int)} {g m:Int} (hL:∀ p ∈ L,jn K p.1 ∈ js K):sM K L g m=sN K L g m:=by
 unfold sM sN;by_cases h:jn K g < m - K.s
 ·rw [Fn h hL];have:ax K (jn K g) (g,m)=true:=by simp only [ax,bAE,decide_eq_true_eq];exact ⟨YA _,h⟩
  rw [this,ZT]
 ·rw [yq h];have:ax K (jn K g) (g,m)=false:=by simp [ax,h]
  rw [this,ZX];by_cases h0:0 < gi K.G g 6
  ·have e:decide (gi K.G g 6 < 0)=false:=by simp;omega
   rw [e]
  ·rw [decide_eq_false h0];rfl
end Sn
namespace Lw
open PySem Ev Sn
variable {p:Nat} {S:Sto} {k:Nat} {Q:D->Sto->Prop}
theorem Gx {ds:List D} {tg:Tg} {b:XS} {ρ:Rho} {Q:Fl->Rho->Sto->Prop} (hl:ds.length<=100000) (I:Nat->Rho->Sto->Prop)
  (step:∀ (i:Nat) d ρ S',ds[i]?=some d->I i ρ S'->∃ ρ1,ay tg d ρ=some ρ1/\OkS (b ρ1 S') fun fl ρ2 S2=>match fl with | .nx=>I (i+1) ρ2 S2 | .ct=>I (i+1) ρ2 S2 | .bk=>Q .nx ρ2 S2 | .rt d=>Q (.rt d) ρ2 S2)
  (q:∀ ρ S',I ds.length ρ S'->Q .nx ρ S') (h0:I 0 ρ S):OkS (eF (nxL ds) tg b LF 0 ρ S) Q:=by
 refine jG ds.length I (by unfold LF;omega) (fun i ρ S' hi iv=>?_) (fun ρ S' iv=>⟨?_,q ρ S' iv⟩) h0
 ·obtain ⟨ρ1,e2,z⟩:=step i ds[i] ρ S' (gEG hi) iv;exact ⟨ds[i],ρ1,by show some ds[i]?=_;rw [gEG hi],e2,z⟩
 ·show some ds[ds.length]?=_;rw [Zy (Zd _)]
theorem bB {α:Type} {nx:Nxt} {tg:Tg} {c:XA} {ρ:Rho} {Q:List D->Sto->Prop} (l:List α) (E:α->D) (f:α->List D) (hl:l.length<=1000) (hf:∀ a ∈ l,(f a).length<=1)
  (hnx:∀ i S',Sm S S'->nx i S'=some ((l[i]?).map E))
  (step:∀ (i:Nat) a S',l[i]?=some a->Sm S S'->∃ ρ1,ay tg (E a) ρ=some ρ1/\Ok (c ρ1 S') fun es S1=>es=f a/\Sm S' S1) (q:∀ S',Sm S S'->Q (l.flatMap f) S') :
  Ok (bh nx tg c ρ LF 0 S) fun es S2=>es.length<=100000/\Q es S2:=by
 refine (dr l.length (fun i acc S'=>Sm S S'/\acc=(l.take i).flatMap f) (by unfold LF;omega) (fun i acc S' hi ⟨sm,ea⟩=>?_) (fun acc S' ⟨sm,ea⟩=>?_) ⟨Sm.refl S,by simp⟩).mono fun es S' ⟨sm,ea⟩=>?_
 ·obtain ⟨ρ1,e2,es,S1,e3,e4,sm'⟩:=step i l[i] S' (gEG hi) sm;refine ⟨E l[i],ρ1,by rw [hnx i S' sm,gEG hi];rfl,e2,es,S1,e3,sm.trans sm',?_⟩;rw [ea,e4,Zz hi,Xc];simp
 ·rw [hnx _ S' sm,Zy (Zd _)];rfl
 ·rw [Yo] at ea;subst ea;refine ⟨?_,q S' sm⟩
  have:∀ m:List α,(∀ a ∈ m,(f a).length<=1)->(m.flatMap f).length<=m.length:=fun m=>by
   induction m with
   | nil=>intro _;simp
   | cons a m ih=>
    intro h;rw [YD,Zr,ZA];have:=h a Zg;have:=ih fun b hb=>h b (Ze _ hb);omega
  have:=this l hf;omega
theorem kh {α:Type} {l:List α} {E:α->D}:∀ i S',Sm S S'->nxL (l.map E) i S'=some ((l[i]?).map E):=fun i S' _=>by
 show some (l.map E)[i]?=_;rw [Zl]
theorem cI {α:Type} {n:Nat} {l:List α} {E:α->D} (h:S[n]?=some (.lst (l.map E))):∀ i S',Sm S S'->nxS n i S'=some ((l[i]?).map E):=fun i S' sm=>by
 show (am S' n).map (fun ds=>ds[i]?)=_;rw [ak (sm _ _ h),Zp,Zl]
theorem bA {α:Type} (l:List α) (f:α->D):(l.flatMap fun a=>[f a])=l.map f:=by
 induction l with
 | nil=>rfl
 | cons a l ih=>rw [YD,ih];rfl
theorem bV {α:Type} (l:List α) (c:α->Bool) (f:α->D):(l.flatMap fun a=>if c a=true then [f a] else [])=(l.filter c).map f:=by
 induction l with
 | nil=>rfl
 | cons a l ih=>
  rw [YD,ih,YG];split <;> rfl
noncomputable def aJ (r:List Int):D:=.tup (r.map D.int)
noncomputable def ahE:Option (Int × Int)->D
 | none=>.non
 | some q=>.tup [.int q.1,.int q.2]
noncomputable def meE (K:Sky):D:=.tup [.int K.r,.int K.s,.tup (K.M.map aJ),.tup (K.H.map ab)]
noncomputable def skE (K:Sky):D:=.tup [meE K,ahE K.ah,.tup (K.G.map aJ),.tup (K.F.map D.int)]
structure Vd (K:Sky):Prop where
 r0:0<=K.r
 r8:K.r<=8
 s0:0<=K.s
 s60:K.s<=60
 m0:1<=K.M.length
 m4:K.M.length<=4
 row:∀ r ∈ K.M,r.length=K.M.length
 ris:Ris (-1) K.H
 h4:K.H.length<=4
 ah0:∀ q,K.ah=some q->0<=q.1/\q.1 < K.M.length
 g7:K.G.length<=7
 gl:∀ g ∈ K.G,g.length=7/\0<=g.getD 0 0/\g.getD 0 0 < K.M.length/\0<=g.getD 2 0
variable {K:Sky}
theorem sk0:ixS (skE K) (.int 0) S=some (meE K,S):=rfl
theorem sk1:ixS (skE K) (.int 1) S=some (ahE K.ah,S):=rfl
theorem sk2:ixS (skE K) (.int 2) S=some (.tup (K.G.map aJ),S):=rfl
theorem sk3:ixS (skE K) (.int 3) S=some (.tup (K.F.map D.int),S):=rfl
theorem me0:ixS (meE K) (.int 0) S=some (.int K.r,S):=rfl
theorem me1:ixS (meE K) (.int 1) S=some (.int K.s,S):=rfl
theorem me2:ixS (meE K) (.int 2) S=some (.tup (K.M.map aJ),S):=rfl
theorem me3:ixS (meE K) (.int 3) S=some (.tup (K.H.map ab),S):=rfl
theorem gl7 (V:Vd K) {g:Int} (h0:0<=g) (h1:g < K.G.length):∃ a b c d e f h,K.G[g.toNat]?=some [a,b,c,d,e,f,h]/\gi K.G g 0=a/\gi K.G g 1=b/\gi K.G g 2=c/\gi K.G g 3=d/\gi K.G g 6=h/\0<=a/\a < K.M.length/\0<=c:=by
 have hi:g.toNat < K.G.length:=by omega
 obtain ⟨l7,a0,a1,c0⟩:=V.gl K.G[g.toNat] (ZG hi)
 match hr:K.G[g.toNat],l7 with
 | [a,b,c,d,e,f,h],_=>
  have eq:K.G[g.toNat]?=some [a,b,c,d,e,f,h]:=by rw [gEG hi,hr]
  rw [hr] at a0 a1 c0;refine ⟨a,b,c,d,e,f,h,eq,?_,?_,?_,?_,?_,a0,a1,c0⟩ <;> (unfold gi;rw [eq];rfl)
theorem sO {ds:List D} {i:Int} {d:D} (h0:0<=i) (h:ds[i.toNat]?=some d):ixS (.tup ds) (.int i) S=some (d,S):=by
 obtain ⟨n,rfl⟩:∃ n:Nat,i=(n:Int):=⟨i.toNat,by omega⟩;exact yU h
theorem gB {g:Int} {r:List Int} (h0:0<=g) (h:K.G[g.toNat]?=some r):ixS (.tup (K.G.map aJ)) (.int g) S=some (aJ r,S):=sO h0 (by rw [Zl,h];rfl)
theorem uX (V:Vd K) {a b:Int} (a0:0<=a) (a1:a < K.M.length) (b0:0<=b) (b1:b < K.M.length):∃ r,ixS (.tup (K.M.map aJ)) (.int a) S=some (aJ r,S)/\ixS (aJ r) (.int b) S=some (.int (gp K a b),S):=by
 have hi:a.toNat < K.M.length:=by omega
 have hr:=V.row K.M[a.toNat] (ZG hi);have hj:b.toNat < K.M[a.toNat].length:=by omega
 refine ⟨K.M[a.toNat],sO a0 (by rw [Zl,gEG hi];rfl),sO b0 ?_⟩;rw [Zl,gEG hj];have:gp K a b=K.M[a.toNat][b.toNat]:=by unfold gp Dw.mg2;rw [gEG hi,ZO,gEG hj];rfl
 rw [this];rfl
end Lw
namespace Lw
open PySem Ev Sn L2
variable {p:Nat} {S S':Sto} {k:Nat} {Q:D->Sto->Prop} {K:Sky}
theorem BF {t u:Bool} {A B:Prop} (ha:t=true->u=true->A) (hb:(t && u)=false->B):wIf t (wIf u A B) B:=by
 cases t with
 | false=>exact hb rfl
 | true=>cases u with
  | true=>exact ha rfl rfl
  | false=>exact hb rfl
theorem nB {α:Type} {l:List α} {E:α->D} {i:Nat} {d:D} (h:(l.map E)[i]?=some d):∃ a,l[i]?=some a/\d=E a:=by
 rw [Zl] at h;cases e:l[i]? with
 | none=>rw [e] at h;cases h
 | some a=>rw [e] at h;cases h;exact ⟨a,rfl,rfl⟩
noncomputable def cK (K:Sky) (L:List (Int × Int)):Option (Int × Int):=match L.getLast? with
 | none=>K.ah
 | some p=>some (gi K.G p.1 0,p.2)
noncomputable def InG (K:Sky) (L:List (Int × Int)):Prop:=∀ p ∈ L,0<=p.1/\p.1 < K.G.length
theorem BG (V:Vd K) {L:List (Int × Int)} {n:Nat} (hn:S[n]?=some (.lst (L.map ab))) (hL:InG K L) (q:Q (ahE (cK K L)) S):Ok (evC af (k+1) fG [skE K,.ref n] S) Q:=by
 refine aw (d:=cD) (ρ:=[some (skE K),some (.ref n),none,none]) rfl rfl ?_;dsimp only [cD,fL];k_is;have tr:mq (.ref n) S=some (!(L.map ab).isEmpty,S):=by simp only [mq,ak hn]
 refine aa tr ?_;k_is;rcases List.eq_nil_or_concat L with rfl | ⟨L',z,rfl⟩
 ·k_is;exact aa sk1 q
 ·rw [List.concat_eq_append] at hn hL q ⊢;rw [show (!!((L'++[z]).map ab).isEmpty)=false by simp];k_is;have hz:=hL z (by simp);refine aa (ww (ds:=L'.map ab) (e:=ab z) (by rw [hn,ZB];rfl)) ?_;rw [show ab z = .tup [.int z.1,.int z.2] from rfl];k_is;refine aa sk2 ?_;obtain ⟨a,b,c,d,e,f,h,eg,e0,_⟩:=gl7 V hz.1 hz.2;refine aa (gB hz.1 eg) (aa (show ixS (aJ [a,b,c,d,e,f,h]) (.int 0) S=some (.int a,S) from rfl) ?_);k_is
  have:cK K (L'++[z])=some (a,z.2):=by
   unfold cK;rw [Xb];simp [e0]
  rw [this] at q;exact q
theorem Fp (V:Vd K) {a:Option (Int × Int)} {kd:Int} (ha:∀ q,a=some q->0<=q.1/\q.1 < K.M.length) (k0:0<=kd) (k1:kd < K.M.length) (q:Q (.int (Fm K a kd)) S):Ok (evC af (k+1) oW [skE K,ahE a,.int kd] S) Q:=by
 refine aw (d:=j7) (ρ:=[some (skE K),some (ahE a),some (.int kd)]) rfl rfl ?_;dsimp only [j7,o4];k_is;cases a with
 | none=>exact aa (show av .is (ahE none) .non S=some (.bl true,S) from rfl) (by k_is;exact q)
 | some z=>
  refine aa (show av .is (ahE (some z)) .non S=some (.bl false,S) from rfl) ?_;k_is;obtain ⟨h0,h1⟩:=ha z rfl;refine aa (show ixS (ahE (some z)) (.int 1) S=some (.int z.2,S) from rfl) ?_;refine aa sk0 (aa me2 (aa (show ixS (ahE (some z)) (.int 0) S=some (.int z.1,S) from rfl) ?_));obtain ⟨r,g1,g2⟩:=uX (S:=S) V h0 h1 k0 k1;refine aa g1 (aa g2 ?_);k_is;exact q
theorem nD (V:Vd K) {z:Int × Int} {t:Int} (h0:0<=z.1) (h1:z.1 < K.G.length) (q:Q (.bl (ax K t z)) S):Ok (evC af (k+1) fc [skE K,ab z,.int t] S) Q:=by
 refine aw (d:=iO) (ρ:=[some (skE K),some (ab z),some (.int t),none,none]) rfl rfl ?_;dsimp only [iO,ni];rw [show ab z = .tup [.int z.1,.int z.2] from rfl];k_is;refine aa sk2 ?_;obtain ⟨a,b,c,d,e,f,h,eg,_,e1,_⟩:=gl7 V h0 h1;refine aa (gB h0 eg) (aa (show ixS (aJ [a,b,c,d,e,f,h]) (.int 1) S=some (.int b,S) from rfl) ?_);k_is;have ew:ax K t z=(decide (b<=t) && decide (t < z.2 - K.s)):=by unfold ax jn;rw [e1]
 rw [ew] at q;cases c1:decide (b<=t) with
 | false=>rw [c1] at q;k_is;exact q
 | true=>
  rw [c1] at q;k_is;refine aa sk0 (aa me1 ?_);k_is;exact q
theorem BH (V:Vd K) {L:List (Int × Int)} {n:Nat} {t:Int} (hn:S[n]?=some (.lst (L.map ab))) (hL:InG K L) (hl:L.length<=1000) (q:∀ S',Sm S S'->Q (.int (wts K L t)) S'):Ok (evC af (k+2) cA [skE K,.ref n,.int t] S) Q:=by
 refine aw (d:=cF) (ρ:=[some (skE K),some (.ref n),some (.int t)]) rfl rfl ?_;dsimp only [cF,fN];k_is;refine ⟨by rw [ak hn];rfl,?_⟩;refine bB L ab (fun z=>if ax K t z=true then [ab z] else []) hl (fun z _=>by split <;> simp) (cI hn) (fun i z S' hz sm=>⟨_,rfl,?_⟩) fun S' sm=>?_
 ·have:=hL z (Zm hz);k_is;refine ⟨rfl,nD V this.1 this.2 ?_⟩;k_is;cases ax K t z with
  | true=>k_is;exact ⟨rfl,Sm.refl _⟩
  | false=>k_is;exact ⟨rfl,Sm.refl _⟩
 ·rw [bV];refine aa (show ce false ((L.filter (ax K t)).map ab) S'=some (.int (wts K L t),S') by unfold ce wts;rw [Za]) ?_;k_is;exact q S' sm
theorem yr {x:Int} {xs:List Int}:dP ((x::xs).map D.int)=none:=by simp only [Zt,dP,mB]
theorem lK:∀ (xs:List Int),kx (xs.map D.int)=some xs
 | []=>rfl
 | x::xs=>by simp only [Zt,kx,lK xs]
theorem BI {xs:List Int} (h:xs.length < 64):cO false (xs.map D.int)=some ((hX xs).map D.int):=by
 unfold cO;rw [if_pos rfl];cases xs with
 | nil=>rfl
 | cons x xs=>
  simp only [ur,yr,lK];rw [if_pos h]
theorem BJ:(js K).length=K.G.length:=by unfold js;rw [(cf _).length_eq,Za]
theorem sP (V:Vd K) (q:∀ S',Sm S S'->S'[Zb S' - 1]?=some (.lst ((js K).map D.int))->Zb S<=Zb S' - 1->Q (.ref (Zb S' - 1)) S'):Ok (evC af (k+1) b5 [skE K] S) Q:=by
 refine aw (d:=b6) (ρ:=[some (skE K)]) rfl rfl ?_;dsimp only [b6,dI];k_is;refine aa sk2 ?_;k_is;refine bB K.G aJ (fun g=>[.int (g.getD 1 0)]) (by have:=V.g7;omega) (fun _ _=>Zd _) kh (fun i g S' hg sm=>⟨_,rfl,?_⟩) fun S' sm=>?_
 ·obtain ⟨l7,_⟩:=V.gl g (Zm hg)
  match g,l7 with
  | [a,b,c,d,e,f,h],_=>
   k_is;exact aa (show ixS (aJ [a,b,c,d,e,f,h]) (.int 1) S'=some (.int b,S') from rfl) ⟨rfl,Sm.refl _⟩
 ·rw [bA];refine ⟨_,show cO false (K.G.map fun g=>D.int (g.getD 1 0))=some ((js K).map D.int) from ?_,?_⟩
  ·have:=BI (xs:=K.G.map fun g=>g.getD 1 0) (by rw [Za];have:=V.g7;omega);rw [ZV] at this;exact this
  ·have e:Zb (S'++[Ob.lst ((js K).map D.int)]) - 1=Zb S':=by simp
   have sl:Zb S<=Zb S':=by
    cases hz:decide (Zb S<=Zb S') with
    | true=>exact of_decide_eq_true hz
    | false=>
     exfalso;have hlt:Zb S' < Zb S:=by have:=of_decide_eq_false hz;omega
     have:=sm (Zb S') S[Zb S'] (gEG hlt);rw [Zy (Zd _)] at this;cases this
   have:=q (S'++[Ob.lst ((js K).map D.int)]) (sm.trans (Sm.app _ _)) (by rw [e];exact ai) (by rw [e];exact sl);rw [e] at this;exact this
theorem b8 {n:Nat} {ds:List D} {i:Int} {d:D} (hn:S[n]?=some (.lst ds)) (h0:0<=i) (h:ds[i.toNat]?=some d):ixS (.ref n) (.int i) S=some (d,S):=by
 obtain ⟨j,rfl⟩:∃ j:Nat,i=(j:Int):=⟨i.toNat,by omega⟩;rw [Zn] at h;simp only [ixS,aj,ak hn,Zp,Ev.pF h]
theorem fw {n:Nat} {ds:List D} {j:Nat} (hn:S[n]?=some (.lst ds)):slS none (some (j:Int)) (.ref n) S=some (.ref (Zb S),S++[.lst (ds.take j)]):=by
 have:gZ ds none (some (j:Int))=ds.take j:=by
  by_cases h:j<=ds.length
  ·exact AZ ds j h
  ·unfold gZ;rw [Dw.zn _ _ (by omega),Zn,Xw (by omega)];show (ds.drop 0).take (ds.length - 0)=ds.take j;rw [List.drop_zero,ZU (by omega),ZU (by omega)]
 simp only [slS,ak hn,this]
theorem gU {a b:Nat} {xs ys:List D} (ha:S[a]?=some (.lst xs)) (hb:S[b]?=some (.lst ys)) (hl:xs.length+ys.length<=100000):bL .add (.ref a) (.ref b) S=some (.ref (Zb S),S++[.lst (xs++ys)]):=by
 simp only [bL,k9,HJ,ha,hb];rw [if_pos hl]
theorem dL {n:Nat} {ds:List D} (hn:S[n]?=some (.lst ds)):au ce (.ref n) S=some (.int ds.length,S):=by simp only [au,aj,ak hn,Zp,ce]
theorem BK {xs:List Int} (h:xs ≠ []):lb false (xs.map D.int) S=some (.int (eU xs),S):=by
 cases xs with
 | nil=>exact absurd rfl h
 | cons x xs=>unfold lb;rw [lK]
theorem Fq (V:Vd K) {L:List (Int × Int)} {n j:Nat} {z:Int × Int} (hn:S[n]?=some (.lst (L.map ab))) (hz:L[j]?=some z) (hL:InG K L) (hl:L.length<=100) (q:∀ S',Sm S S'->Q (.int (sL K (L.take j) z.1 z.2)) S'):Ok (evC af (k+3) ib [skE K,.ref n,.int j,.int (jn K z.1)] S) Q:=by
 refine aw (d:=dX) (ρ:=[some (skE K),some (.ref n),some (.int j),some (.int (jn K z.1)),none,none]) rfl rfl ?_;dsimp only [dX,iq];have hzG:=hL z (Zm hz);k_is;refine aa (fw hn) ?_;k_is;have s1:Sm S (S++[Ob.lst ((L.map ab).take j)]):=Sm.app _ _;have a1:(S++[Ob.lst ((L.map ab).take j)])[Zb S]?=some (Ob.lst ((L.take j).map ab)):=by rw [ai,Yj]
 generalize Zb S=N1 at *;generalize S++[Ob.lst ((L.map ab).take j)]=S1 at *;refine ⟨rfl,sP V fun S2 s2 a2 _=>?_⟩;k_is;refine ⟨by rw [ak a2];rfl,?_⟩;have hjl:(js K).length<=7:=by rw [BJ];exact V.g7
 refine bB (js K) D.int (fun t=>if (decide (jn K z.1 < t) && ax K t z)=true then [D.int t] else []) (by omega) (fun _ _=>by split <;> simp) (cI a2) (fun i t S' ht sm=>⟨_,rfl,?_⟩) fun S3 s3=>?_
 ·k_is;cases c:decide (jn K z.1 < t) with
  | false=>k_is;exact ⟨rfl,Sm.refl _⟩
  | true=>
   k_is;have hn':=sm _ _ (s2 _ _ (s1 _ _ hn));refine aa (b8 hn' (by omega) (show (L.map ab)[((j:Nat):Int).toNat]?=some (ab z) by rw [Zn,Zl,hz];rfl)) ?_;refine ⟨rfl,nD V hzG.1 hzG.2 ?_⟩;k_is;cases ax K t z with
   | true=>k_is;exact ⟨rfl,Sm.refl _⟩
   | false=>k_is;exact ⟨rfl,Sm.refl _⟩
 ·rw [bV];k_is;have lt3:Zb S3 < Zb (S3++[Ob.lst (((js K).filter fun t=>decide (jn K z.1 < t) && ax K t z).map D.int)]):=by simp
  have a3:(S3++[Ob.lst (((js K).filter fun t=>decide (jn K z.1 < t) && ax K t z).map D.int)])[Zb S3]?=some (Ob.lst (((js K).filter fun t=>decide (jn K z.1 < t) && ax K t z).map D.int)):=ai;have s4:Sm S3 (S3++[Ob.lst (((js K).filter fun t=>decide (jn K z.1 < t) && ax K t z).map D.int)]):=Sm.app _ _;have lf:((js K).filter fun t=>decide (jn K z.1 < t) && ax K t z).length<=7:=Zv (Y7 _ _) hjl;generalize Zb S3=N3 at *;generalize S3++[Ob.lst (((js K).filter fun t=>decide (jn K z.1 < t) && ax K t z).map D.int)]=S4 at *;have s5:Sm S4 (S4++[Ob.lst [D.int (jn K z.1)]]):=Sm.app _ _;refine aa (gU (xs:=[D.int (jn K z.1)]) ai (s5 _ _ a3) (by rw [Za,ZI];omega)) ?_;k_is;have s6:Sm (S4++[Ob.lst [D.int (jn K z.1)]]) (S4++[Ob.lst [D.int (jn K z.1)]]++[Ob.lst ([D.int (jn K z.1)]++((js K).filter fun t=>decide (jn K z.1 < t) && ax K t z).map D.int)]):=Sm.app _ _;have a6:(S4++[Ob.lst [D.int (jn K z.1)]]++[Ob.lst ([D.int (jn K z.1)]++((js K).filter fun t=>decide (jn K z.1 < t) && ax K t z).map D.int)])[Zb (S4++[Ob.lst [D.int (jn K z.1)]])]?=some (Ob.lst ((iV K (L.take j) z.1 z.2).map D.int)):=ai;refine ⟨by rw [ak a6];rfl,?_⟩;have sA:=((((s1.trans s2).trans s3).trans s4).trans s5).trans s6;have aL:=(((((s2.trans s3).trans s4).trans s5).trans s6)) _ _ a1;refine bB (iV K (L.take j) z.1 z.2) D.int (fun t=>[D.int (1+(wts K (L.take j) t:Int))]) (by show ((js K).filter fun t=>decide (jn K z.1 < t) && ax K t z).length+1<=1000;omega) (fun _ _=>Zd _) (cI a6) (fun i t S' ht sm=>⟨_,rfl,?_⟩) fun S7 s7=>?_
  ·k_is;refine ⟨rfl,BH V (sm _ _ aL) (fun w hw=>hL w (Yi hw)) (by rw [ZF];omega) fun S8 s8=>?_⟩;k_is;exact ⟨rfl,s8⟩
  ·rw [bA];have em:=BK (S:=S7) (xs:=(iV K (L.take j) z.1 z.2).map fun t=>1+(wts K (L.take j) t:Int)) (by unfold iV;simp);rw [ZV] at em;exact aa em (by k_is;exact q S7 (sA.trans s7))
theorem Fr (V:Vd K) {L:List (Int × Int)} {n j:Nat} {z:Int × Int} (hn:S[n]?=some (.lst (L.map ab))) (hz:L[j]?=some z) (hL:InG K L) (hl:L.length<=100) (q:∀ S',Sm S S'->Q (.bl (sM K (L.take j) z.1 z.2)) S'):Ok (evC af (k+4) ia [skE K,.ref n,.int j] S) Q:=by
 refine aw (d:=dW) (ρ:=[some (skE K),some (.ref n),some (.int j),none,none,none,none,none,none,none]) rfl rfl ?_;dsimp only [dW,ip];have hzG:=hL z (Zm hz);obtain ⟨a,b,c,d,e,f,h,eg,e0,e1,e2,e3,e6,_⟩:=gl7 V hzG.1 hzG.2;have hi:=b8 hn (show (0:Int)<=(j:Int) by omega) (show (L.map ab)[((j:Nat):Int).toNat]?=some (ab z) by rw [Zn,Zl,hz];rfl);k_is;refine aa sk2 (aa hi (aa (show ixS (ab z) (.int 0) S=some (.int z.1,S) from rfl) (aa (gB hzG.1 eg) ?_)));rw [show aJ [a,b,c,d,e,f,h] = .tup [.int a,.int b,.int c,.int d,.int e,.int f,.int h] from rfl];k_is;have ej:jn K z.1=b:=e1;have eh:sM K (L.take j) z.1 z.2=(decide (0 < h) && (ax K b z && decide (h < sL K (L.take j) z.1 z.2))):=by unfold sM;rw [e6,ej]
 rw [eh] at q;cases c1:decide (0 < h) with
 | false=>rw [c1] at q;k_is;exact q S (Sm.refl S)
 | true=>
  rw [c1] at q;k_is;refine aa hi ?_;refine ⟨rfl,nD V hzG.1 hzG.2 ?_⟩;k_is;cases c2:ax K b z with
  | false=>rw [c2] at q;k_is;exact q S (Sm.refl S)
  | true=>
   rw [c2] at q;k_is
   have rg:=Fq (k:=k) (Q:=fun y S2=>wCx .gt y (.int h) S2 fun d S1=>Q d S1) V hn hz hL hl fun S' sm=>by
    k_is;exact q S' sm
   rw [ej] at rg;exact ⟨rfl,rg⟩
theorem Sm.setNew {S S':Sto} {f:Nat} {o:Ob} (h:Sm S S') (hf:S.length<=f):Sm S (S'.set f o):=fun i u e=>by
 have hi:=(Zc.mp e).1;rw [ZJ (by omega)];exact h i u e
theorem uY {g:Int} (g0:0<=g) (g1:g < K.G.length):jn K g ∈ js K:=by
 have hi:g.toNat < K.G.length:=by omega
 refine (cf _).mem_iff.mpr (ZD.mpr ⟨K.G[g.toNat],ZG hi,?_⟩);unfold jn gi;rw [gEG hi];rfl
theorem sQ (V:Vd K) {L:List (Int × Int)} (hL:InG K L):∀ q,cK K L=some q->0<=q.1/\q.1 < K.M.length:=fun q e=>by
 unfold cK at e;cases h:L.getLast? with
 | none=>rw [h] at e;exact V.ah0 q e
 | some z=>
  rw [h] at e;cases e;have hz:=hL z (List.mem_of_getLast? h);obtain ⟨a,b,c,d,e,f,h,eg,e0,e1,e2,e3,e6,k0,k1,c0⟩:=gl7 V hz.1 hz.2;show 0<=gi K.G z.1 0/\gi K.G z.1 0 < K.M.length;rw [e0];exact ⟨k0,k1⟩
theorem uZ {L:List (Int × Int)} {z:Int × Int}:cK K (L++[z])=some (gi K.G z.1 0,z.2):=by
 unfold cK;rw [Xb];rfl
end Lw
namespace Lw
open PySem Ev Sn L2
variable {p:Nat} {S S':Sto} {k:Nat} {Q:D->Sto->Prop} {K:Sky}
theorem wJ (r:List Int):TDs p S (r.map Dw.D.int) (r.map D.int):=by
 induction r with
 | nil=>exact aE
 | cons a r ih=>exact ac bK ih
theorem ve:∀ (M:List (List Int)),TDs p S (Dw.cx M) (M.map aJ)
 | []=>aE
 | r::M=>ac (bv (wJ r)) (ve M)
noncomputable def ahT:Option (Int × Int)->Dw.D
 | none=>.non
 | some q=>.tup [.int q.1,.int q.2]
noncomputable def skT (K:Sky):Dw.D:=.tup [.tup [.int K.r,.int K.s,.tup (Dw.cx K.M),.tup (K.H.map Dw.aX)],ahT K.ah,.tup (Dw.cx K.G),.tup (K.F.map Dw.D.int)]
theorem NZ:∀ (a:Option (Int × Int)),TD p S (ahT a) (ahE a)
 | none=>AU
 | some q=>bv (ac bK (ac bK aE))
theorem Gy:TD p S (skT K) (skE K):=bv (ac (bv (ac bK (ac bK (ac (bv (ve K.M)) (ac (bv (gA K.H)) aE))))) (ac (NZ K.ah) (ac (bv (ve K.G)) (ac (bv (wJ K.F)) aE))))
theorem BL (hs:Dw.oz (skT K)=true) (q:∀ S',Sm S S'->Q .non S'):Ok (evC af (k+8) kD [skE K] S) Q:=by
 refine aw (d:=gm) (ρ:=[some (skE K)]) rfl rfl ?_;dsimp only [gm,kM];k_is;refine ⟨rfl,Lg (p:=0) Gy fun S1 s1=>?_⟩;rw [hs];k_is;exact q S1 s1
theorem nI {ds:List D} (i:Nat) (d:D) (h:ds[i]?=some d):(fun i=>(ds[i]?).getD .non) i=d:=by
 show (ds[i]?).getD .non=d;rw [h];rfl
theorem fA {i:Int} (h0:0<=i) (h1:i < 1000):lim i=true:=by simp only [lim,bAE,decide_eq_true_eq];omega
theorem Kp.len {p:Nat} {S S':Sto} (h:Ev.Kp p S S') (hp:p < S'.length):S.length<=S'.length:=by
 by_cases hz:S.length<=S'.length
 ·exact hz
 ·exfalso;have hlt:S'.length < S.length:=by omega
  have:=h S'.length S[S'.length] (by omega) (gEG hlt);rw [Zy (Zd _)] at this;cases this
theorem sR:∀ {H:List (Int × Int)} {lo x y:Int},Ris lo H->lo < x->(∀ q ∈ H,q.2 < x)->x < y->Ris lo (H++[(x,y)])
 | [],lo,x,y,_,h1,_,h3=>⟨h1,h3,trivial⟩
 | q::H,lo,x,y,h,h1,h2,h3=>by
  rw [Ris] at h;exact ⟨h.1,h.2.1,sR h.2.2 (h2 q Zg) (fun r hr=>h2 r (Ze _ hr)) h3⟩
theorem lO:∀ {H:List (Int × Int)} {lo:Int} {q:Int × Int},Ris lo H->q ∈ H->lo < q.1/\q.1 < q.2
 | q'::H,lo,q,h,hq=>by
  rw [Ris] at h;rcases Zk.mp hq with rfl | hq
  ·exact ⟨h.1,h.2.1⟩
  ·have:=lO h.2.2 hq;omega
theorem sS:∀ {H:List (Int × Int)} {lo:Int},Ris lo H->∀ (i:Nat) q q',H[i]?=some q->H[i+1]?=some q'->q.2 < q'.1
 | q0::H,lo,h,0,q,q',e1,e2=>by
  rw [Ris] at h;cases e1;rw [Yp] at e2;exact (lO h.2.2 (Zm e2)).1
 | q0::H,lo,h,i+1,q,q',e1,e2=>by
  rw [Ris] at h;rw [Yp] at e1 e2;exact sS h.2.2 i q q' e1 e2
theorem yt {H:List (Int × Int)} (h:Ris (-1) H) (hb:∀ q ∈ H,q.2<=9999) (hl:H.length<=4):Dw.bH (.tup (H.map Dw.aX))=true:=by
 refine Dw.FA.shuts (b:=9999) ⟨fun q hq=>?_,sS h⟩ (by decide) hl;have:=lO h hq;have:=hb q hq;omega
structure MeOk (r s:Int) (M:List (List Int)) (H:List (Int × Int)):Prop where
 r0:0<=r
 r8:r<=8
 s0:0<=s
 s60:s<=60
 mat:Dw.Mat M.length M
 m1:1<=M.length
 m4:M.length<=4
 tri:Dw.mi M.length M.length M
 ris:Ris (-1) H
 h4:H.length<=4
 hb:∀ q ∈ H,q.2<=9999
noncomputable def GB (n:Nat) (r s:Int) (g:List Int):Prop:=∃ kd jo fi la du we ri:Int,g=[kd,jo,fi,la,du,we,ri]/\0<=kd/\kd < n/\0<=jo/\jo+s<=fi/\fi<=la/\la<=9999/\0<=du/\du<=9999/\0<=we/\we<=99/\0<=ri/\ri<=r
structure SkOk (K:Sky):Prop where
 me:MeOk K.r K.s K.M K.H
 g7:K.G.length<=7
 gb:∀ g ∈ K.G,GB K.M.length K.r K.s g
 nd:K.F.Nodup
 bd:∀ x ∈ K.F,0<=x/\x < K.G.length
 rg:∀ (j:Nat) g,K.G[j]?=some g->g.getD 6 0=0\/(j:Int) ∈ K.F
 ah:∀ q,K.ah=some q->0<=q.1/\q.1 < K.M.length/\0<=q.2/\q.2<=9999
theorem SkOk.vd (h:SkOk K):Vd K:=by
 refine ⟨h.me.r0,h.me.r8,h.me.s0,h.me.s60,h.me.m1,h.me.m4,h.me.mat.row,h.me.ris,h.me.h4,fun q e=>⟨(h.ah q e).1,(h.ah q e).2.1⟩,h.g7,fun g hg=>?_⟩;obtain ⟨kd,jo,fi,la,du,we,ri,rfl,h1,h2,h3,h4,_⟩:=h.gb g hg;have:=h.me.s0;refine ⟨rfl,h1,h2,?_⟩;show 0<=fi;omega
theorem SkOk.sky (h:SkOk K):Dw.oz (skT K)=true:=by
 have lm:(Dw.cx K.G).length=K.G.length:=by unfold Dw.cx;rw [Za]
 have lM:(Dw.cx K.M).length=K.M.length:=by unfold Dw.cx;rw [Za]
 have em:Dw.bP (.tup [.int K.r,.int K.s,.tup (Dw.cx K.M),.tup (K.H.map Dw.aX)])=true:=by
  rw [Dw.FX,Dw.zp h.me.mat h.me.m1 h.me.m4 h.me.tri,yt h.me.ris h.me.hb h.me.h4];have:=h.me.r0;have:=h.me.r8;have:=h.me.s0;have:=h.me.s60;simp only [Dw.az,Yz,bAE,decide_eq_true_eq];omega
 have ea:Dw.cL K.M.length (ahT K.ah)=true:=by
  cases hq:K.ah with
  | none=>rfl
  | some q=>
   have:=h.ah q hq;simp only [ahT,Dw.cL,Dw.az,bAE,decide_eq_true_eq];omega
 have ha:(Dw.cx K.G).all (Dw.bp K.M.length K.r K.s)=true:=by
  unfold Dw.cx;rw [ZP,Zx];intro g hg;obtain ⟨kd,jo,fi,la,du,we,ri,rfl,h1⟩:=h.gb g hg;have:=h.me.s0;show Dw.bp K.M.length K.r K.s (.tup ([kd,jo,fi,la,du,we,ri].map Dw.D.int))=true;simp only [Zt,ZZ,Dw.bp,Dw.az,Dw.leD,ZS,Xm,bAE,decide_eq_true_eq,Yz];omega
 have ei:Dw.bI (K.F.map Dw.D.int)=K.F:=by unfold Dw.bI;rw [ZV];exact (YL fun x _=>rfl).trans (List.map_id K.F)
 have hu:Dw.cU K.G.length (.tup (K.F.map Dw.D.int))=true:=by
  refine Dw.rn ?_ (by rw [ei];exact h.nd);rw [ZP,Zx];intro x hx;have:=h.bd x hx;show (decide (0<=x) && decide (x<=(K.G.length:Int) - 1))=true;rw [bAE,decide_eq_true_eq,decide_eq_true_eq];omega
 unfold skT;rw [Dw.zv,em];simp only [Dw.gF,Dw.lc,Dw.pU,lM,ea,ZT,Dw.bt,ha,lm,decide_eq_true h.g7,Dw.tupOf,Dw.cV,hu,ei];unfold Dw.CT;rw [ZP,Zx];intro i hi;rw [lm] at hi;have hi':=ZW.mp hi;obtain ⟨kd,jo,fi,la,du,we,ri,eg,_⟩:=h.gb K.G[i] (ZG hi')
 have er:Dw.fT (Dw.cx K.G) i=ri:=by
  unfold Dw.fT Dw.cx;rw [Zl,gEG hi',eg];rfl
 show (decide (Dw.fT (Dw.cx K.G) i=0) || decide (((i:Nat):Int) ∈ K.F))=true;rw [er,YJ,decide_eq_true_eq,decide_eq_true_eq];have:=h.rg i _ (gEG hi');rw [eg] at this;exact this
noncomputable def meL (r s:Int) (M:List (List Int)) (H:List (Int × Int)):D:=.tup [.int r,.int s,.tup (M.map aJ),.tup (H.map ab)]
theorem vf {n:Nat} {l:List Int} (h:l.Perm ((Zj n).map fun i=>Int.ofNat i)):l.Nodup/\(∀ x ∈ l,0<=x/\x < n)/\l.length=n:=by
 refine ⟨h.nodup_iff.mpr (List.pairwise_map.mpr (List.nodup_range.imp fun h z=>h (Int.ofNat.inj z))),fun x hx=>?_,by rw [h.length_eq,Za,ZL]⟩;obtain ⟨i,hi,rfl⟩:=ZD.mp (h.mem_iff.mp hx);have:=ZW.mp hi;show 0<=(i:Int)/\(i:Int) < n;omega
theorem BM {n:Nat}:∀ i S',Sm S S'->nxR 0 n i S'=some (((Zj n)[i]?).map fun (j:Nat)=>D.int (0+(j:Int))):=fun i S' _=>by
 show some (if i < n then some (D.int (0+(i:Int))) else none)=_;split
 ·rename_i h;rw [Yy h];rfl
 ·rename_i h;rw [Zy (by rw [ZL];omega)];rfl
theorem qN {α β:Type} (f:α->β):∀ (l:List α) (j:Nat),(l.map f).eraseIdx j=(l.eraseIdx j).map f
 | [],_=>rfl
 | _::_,0=>rfl
 | a::l,j+1=>by rw [Zt,YB,YB,Zt,qN f l j]
theorem sT {α:Type}:∀ (l:List α) (j:Nat) (hj:j < l.length),(l[j]::l.eraseIdx j).Perm l
 | a::l,0,_=>List.Perm.refl _
 | a::l,j+1,hj=>by
  rw [YB,List.getElem_cons_succ];exact (List.Perm.swap _ _ _).trans ((sT l j (by simpa using hj)).cons a)
theorem pb {L:Nat} {is0:List Int} (h:Pot p S) (hL:S[L]?=some (.lst (is0.map D.int))) (nL:L ≠ p) (hn:is0.length<=1000)
  (q:∀ (is:List Int) S',Dr p S S'->is.Perm is0->Q (.ref (Zb S')) (S'++[.lst (is.map D.int)])):Ok (evC af (k+2) fZ [.ref p,.ref L] S) Q:=by
 refine aw (d:=gw) (ρ:=[some (.ref p),some (.ref L),none]) rfl rfl ?_;dsimp only [gw,kR];k_is;have it:aj (.ref L) S=some (false,is0.map D.int):=by simp only [aj,ak hL,Zp]
 rw [it];show Ok (some (is0.map D.int,S)) _;rw [al];k_is;have lt:=h.lt;have d0:Dr p S (S++[Ob.lst (is0.map D.int)]):=Dr.sm h (Sm.app _ _);have hL0:=Sm.app S [Ob.lst (is0.map D.int)] _ _ hL;have hLl:L < Zb S:=(Zc.mp hL).1;k_is;refine ⟨(by rw [ak hL0];rfl),?_⟩;have lm:(is0.map D.int).length=is0.length:=Za _;refine ek is0.length (fun i=>((is0.map D.int)[i]?).getD .non) (fun i acc S'=>Ev.Kp p S S'/\Pot p S'/\∃ left as:List Int,S'[Zb S]?=some (.lst (left.map D.int))/\acc=as.map D.int/\(as++left).Perm is0/\left.length+i=is0.length) (fun i acc S' hi ⟨kp,_⟩=>by rw [<-lm];exact iU (kp _ _ nL hL) _ nI) (by omega) (fun i acc S1 hi ⟨kp,pt,left,as,hf,ea,pm,ll⟩=>⟨_,rfl,?_⟩) (fun es S1 ⟨kp,pt,left,as,hf,ea,pm,ll⟩=>⟨by rw [ea,Za];have:=pm.length_eq;rw [Zr] at this;omega,?_⟩) ⟨d0.kp,d0.pot,is0,[],ai,rfl,by simp,by omega⟩
 ·k_is;refine ⟨dz hf,?_⟩;k_is;have lq:au ce (D.ref (Zb S)) S1=some (.int left.length,S1):=by simp only [au,aj,ak hf,Zp,ce,Za]
  refine aa lq ?_;k_is;refine ⟨rfl,ao pt (by omega) (by omega) fun r S2 r1 r2 d2=>?_⟩;k_is;obtain ⟨j,rfl⟩:∃ n:Nat,r=(n:Int):=⟨r.toNat,by omega⟩;have hj:j < left.length:=by omega
  have hf2:=d2.kp _ _ (show Zb S ≠ p by omega) hf;have lt2:Zb S < S2.length:=(Zc.mp hf2).1
  have pa:eV (.ref (Zb S)) [.int (j:Int)] S2=some (.int left[j],S2.set (Zb S) (.lst ((left.map D.int).eraseIdx j))):=by
   have hix:ixN (left.map D.int).length (j:Int)=some j:=by
    unfold ixN;rw [if_pos (by omega),if_pos (by rw [Za];omega),Zn]
   simp only [eV,chg,hf2,hix,Zl,gEG hj,Zp]
  refine aa pa ?_;k_is;refine ⟨(kp.trans d2.kp).setNew (Zd _),d2.pot.setNe (by omega),left.eraseIdx j,as++[left[j]],by rw [ft lt2,qN],by rw [ea,ZB];rfl,?_,by rw [YN hj];omega⟩;refine List.Perm.trans ?_ pm;rw [Z6];exact List.Perm.append_left as (sT left j hj)
 ·subst ea;k_is;have:left=[]:=Yn.mp (by omega);subst this;rw [Ye] at pm;exact q as S1 ⟨kp,pt⟩ pm
theorem pc:∀ (ps:List (Int × Int)),dP (ps.map ab)=some ps
 | []=>rfl
 | q::ps=>by
  rw [Zt];simp only [dP,pc ps,ab,mB]
theorem vg {α:Type} (d:α) (l:List α):(Zj l.length).map (fun i=>l.getD i d)=l:=by
 apply List.ext_getElem
 ·simp
 ·intro i h1 h2;simp at h1;simp [h1]
theorem yu (ps:List (Int × Int)):∃ qs:List (Int × Int),cY ps .non (ps.map ab)=qs.map ab/\qs.Perm ps:=by
 by_cases h:ps.length < 2
 ·exact ⟨ps,by unfold cY;rw [if_pos (by rw [Za];exact h)],List.Perm.refl _⟩
 ·have hn:0 < ps.length:=by omega
  have pm:Pm ps.length (eT (nY ps) (PySem.W.kas_sort ps.length)):=(qd hn).run;refine ⟨(eT (nY ps) (PySem.W.kas_sort ps.length)).toList.map fun i=>ps.getD i (0,0),?_,?_⟩
  ·unfold cY;rw [if_neg (by rw [Za];exact h),Za,ZV];refine YL fun i hi=>?_;have hi':=(qf (lt:=nY ps) hn).1 i hi;simp [hi']
  ·have e:(eT (nY ps) (PySem.W.kas_sort ps.length)).toList.Perm (Zj ps.length):=by
    have:=Array.perm_iff_toList_perm.mp pm
    simpa using this
   have:=e.map fun i=>ps.getD i (0,0)
   rwa [vg] at this
theorem yv {ps:List (Int × Int)} (h:ps.length < 64):∃ qs:List (Int × Int),cO false (ps.map ab)=some (qs.map ab)/\qs.Perm ps:=by
 obtain ⟨qs,e,pm⟩:=yu ps;refine ⟨qs,?_,pm⟩;show (if false=false then ur false (ps.map ab) else none)=_;rw [if_pos rfl];simp only [ur,pc];rw [if_pos (by rw [Za];exact h),e]
end Lw
namespace Lw
open PySem Ev Sn L2
variable {p:Nat} {S S':Sto} {k:Nat} {Q:D->Sto->Prop} {K:Sky}
theorem nJ {L n:Nat} {es:List D} {M:List (List Int)} (h:Pot p S) (hL:S[L]?=some (.lst es)) (nL:L ≠ p) (hr:RowsS p S es M) (hm:Dw.Mat (n+1) M) (hn:n < 4)
  (q:∀ n M S',Dr p S S'->Dw.Mat n M->1<=n->n<=4->Dw.mi n n M->Q (.tup (M.map aJ)) S') :
  rW (wSs (evC af (k+1)) (hF af) 57 (dh.drop 3)) [some (.ref p),some (.int (1+(n:Int))),some (.ref L),none] S (out Q):=by
 dsimp only [dh,Yb];k_is;have e1:((1:Int)+n).toNat=n+1:=by omega
 refine ⟨(by simp only [lim,bAE,decide_eq_true_eq];omega),?_⟩;rw [e1];refine fP (by omega) (fun c ρ S'=>Dr p S S'/\∃ L es M u,ρ=[some (.ref p),some (.int (1+(n:Int))),some (.ref L),u]/\L ≠ p/\S'[L]?=some (.lst es)/\RowsS p S' es M/\Dw.Mat (n+1) M/\Dw.mi (n+1) c M) (fun c ρ S1 hc ⟨d1,L,es,M,u,er,nL,hL,hr,hm,tr⟩=>?_) (fun ρ S1 ⟨d1,L,es,M,u,er,nL,hL,hr,hm,tr⟩=>?_) ⟨Dr.refl h,L,es,M,none,rfl,nL,hL,hr,hm,fun a b q _ _ hq=>absurd hq (Z8 q)⟩
 ·subst er;refine ⟨_,rfl,?_⟩;k_is;refine ⟨(by rw [ak hL];rfl),?_⟩;have le:es.length=n+1:=by rw [hr.len,hm.len]
  refine ek (n+1) (fun i=>(es[i]?).getD .non) (fun i acc S'=>Sm S1 S'/\RowsS p S' acc ((Zj i).map (Dw.bD M (n+1) c))) (fun i acc S' hi ⟨sm,_⟩=>by rw [<-le];exact iU (sm _ _ hL) _ nI) (by omega) (fun i acc S2 hi ⟨sm,ra⟩=>?_) (fun es' S2 ⟨sm,ra⟩=>⟨by rw [ra.len,Za,ZL];omega,?_⟩) ⟨Sm.refl _,RowsS.nil⟩
  ·obtain ⟨r,m1,lr,_⟩:=hm.at hi hc;obtain ⟨a,ea,na,za⟩:=hr.row i r m1;obtain ⟨rc,m2,lrc,_⟩:=hm.at hc hc;obtain ⟨b,eb,nb,zb⟩:=hr.row c rc m2;have za2:=sm _ _ za;have zb2:=sm _ _ zb;simp only [ea,ZO];refine ⟨_,rfl,?_⟩;k_is;refine ⟨(by rw [ak za2];rfl),?_⟩;have lm:(r.map D.int).length=n+1:=by rw [Za];exact lr
   refine ek (n+1) (fun j=>.tup [.int j,((r.map D.int)[j]?).getD .non]) (fun j acc S'=>S'=S2/\acc=((Dw.bD M (n+1) c i).take j).map D.int) (fun j acc S' hj ⟨e,_⟩=>by subst e;rw [<-lm];exact wu (i:=j) za2 (by omega) (fun j=>.tup [.int j,((r.map D.int)[j]?).getD .non]) fun j d hd=>by show D.tup [.int j,((r.map D.int)[j]?).getD .non]=_;rw [hd];rfl) (by omega) (fun j acc S3 hj ⟨e3,ea'⟩=>?_) (fun es3 S3 ⟨e3,ea'⟩=>⟨by rw [ea',Za,ZF];omega,?_⟩) ⟨rfl,rfl⟩
   ·subst e3;obtain ⟨r',m3,_,e4,_⟩:=hm.at hi hj;rw [m1] at m3;cases m3;have g1:((r.map D.int)[j]?).getD .non = .int (Dw.mg2 M i j):=by rw [Zl,e4];rfl
    rw [g1];refine ⟨_,ci (by simp) (by simp),?_⟩;k_is;obtain ⟨r',m3,_,e5,_⟩:=hm.at hi hc;rw [m1] at m3;cases m3;obtain ⟨rc',m3,_,e6,_⟩:=hm.at hc hj;rw [m2] at m3;cases m3;have z0:(0:Int)+(c:Int)=(c:Int):=by omega
    have at1:∀ (l:List Int) (m:Nat) (x:Int),l[m]?=some x->atI (l.map D.int) (m:Int)=some (.int x):=fun l m x hx=>by
     have hlt:=(Zc.mp hx).1;unfold atI ixN;rw [if_pos (by omega),if_pos (by rw [Za];omega),Zn];show (l.map D.int)[m]?=_;rw [Zl,hx];rfl
    have i1:ixS (.ref a) (.int (0+(c:Int))) S3=some (.int (Dw.mg2 M i c),S3):=by
     simp only [ixS,aj,ak za2,Zp,z0,at1 r c _ e5]
    have i2:ixS (.ref L) (.int (0+(c:Int))) S3=some (.ref b,S3):=by
     have:atI es (c:Int)=some (.ref b):=by
      unfold atI ixN;rw [if_pos (by omega),if_pos (by omega),Zn];exact eb
     simp only [ixS,aj,ak (sm _ _ hL),Zp,z0,this]
    have i3:ixS (.ref b) (.int (j:Int)) S3=some (.int (Dw.mg2 M c j),S3):=by
     simp only [ixS,aj,ak zb2,Zp,at1 rc j _ e6]
    refine aa i1 (aa i2 (aa i3 ?_));k_is;have lj:j < (Dw.bD M (n+1) c i).length:=by rw [Dw.mj];exact hj
    have gj:=Dw.rl M (c:=c) (i:=i) hj;rw [gEG lj] at gj;rw [ea',Zz lj,ZB,Option.some.inj gj];exact ⟨rfl,rfl⟩
   ·subst e3;rw [ZU (by rw [Dw.mj];exact Zd _)] at ea';subst ea';k_is;have lt:=(Dr.sm d1.pot sm).pot.lt;refine ⟨sm.trans (Sm.app _ _),?_⟩;rw [YI,ZB];exact (ra.keep (Sm.app _ _).kp).snoc (by omega) ai
  ·k_is;have lt:=(Dr.sm d1.pot sm).pot.lt;have st:Dw.Mat (n+1) ((Zj (n+1)).map (Dw.bD M (n+1) c)):=Dw.zq hm hc;exact ⟨(d1.thenSm sm).thenSm (Sm.app _ _),_,_,_,_,rfl,by omega,ai,ra.keep (Sm.app _ _).kp,st,Dw.zo hm hc tr (Dw.CQ hm hc)⟩
 ·subst er;k_is;refine ⟨(by rw [ak hL];rfl),?_⟩;have le:es.length=n+1:=by rw [hr.len,hm.len]
  refine ek (n+1) (fun i=>(es[i]?).getD .non) (fun i acc S'=>S'=S1/\acc=(M.take i).map aJ) (fun i acc S' hi ⟨e,_⟩=>by subst e;rw [<-le];exact iU hL _ nI) (by omega) (fun i acc S2 hi ⟨e2,ea⟩=>?_) (fun es' S2 ⟨e2,ea⟩=>⟨by rw [ea,Za,ZF];omega,?_⟩) ⟨rfl,rfl⟩
  ·subst e2;have li:i < M.length:=by rw [hm.len];exact hi
   obtain ⟨a,eb,na,za⟩:=hr.row i M[i] (gEG li);simp only [eb,ZO];refine ⟨_,rfl,?_⟩;k_is;have tq:au jQ (.ref a) S2=some (.tup (M[i].map D.int),S2):=by simp only [au,aj,ak za,Zp,jQ]
   refine aa tq ?_;refine ⟨rfl,?_⟩;rw [ea,Zz li,ZB];rfl
  ·subst e2;rw [ZU (by rw [hm.len];exact Zd _)] at ea;subst ea;show Ok (some (D.tup _,S2)) _;rw [al];exact q (n+1) M S2 d1 hm (by omega) (by omega) tr
theorem BN (h:Pot p S) (q:∀ n M S',Dr p S S'->Dw.Mat n M->1<=n->n<=4->Dw.mi n n M->Q (.tup (M.map aJ)) S'):Ok (evC af (k+2) m6 [.ref p] S) Q:=by
 refine aw (d:=iQ) (ρ:=[some (.ref p),none,none,none]) rfl rfl ?_;dsimp only [iQ,dh];k_is;refine ⟨rfl,ao h (by decide) (by decide) fun r0 S1 r1 r2 d1=>?_⟩;k_is;obtain ⟨n,rfl⟩:∃ n:Nat,r0=(n:Int):=⟨r0.toNat,by omega⟩;have e1:((1:Int)+n).toNat=n+1:=by omega
 refine ⟨(by simp only [lim,bAE,decide_eq_true_eq];omega),?_⟩;rw [e1];refine qD (by omega) (fun i acc S'=>Dr p S1 S'/\∃ M:List (List Int),M.length=i/\RowsS p S' acc M/\∀ r ∈ M,r.length=n+1/\∀ x ∈ r,1<=x/\x<=99) (fun i acc S2 hi ⟨d2,M,lM,rM,bM⟩=>⟨_,rfl,?_⟩) (fun es S2 ⟨d2,M,lM,rM,bM⟩=>⟨by rw [rM.len];omega,?_⟩) ⟨Dr.refl d1.pot,[],rfl,RowsS.nil,fun r hr=>by simp at hr⟩
 ·k_is;refine ⟨(by simp only [lim,bAE,decide_eq_true_eq];omega),?_⟩;rw [e1];refine qD (by omega) (fun j acc S'=>Dr p S2 S'/\∃ r:List Int,acc=r.map D.int/\r.length=j/\∀ x ∈ r,1<=x/\x<=99) (fun j acc S3 hj ⟨d3,r,ea,lr,br⟩=>⟨_,rfl,?_⟩) (fun es S3 ⟨d3,r,ea,lr,br⟩=>⟨by rw [ea,Za];omega,?_⟩) ⟨Dr.refl d2.pot,[],rfl,rfl,fun x hx=>by simp at hx⟩
  ·k_is;refine ⟨rfl,ao d3.pot (by decide) (by decide) fun x S4 x1 x2 d4=>?_⟩;k_is;refine ⟨d3.trans d4,r++[1+x],by rw [ea,ZB];rfl,by simp [lr],fun y hy=>?_⟩;rcases ZK.mp hy with hy | hy
   ·exact br y hy
   ·simp at hy;omega
  ·subst ea;k_is;have lt:=d3.pot.lt;refine ⟨(d2.trans d3).thenSm (Sm.app _ _),M++[r],by simp [lM],((rM.keep d3.kp).keep (Sm.app _ _).kp).snoc (by omega) ai,fun r' hr'=>?_⟩;rcases ZK.mp hr' with hr' | hr'
   ·exact bM r' hr'
   ·simp at hr';subst hr';exact ⟨lr,br⟩
 ·have lt2:=d2.pot.lt;have d3:Dr p S1 (S2++[Ob.lst es]):=d2.thenSm (Sm.app _ _);have r3:RowsS p (S2++[Ob.lst es]) es M:=rM.keep (Sm.app _ _).kp;have a3:(S2++[Ob.lst es])[S2.length]?=some (Ob.lst es):=ai;have m3:Dw.Mat (n+1) M:=⟨lM,fun r hr=>(bM r hr).1,fun r hr=>(bM r hr).2⟩;have ne3:S2.length ≠ p:=by omega
  revert a3 r3 d3;generalize S2++[Ob.lst es]=S3;intro d3 r3 a3;k_is;refine ⟨rfl,ao d3.pot (by decide) (by decide) fun x S4 x1 x2 d4=>?_⟩;k_is;have a4:=d4.kp _ _ ne3 a3;have r4:=r3.keep d4.kp;have d5:Dr p S S4:=(d1.trans d3).trans d4;have hlim:lim (1+(n:Int))=true:=by simp only [lim,bAE,decide_eq_true_eq];omega
  refine bT (fun _=>?_) fun _=>?_
  ·k_is;refine ⟨(by rw [ak a4];rfl),?_⟩;have le:es.length=n+1:=by rw [r4.len,lM]
   refine ek (n+1) (fun i=>(es[i]?).getD .non) (fun i acc S'=>Dr p S4 S'/\∃ M':List (List Int),M'.length=i/\RowsS p S' acc M'/\∀ r ∈ M',r.length=n+1/\∀ x ∈ r,1<=x/\x<=99) (fun i acc S' hi ⟨dd,_⟩=>by rw [<-le];exact iU (dd.kp _ _ ne3 a4) _ nI) (by omega) (fun i acc S5 hi ⟨dd,M',lM',rM',bM'⟩=>?_) (fun es' S5 ⟨dd,M',lM',rM',bM'⟩=>⟨by rw [rM'.len];omega,?_⟩) ⟨Dr.refl d4.pot,[],rfl,RowsS.nil,fun r hr=>by simp at hr⟩
   ·obtain ⟨r,m1,lr,_⟩:=m3.at hi hi;obtain ⟨a,ea,na,za⟩:=r4.row i r m1;simp only [ea,ZO];refine ⟨_,rfl,?_⟩;k_is;have za5:=dd.kp _ _ na za;refine ⟨(by rw [ak za5];rfl),?_⟩;have lm:(r.map D.int).length=n+1:=by rw [Za];exact lr
    refine ek (n+1) (fun i=>((r.map D.int)[i]?).getD .non) (fun j acc S'=>Dr p S5 S'/\∃ r:List Int,acc=r.map D.int/\r.length=j/\∀ x ∈ r,1<=x/\x<=99) (fun j acc S' hj ⟨de,_⟩=>by rw [<-lm];exact iU (de.kp _ _ na za5) _ nI) (by omega) (fun j acc S6 hj ⟨de,r',ea',lr',br⟩=>⟨_,rfl,?_⟩) (fun es6 S6 ⟨de,r',ea',lr',br⟩=>⟨by rw [ea',Za];omega,?_⟩) ⟨Dr.refl dd.pot,[],rfl,rfl,fun x hx=>by simp at hx⟩
    ·k_is;refine ⟨rfl,ao de.pot (by decide) (by decide) fun y S7 y1 y2 d7=>?_⟩;k_is;refine ⟨de.trans d7,r'++[99 - y],by rw [ea',ZB];rfl,by simp [lr'],fun z hz=>?_⟩;rcases ZK.mp hz with hz | hz
     ·exact br z hz
     ·simp at hz;omega
    ·subst ea';k_is;have lt:=de.pot.lt;refine ⟨(dd.trans de).thenSm (Sm.app _ _),M'++[r'],by simp [lM'],((rM'.keep de.kp).keep (Sm.app _ _).kp).snoc (by omega) ai,fun r'' hr''=>?_⟩;rcases ZK.mp hr'' with hr'' | hr''
     ·exact bM' r'' hr''
     ·simp at hr'';subst hr'';exact ⟨lr',br⟩
   ·have lt:=dd.pot.lt;have d6:Dr p S4 (S5++[Ob.lst es']):=dd.thenSm (Sm.app _ _);have tail:=nJ (k:=k) (Q:=Q) (n:=n) (L:=S5.length) (es:=es') (M:=M') d6.pot ai (by omega) (rM'.keep (Sm.app _ _).kp) ⟨lM',fun r hr=>(bM' r hr).1,fun r hr=>(bM' r hr).2⟩ (by omega) fun n' M S' dd' h1 h2 h3 h4=>q n' M S' ((d5.trans d6).trans dd') h1 h2 h3 h4;dsimp only [dh,Yb] at tail;k_is;exact tail
  ·have tail:=nJ (k:=k) (Q:=Q) (n:=n) d4.pot a4 ne3 r4 m3 (by omega) fun n' M S' dd' h1 h2 h3 h4=>q n' M S' (d5.trans dd') h1 h2 h3 h4;dsimp only [dh,Yb] at tail;k_is;exact tail
end Lw
namespace Lw
open PySem Ev Sn L2
variable {p:Nat} {S S':Sto} {k:Nat} {Q:D->Sto->Prop} {K:Sky}
theorem yw (h:Pot p S) (q:∀ H S',Dr p S S'->Ris (-1) H->H.length<=4->(∀ z ∈ H,z.2<=9999)->Q (.tup (H.map ab)) S'):Ok (evC af (k+2) kF [.ref p,.int 0] S) Q:=by
 refine aw (d:=gu) (ρ:=[some (.ref p),some (.int 0),none,none,none]) rfl rfl ?_;dsimp only [gu,kQ];k_is;have d0:Dr p S (S++[Ob.lst []]):=Dr.sm h (Sm.app _ _);refine ⟨rfl,ao d0.pot (by decide) (by decide) fun r0 S1 r1 r2 d1=>?_⟩;obtain ⟨n,rfl⟩:∃ n:Nat,r0=(n:Int):=⟨r0.toNat,by omega⟩;have lt:=h.lt;have a1:S1[S.length]?=some (Ob.lst []):=d1.kp _ _ (by omega) ai
 have at5:atI [D.int 0,D.int 1,D.int 2,D.int 3,D.int 4] (n:Int)=some (D.int n):=by
  have:n=0\/n=1\/n=2\/n=3\/n=4:=by omega
  rcases this with rfl | rfl | rfl | rfl | rfl <;> rfl
 refine ⟨_,at5,?_⟩;k_is;refine ⟨(by simp only [lim,bAE,decide_eq_true_eq];omega),?_⟩;rw [Zn];refine fP (by omega) (fun i ρ S'=>Kp p S S'/\Pot p S'/\∃ (es:List (Int × Int)) (b:Int) (u:Option D),ρ=[some (.ref p),some (.int 0),some (.ref S.length),some (.int b),u]/\S'[S.length]?=some (.lst (es.map ab))/\(Ris (-1) es/\∀ z ∈ es,z.2<=b)/\es.length=i/\0<=b/\b<=20 * i) (fun i ρ S2 hi ⟨k2,p2,es,b,u,er,hf,hg,le,b0,b1⟩=>?_) (fun ρ S2 ⟨k2,p2,es,b,u,er,hf,hg,le,b0,b1⟩=>?_) ⟨d0.kp.trans d1.kp,d1.pot,[],0,none,rfl,a1,⟨trivial,fun z hz=>by cases hz⟩,rfl,by omega,by omega⟩
 ·subst er;refine ⟨_,rfl,?_⟩;k_is;refine ⟨rfl,ao p2 (by decide) (by decide) fun x S3 x1 x2 d3=>?_⟩;k_is;have f3:=d3.kp _ _ (show S.length ≠ p by omega) hf;refine ⟨dz f3,?_⟩;k_is;refine ⟨rfl,ao d3.pot (by decide) (by decide) fun y S4 y1 y2 d4=>?_⟩;k_is;have f4:=d4.kp _ _ (show S.length ≠ p by omega) f3;rw [qE f4 (by rw [Za];omega)];k_is;have lt4:S.length < S4.length:=(Zc.mp f4).1;have f5:(S4.set S.length (Ob.lst (es.map ab++[D.tup [D.int (b+1+x),D.int (b+1+x+1+y)]])))[S.length]?=some (Ob.lst (es.map ab++[D.tup [D.int (b+1+x),D.int (b+1+x+1+y)]])):=ft lt4;refine aa (ww f5) ?_;k_is;show Ok (some (D.int (b+1+x+1+y),_)) _;rw [al];k_is;refine ⟨((k2.trans d3.kp).trans d4.kp).setNew (Zd _),d4.pot.setNe (by omega),es++[(b+1+x,b+1+x+1+y)],_,_,rfl,by rw [ZB];exact f5,⟨sR hg.1 (by omega) (fun z hz=>by have:=hg.2 z hz;omega) (by omega),fun z hz=>?_⟩,by simp [le],by omega,by omega⟩;rcases ZK.mp hz with hz | hz
  ·have:=hg.2 z hz;omega
  ·rw [ZM.mp hz];exact YA _
 ·subst er;k_is;have tq:au jQ (.ref S.length) S2=some (.tup (es.map ab),S2):=by simp only [au,aj,ak hf,Zp,jQ]
  refine aa tq ?_;k_is;exact q es S2 ⟨k2,p2⟩ hg.1 (by omega) fun z hz=>by have:=hg.2 z hz;omega
theorem BO (h:Pot p S) (q:∀ r s M H S',Dr p S S'->MeOk r s M H->Q (meL r s M H) S'):Ok (evC af (k+3) jv [.ref p] S) Q:=by
 refine aw (d:=fj) (ρ:=[some (.ref p),none]) rfl rfl ?_;dsimp only [fj,jC];k_is;refine ⟨rfl,ao h (by decide) (by decide) fun r0 S1 r1 r2 d1=>?_⟩;obtain ⟨n,rfl⟩:∃ n:Nat,r0=(n:Int):=⟨r0.toNat,by omega⟩
 obtain ⟨r,at1,hr⟩:∃ r:Int,atI [D.int 2,D.int 1,D.int 3,D.int 8,D.int 0] (n:Int)=some (D.int r)/\0<=r/\r<=8:=by
  have:n=0\/n=1\/n=2\/n=3\/n=4:=by omega
  rcases this with rfl | rfl | rfl | rfl | rfl
  ·exact ⟨2,rfl,by decide,by decide⟩
  ·exact ⟨1,rfl,by decide,by decide⟩
  ·exact ⟨3,rfl,by decide,by decide⟩
  ·exact ⟨8,rfl,by decide,by decide⟩
  ·exact ⟨0,rfl,by decide,by decide⟩
 refine ⟨_,at1,?_⟩;k_is;refine ⟨rfl,ao d1.pot (by decide) (by decide) fun s0 S2 s1 s2 d2=>?_⟩;obtain ⟨m,rfl⟩:∃ n:Nat,s0=(n:Int):=⟨s0.toNat,by omega⟩
 obtain ⟨s,at2,hs⟩:∃ r:Int,atI [D.int 2,D.int 0,D.int 1,D.int 5,D.int 60] (m:Int)=some (D.int r)/\0<=r/\r<=60:=by
  have:m=0\/m=1\/m=2\/m=3\/m=4:=by omega
  rcases this with rfl | rfl | rfl | rfl | rfl
  ·exact ⟨2,rfl,by decide,by decide⟩
  ·exact ⟨0,rfl,by decide,by decide⟩
  ·exact ⟨1,rfl,by decide,by decide⟩
  ·exact ⟨5,rfl,by decide,by decide⟩
  ·exact ⟨60,rfl,by decide,by decide⟩
 refine ⟨_,at2,?_⟩;k_is;refine ⟨rfl,BN d2.pot fun n' M S3 d3 hM m1 m4 tr=>?_⟩;k_is;refine ⟨rfl,yw d3.pot fun H S4 d4 ri h4 hb=>?_⟩;k_is;obtain rfl:=hM.len;exact q r s M H S4 (((d1.trans d2).trans d3).trans d4) ⟨hr.1,hr.2,hs.1,hs.2,hM,m1,m4,tr,ri,h4,hb⟩
theorem BP {r s:Int} {M:List (List Int)} {Hs:List (Int × Int)} (h:Pot p S) (me:MeOk r s M Hs)
  (q:∀ (a j f l u w:Int) S',Dr p S S'->GB M.length r s [a,j,f,l,u,w,0]->Q (aJ [a,j,f,l,u,w,0]) S'):Ok (evC af (k+2) jw [.ref p,meL r s M Hs] S) Q:=by
 have m1:=me.m1;have m4:=me.m4;have s0:=me.s0;have s60:=me.s60;have r0:=me.r0;refine aw (d:=fk) (ρ:=[some (.ref p),some (meL r s M Hs),none,none,none,none]) rfl rfl ?_;dsimp only [fk,jD];k_is;refine ⟨rfl,ao h (by decide) (by decide) fun j S1 j1 j2 d1=>?_⟩;k_is;refine aa (show ixS (meL r s M Hs) (.int 1) S1=some (.int s,S1) from rfl) ?_;k_is;refine ⟨rfl,ao d1.pot (by decide) (by decide) fun x S2 x1 x2 d2=>?_⟩;k_is;refine ⟨rfl,ao d2.pot (by decide) (by decide) fun y S3 y1 y2 d3=>?_⟩;obtain ⟨n,rfl⟩:∃ n:Nat,y=(n:Int):=⟨y.toNat,by omega⟩
 obtain ⟨e,at1,he⟩:∃ e:Int,atI [D.int 0,D.int 0,D.int x] (n:Int)=some (D.int e)/\0<=e/\e<=9:=by
  have:n=0\/n=1\/n=2:=by omega
  rcases this with rfl | rfl | rfl
  ·exact ⟨0,rfl,by decide,by decide⟩
  ·exact ⟨0,rfl,by decide,by decide⟩
  ·exact ⟨x,rfl,by omega,by omega⟩
 refine ⟨_,at1,?_⟩;k_is;refine ⟨rfl,ao d3.pot (by decide) (by decide) fun x' S4 a1 a2 d4=>?_⟩;k_is;refine ⟨rfl,ao d4.pot (by decide) (by decide) fun x'' S5 b1 b2 d5=>?_⟩;k_is;refine ⟨rfl,ao d5.pot (by decide) (by decide) fun y' S6 c1 c2 d6=>?_⟩;obtain ⟨n',rfl⟩:∃ n:Nat,y'=(n:Int):=⟨y'.toNat,by omega⟩
 obtain ⟨g,at2,hg⟩:∃ e:Int,atI [D.int x',D.int (5+x''),D.int 60,D.int 200] (n':Int)=some (D.int e)/\0<=e/\e<=200:=by
  have:n'=0\/n'=1\/n'=2\/n'=3:=by omega
  rcases this with rfl | rfl | rfl | rfl
  ·exact ⟨x',rfl,by omega,by omega⟩
  ·exact ⟨5+x'',rfl,by omega,by omega⟩
  ·exact ⟨60,rfl,by decide,by decide⟩
  ·exact ⟨200,rfl,by decide,by decide⟩
 refine ⟨_,at2,?_⟩;k_is;refine ⟨rfl,ao d6.pot (by decide) (by decide) fun z S7 z1 z2 d7=>?_⟩;k_is;refine ⟨rfl,ao d7.pot (by decide) (by decide) fun z' S8 z3 z4 d8=>?_⟩;k_is;refine ⟨rfl,ao d8.pot (by decide) (by decide) fun y'' S9 y3 y4 d9=>?_⟩;obtain ⟨n'',rfl⟩:∃ n:Nat,y''=(n:Int):=⟨y''.toNat,by omega⟩
 obtain ⟨u,at3,hu⟩:∃ v:Int,atI [D.int (j+s+e),D.int (j+z),D.int z'] (n'':Int)=some (D.int v)/\0<=v/\v<=300:=by
  have:n''=0\/n''=1\/n''=2:=by omega
  rcases this with rfl | rfl | rfl
  ·exact ⟨j+s+e,rfl,by omega,by omega⟩
  ·exact ⟨j+z,rfl,by omega,by omega⟩
  ·exact ⟨z',rfl,by omega,by omega⟩
 refine ⟨_,at3,?_⟩;k_is;have d10:=(((((((d1.trans d2).trans d3).trans d4).trans d5).trans d6).trans d7).trans d8).trans d9;refine aa (show ixS (meL r s M Hs) (.int 2) _=some (.tup (M.map aJ),_) from rfl) ?_;refine aa (show au ce (.tup (M.map aJ)) S9=some (.int M.length,S9) by simp only [au,aj,ce,Za]) ?_;k_is;refine ⟨rfl,ao d9.pot (by omega) (by omega) fun kd Sa ka kb da=>?_⟩;k_is;refine ⟨rfl,ao da.pot (by decide) (by decide) fun w Sb w1 w2 db=>?_⟩;k_is;exact q kd j (j+s+e) (j+s+e+g) u w Sb ((d10.trans da).trans db) ⟨_,_,_,_,_,_,_,rfl,by omega⟩
end Lw
namespace Lw
open PySem Ev Sn L2
variable {p:Nat} {S S':Sto} {k:Nat} {Q:D->Sto->Prop} {K:Sky}
theorem sU {n:Nat} {ds:List D} {tg:Tg} {b:XS} {ρ:Rho} {Q:Fl->Rho->Sto->Prop} (hl:ds.length<=100000) (I:Nat->Rho->Sto->Prop) (hI:∀ i ρ S',I i ρ S'->S'[n]?=some (.lst ds))
  (step:∀ (i:Nat) d ρ S',ds[i]?=some d->I i ρ S'->∃ ρ1,ay tg d ρ=some ρ1/\OkS (b ρ1 S') fun fl ρ2 S2=>match fl with | .nx=>I (i+1) ρ2 S2 | .ct=>I (i+1) ρ2 S2 | .bk=>Q .nx ρ2 S2 | .rt d=>Q (.rt d) ρ2 S2)
  (q:∀ ρ S',I ds.length ρ S'->Q .nx ρ S') (h0:I 0 ρ S):OkS (eF (nxS n) tg b LF 0 ρ S) Q:=by
 refine jG ds.length I (by unfold LF;omega) (fun i ρ S' hi iv=>?_) (fun ρ S' iv=>⟨?_,q ρ S' iv⟩) h0
 ·obtain ⟨ρ1,e2,z⟩:=step i ds[i] ρ S' (gEG hi) iv;refine ⟨ds[i],ρ1,?_,e2,z⟩;show (am S' n).map (fun ds=>ds[i]?)=_;rw [ak (hI i ρ S' iv),Zp,gEG hi]
 ·show (am S' n).map (fun ds'=>ds'[ds.length]?)=_;rw [ak (hI _ ρ S' iv),Zp,Zy (Zd _)]
theorem b9 {α:Type} {l:List α} {E:α->D} {S:Sto}:au ce (.tup (l.map E)) S=some (.int l.length,S):=by simp only [au,aj,ce,Za]
theorem gV {n:Nat} {ds:List D} (h:S[n]?=some (.lst ds)):au jQ (.ref n) S=some (.tup ds,S):=by simp only [au,aj,ak h,Zp,jQ]
theorem Fs {n j:Nat} {G:List (List Int)} {g:List Int} (h:S[n]?=some (.lst (G.map aJ))) (hj:j < G.length):eD (.ref n) (.int (j:Int)) (aJ g) S=some (S.set n (.lst ((G.set j g).map aJ))):=by
 have hix:ixN (G.map aJ).length (j:Int)=some j:=by
  unfold ixN;rw [if_pos (by omega),if_pos (by rw [Za];omega),Zn]
 simp only [eD,h,hix,Zp,XJ]
theorem BQ {r s:Int} {M G:List (List Int)} {Hs:List (Int × Int)} {N Ng:Nat} {is:List Int} {S0:Sto} (h:Pot p S) (k0:Ev.Kp p S0 S) (l0:S0.length<=Ng) (me:MeOk r s M Hs) (hG:S[Ng]?=some (.lst (G.map aJ))) (nG:Ng ≠ p) (hN:S[N]?=some (.lst (is.map D.int))) (nN:N ≠ p) (gb:∀ g ∈ G,GB M.length r s g) (h0:∀ g ∈ G,g.getD 6 0=0) (l6:G.length<=6) (pm:is.Perm ((Zj G.length).map fun i=>Int.ofNat i))
  (q:∀ K S',Ev.Kp p S0 S'->Pot p S'->SkOk K->K.G.length<=6->Q (skE K) S') :
  rW (wSs (evC af (k+1)) (hF af) 56 (j3.drop 4)) [some (.ref p),some (.int 6),some (meL r s M Hs),some (.ref Ng),some (.ref N),none,none,none] S (out Q):=by
 dsimp only [j3,Yb];have m1:=me.m1;have m4:=me.m4;have r8:=me.r8;k_is;refine ⟨rfl,ao h (by decide) (by decide) fun x S1 x1 x2 d1=>?_⟩;obtain ⟨c,rfl⟩:∃ n:Nat,x=(n:Int):=⟨x.toNat,by omega⟩
 have at4:atI [D.int 0,D.int 1,D.int 2,D.int 3] (c:Int)=some (D.int c):=by
  have:c=0\/c=1\/c=2\/c=3:=by omega
  rcases this with rfl | rfl | rfl | rfl <;> rfl
 refine ⟨_,at4,?_⟩;k_is;have hN1:=d1.kp _ _ nN hN;have hG1:=d1.kp _ _ nG hG;refine aa (fw hN1) ?_;k_is;rw [<-Yj];have d2:Dr p S1 (S1++[Ob.lst ((is.take c).map D.int)]):=Dr.sm d1.pot (Sm.app _ _);have hF2:(S1++[Ob.lst ((is.take c).map D.int)])[Zb S1]?=some (Ob.lst ((is.take c).map D.int)):=ai;have hG2:=d2.kp _ _ nG hG1;have k2:=(k0.trans d1.kp).trans d2.kp;have lt1:=d1.pot.lt;have nF:Zb S1 ≠ p:=by omega
 have nFG:Zb S1 ≠ Ng:=by have:=(Zc.mp hG1).1;omega
 refine ⟨(by rw [ak hF2];rfl),?_⟩;generalize S1++[Ob.lst ((is.take c).map D.int)]=S2 at *;generalize Zb S1=F at *;have pr:=vf pm;have pf:∀ x ∈ is.take c,0<=x/\x < (G.length:Int):=fun x hx=>pr.2.1 x (Yi hx);have ndf:(is.take c).Nodup:=pr.1.sublist (Xk c is);have lf:(is.take c).length<=6:=by rw [ZF];have:=pr.2.2;omega
 generalize is.take c=fx at *
 have fin:∀ (G':List (List Int)) (a:Option (Int × Int)) S3,Ev.Kp p S0 S3->Pot p S3->G'.length=G.length->(∀ g ∈ G',GB M.length r s g)->(∀ (j:Nat) g,G'[j]?=some g->g.getD 6 0=0\/(j:Int) ∈ fx)->(∀ z:Int × Int,a=some z->0<=z.1/\z.1 < M.length/\0<=z.2/\z.2<=9999)->Q (skE ⟨r,s,M,Hs,a,G',fx⟩) S3:=fun G' a S3 k3 p3 l3 g3 r3 ha=>
  q ⟨r,s,M,Hs,a,G',fx⟩ S3 k3 p3 ⟨me,by show G'.length<=7;omega,g3,ndf,fun x hx=>by show 0<=x/\x < (G'.length:Int);rw [l3];exact pf x hx,r3,ha⟩ (by show G'.length<=6;omega)
 refine sU (by rw [Za];omega) (fun i ρ S'=>Ev.Kp p S0 S'/\Pot p S'/\S'[F]?=some (Ob.lst (fx.map D.int))/\∃ (G':List (List Int)) (u:Option D),ρ=[some (.ref p),some (.int 6),some (meL r s M Hs),some (.ref Ng),some (.ref N),some (.ref F),u,none]/\S'[Ng]?=some (Ob.lst (G'.map aJ))/\G'.length=G.length/\(∀ g ∈ G',GB M.length r s g)/\∀ (j:Nat) g,G'[j]?=some g->g.getD 6 0=0\/(j:Int) ∈ fx) (fun i ρ S' iv=>iv.2.2.1) (fun i d ρ S3 hd ⟨k3,p3,f3,G',u,er,g3,l3,hM3,hr3⟩=>?_) (fun ρ S3 ⟨k3,p3,f3,G',u,er,g3,l3,hM3,hr3⟩=>?_) ⟨k2,d2.pot,hF2,G,none,rfl,hG2,rfl,gb,fun j g e=>.inl (h0 g (Zm e))⟩
 ·subst er;obtain ⟨x,hx,rfl⟩:=nB hd;have hxf:=Zm hx;have hxb:=pf x hxf;obtain ⟨j,rfl⟩:∃ n:Nat,x=(n:Int):=⟨x.toNat,by omega⟩;have hj:j < G'.length:=by omega
  refine ⟨_,rfl,?_⟩;k_is;refine ⟨rfl,ao p3 (by decide) (by decide) fun y S4 y1 y2 d4=>?_⟩;k_is;have g4:=d4.kp _ _ nG g3;have f4:=d4.kp _ _ nF f3;have k4:=k3.trans d4.kp;have mt:∀ S,ixS (meL r s M Hs) (.int 0) S=some (.int r,S):=fun S=>rfl;cases ey:decide (y=0) with
  | false=>k_is;exact ⟨k4,d4.pot,f4,G',_,rfl,g4,l3,hM3,hr3⟩
  | true=>
   k_is;refine aa (mt S4) ?_;k_is;cases er0:decide (0 < r) with
   | false=>k_is;exact ⟨k4,d4.pot,f4,G',_,rfl,g4,l3,hM3,hr3⟩
   | true=>
    have hr0:=of_decide_eq_true er0;k_is;obtain ⟨a1,a2,a3,a4,a5,a6,a7,eg,hb⟩:=hM3 G'[j] (ZG hj);refine aa (b8 g4 (by omega) (show (G'.map aJ)[((j:Nat):Int).toNat]?=some (aJ G'[j]) by rw [Zn,Zl,gEG hj];rfl)) ?_;rw [eg,show aJ [a1,a2,a3,a4,a5,a6,a7]=D.tup [.int a1,.int a2,.int a3,.int a4,.int a5,.int a6,.int a7] from rfl];k_is;rw [show gZ [D.int a1,.int a2,.int a3,.int a4,.int a5,.int a6,.int a7] none (some 6)=[.int a1,.int a2,.int a3,.int a4,.int a5,.int a6] from rfl];refine aa (mt S4) ?_;refine ⟨rfl,ao d4.pot hr0 (by omega) fun z S5 z1 z2 d5=>?_⟩;k_is;have g5:=d5.kp _ _ nG g4;have f5:=d5.kp _ _ nF f4;have lt5:Ng < S5.length:=(Zc.mp g5).1;refine ⟨by show 7<=1000;decide,?_⟩;refine ⟨_,Fs (g:=[a1,a2,a3,a4,a5,a6,1+z]) g5 hj,?_⟩;k_is;refine ⟨(k4.trans d5.kp).setNew l0,d5.pot.setNe nG,by rw [ZJ (Ne.symm nFG)];exact f5,G'.set j [a1,a2,a3,a4,a5,a6,1+z],_,rfl,ft lt5,by rw [Z7];exact l3,fun g hg=>?_,fun j' g e=>?_⟩
    ·rcases List.mem_or_eq_of_mem_set hg with hg | rfl
     ·exact hM3 g hg
     ·exact ⟨_,_,_,_,_,_,_,rfl,by omega⟩
    ·by_cases hjj:j'=j
     ·subst hjj;exact .inr hxf
     ·rw [ZJ (Ne.symm hjj)] at e;exact hr3 j' g e
 ·subst er;k_is;refine ⟨rfl,ao p3 (by decide) (by decide) fun y S4 y1 y2 d4=>?_⟩;k_is;have g4:=d4.kp _ _ nG g3;have f4:=d4.kp _ _ nF f3;refine bT (fun _=>?_) fun _=>?_
  ·k_is;refine aa (show ixS (meL r s M Hs) (.int 2) S4=some (.tup (M.map aJ),S4) from rfl) (aa b9 ?_);k_is;refine ⟨rfl,ao d4.pot (by omega) (by omega) fun a S5 a1 a2 d5=>?_⟩;k_is;refine ⟨rfl,ao d5.pot (by decide) (by decide) fun b S6 b1 b2 d6=>?_⟩;k_is;have g6:=(d5.trans d6).kp _ _ nG g4;have f6:=(d5.trans d6).kp _ _ nF f4;refine aa (gV g6) (aa (gV f6) ?_);k_is;exact fin G' (some (a,b)) S6 ((k3.trans d4.kp).trans (d5.trans d6).kp) d6.pot l3 hM3 hr3 fun z e=>by cases e;exact ⟨a1,a2,b1,by omega⟩
  ·k_is;refine aa (gV g4) (aa (gV f4) ?_);k_is;exact fin G' none S4 (k3.trans d4.kp) d4.pot l3 hM3 hr3 fun z e=>by cases e
theorem Ft (h:Pot p S) (q:∀ K S',Dr p S S'->SkOk K->K.G.length<=6->Q (skE K) S'):Ok (evC af (k+4) oY [.ref p,.int 6] S) Q:=by
 refine aw (d:=j9) (ρ:=[some (.ref p),some (.int 6),none,none,none,none,none,none]) rfl rfl ?_;have tail:=@BQ p;dsimp only [j9];dsimp only [j3,Yb] at tail ⊢;k_is;refine ⟨rfl,BO h fun r s M Hs S1 d1 me=>?_⟩;k_is;refine ⟨rfl,ao d1.pot (by decide) (by decide) fun x S2 x1 x2 d2=>?_⟩;obtain ⟨n,rfl⟩:∃ n:Nat,x=(n:Int):=⟨x.toNat,by omega⟩;k_is;refine ⟨fA (by omega) (by omega),?_⟩;rw [Zn];refine qD (by omega) (fun i acc S'=>Dr p S2 S'/\∃ G:List (List Int),acc=G.map aJ/\G.length=i/\∀ g ∈ G,GB M.length r s g/\g.getD 6 0=0) (fun i acc S3 hi ⟨d3,G,ea,lG,hG⟩=>⟨_,rfl,?_⟩) (fun es S3 ⟨d3,G,ea,lG,hG⟩=>⟨by rw [ea,Za];omega,?_⟩) ⟨Dr.refl d2.pot,[],rfl,rfl,fun g hg=>by cases hg⟩
 ·k_is;refine ⟨rfl,BP (k:=k+1) d3.pot me fun a j f l u w S4 d4 hg=>?_⟩;refine ⟨d3.trans d4,G++[[a,j,f,l,u,w,0]],by rw [ea,ZB];rfl,by simp [lG],fun g hg'=>?_⟩;rcases ZK.mp hg' with hg' | hg'
  ·exact hG g hg'
  ·rw [ZM.mp hg'];exact ⟨hg,rfl⟩
 ·subst ea;have lt3:=d3.pot.lt;have k3:=(d1.trans d2).trans d3;have lS:S.length<=Zb S3:=Kp.len k3.kp lt3;k_is;have d4:Dr p S3 (S3++[Ob.lst (G.map aJ)]):=Dr.sm d3.pot (Sm.app _ _);have g4:(S3++[Ob.lst (G.map aJ)])[Zb S3]?=some (Ob.lst (G.map aJ)):=ai;refine aa (dL g4) ?_;k_is;rw [Za];refine ⟨_,rfl,by omega,?_⟩;k_is;have nG:Zb S3 ≠ p:=by omega
  have lG4:Zb S3 < Zb (S3++[Ob.lst (G.map aJ)]):=by simp
  generalize S3++[Ob.lst (G.map aJ)]=S4 at *;have d5:Dr p S4 (S4++[Ob.lst ((Zj G.length).map fun j=>D.int (Int.ofNat j))]):=Dr.sm d4.pot (Sm.app _ _);have n5:(S4++[Ob.lst ((Zj G.length).map fun j=>D.int (Int.ofNat j))])[Zb S4]?=some (Ob.lst (((Zj G.length).map fun j=>Int.ofNat j).map D.int)):=by rw [ZV];exact ai
  have g5:=d5.kp _ _ nG g4;have nN:Zb S4 ≠ p:=by omega
  generalize S4++[Ob.lst ((Zj G.length).map fun j=>D.int (Int.ofNat j))]=S5 at *;generalize Zb S3=Ng at *;generalize Zb S4=N at *;have k5:=(k3.trans d4).trans d5;refine ⟨rfl,ao d5.pot (by decide) (by decide) fun y S6 y1 y2 d6=>?_⟩;k_is;have n6:=d6.kp _ _ nN n5;have g6:=d6.kp _ _ nG g5;have k6:=k5.trans d6;refine bT (fun _=>?_) fun _=>?_
  ·k_is;refine ⟨by rw [ak g6];rfl,?_⟩;refine ek G.length (fun i=>.tup [.int i,((G.map aJ)[i]?).getD .non]) (fun i acc S'=>S'=S6/\acc=((G.take i).zipIdx.map fun z=>ab (z.1.getD 2 0,(z.2:Int)))) (fun i acc S' hi ⟨e,_⟩=>by subst e;rw [<-Za (f:=aJ)];exact wu (i:=i) g6 (by rw [Za];omega) (fun j=>.tup [.int j,((G.map aJ)[j]?).getD .non]) fun j d hd=>by show D.tup [.int j,((G.map aJ)[j]?).getD .non]=_;rw [hd];rfl) (by omega) (fun i acc S7 hi ⟨e7,ea⟩=>?_) (fun es S7 ⟨e7,ea⟩=>⟨by rw [ea,Za,YO,ZF];omega,?_⟩) ⟨rfl,rfl⟩
   ·subst e7;obtain ⟨a1,a2,a3,a4,a5,a6,a7,eg,_⟩:=(hG G[i] (ZG hi)).1;have ez:((G.map aJ)[i]?).getD .non=aJ [a1,a2,a3,a4,a5,a6,a7]:=by rw [Zl,gEG hi,eg];rfl
    rw [ez];refine ⟨_,ci (by simp) (by simp),?_⟩;k_is;refine aa (show ixS (aJ [a1,a2,a3,a4,a5,a6,a7]) (.int 2) S7=some (.int a3,S7) from rfl) ?_;k_is;refine ⟨rfl,?_⟩;rw [ea,Zz hi,List.zipIdx_append,ZB,ZF,Y4 (by omega),eg];show _=_++[ab (a3,((0+i:Nat):Int))];rw [XH];rfl
   ·subst e7;rw [ZU (Zd _)] at ea;have ep:(G.zipIdx.map fun z=>ab (z.1.getD 2 0,(z.2:Int)))=(G.zipIdx.map fun z=>(z.1.getD 2 0,(z.2:Int))).map ab:=by rw [ZV];rfl
    rw [ep] at ea;subst ea;obtain ⟨qs,es,pq⟩:=yv (ps:=G.zipIdx.map fun z=>(z.1.getD 2 0,(z.2:Int))) (by rw [Za,YO];omega);refine ⟨_,es,?_⟩;have lq:qs.length<=6:=by rw [pq.length_eq,Za,YO];omega
    refine bB qs ab (fun z=>[D.int z.2]) (by omega) (fun _ _=>Zd _) kh (fun i z S' hz sm=>⟨_,rfl,?_⟩) fun S8 s8=>?_
    ·k_is;refine aa (show ixS (ab z) (.int 1) S'=some (.int z.2,S') from rfl) ?_;exact ⟨rfl,Sm.refl _⟩
    ·rw [bA];k_is;have e7:(qs.map fun z=>D.int z.2)=(qs.map (·.2)).map D.int:=by rw [ZV];rfl
     have pm7:(qs.map (·.2)).Perm ((Zj G.length).map fun i=>Int.ofNat i):=by
      refine (pq.map (·.2)).trans ?_;rw [ZV];have:((·.2) ∘ fun z:List Int × Nat=>(z.1.getD 2 0,(z.2:Int)))=(fun i:Nat=>Int.ofNat i) ∘ Prod.snd:=rfl;rw [this,<-ZV,List.zipIdx_map_snd,List.range_eq_range']
     have d8:Dr p S7 (S8++[Ob.lst (qs.map fun z=>D.int z.2)]):=Dr.sm d6.pot (s8.trans (Sm.app _ _));have lt8:Zb S7<=Zb S8:=Kp.len s8.kp (Dr.sm d6.pot s8).pot.lt;have l7:p < Zb S7:=d6.pot.lt;exact tail (k:=k+2) d8.pot (k6.trans d8).kp lS me (d8.kp _ _ nG g6) nG (by rw [<-e7];exact ai) (by omega) (fun g hg=>(hG g hg).1) (fun g hg=>(hG g hg).2) (by omega) pm7 fun K S' k' p' sk l'=>q K S' ⟨k',p'⟩ sk l'
  ·k_is;refine ⟨rfl,pb (k:=k+1) d6.pot n6 nN (by rw [Za,ZL];omega) fun is S7 d7 pm=>?_⟩;k_is;have d8:Dr p S6 (S7++[Ob.lst (is.map D.int)]):=d7.thenSm (Sm.app _ _);have l7:=d7.pot.lt;exact tail (k:=k+2) d8.pot (k6.trans d8).kp lS me (d8.kp _ _ nG g6) nG ai (by omega) (fun g hg=>(hG g hg).1) (fun g hg=>(hG g hg).2) (by omega) pm fun K S' k' p' sk l'=>q K S' ⟨k',p'⟩ sk l'
end Lw
namespace Lw
open PySem Ev Sn L2
variable {p:Nat} {S S':Sto} {k:Nat} {Q:D->Sto->Prop} {K:Sky}
noncomputable def pd (H:List (Int × Int)) (m:Int):Bool:=H.any fun z=>decide (z.1<=m) && decide (m < z.2)
structure MAt (K:Sky) (A:List (Int × Int)) (z:Int × Int):Prop where
 lo:gi K.G z.1 2<=z.2
 hi:z.2<=gi K.G z.1 3
 op:pd K.H z.2=false
 gap:∀ a,cK K A=some a->a.2+gp K a.1 (gi K.G z.1 0)<=z.2
structure FAt (K:Sky) (A:List (Int × Int)) (j:Nat) (z:Int × Int):Prop where
 d0:0<=z.1
 d1:z.1 < K.G.length
 tw:z.1 ∉ A.map (·.1)
 fx:∀ f,K.F[j]?=some f->z.1=f
 m:MAt K A z
noncomputable def Hi (K:Sky) (A:List (Int × Int)) (z:Int × Int):Prop:=0 < gi K.G z.1 6/\∃ t,jn K z.1<=t/\t < z.2 - K.s/\gi K.G z.1 6 < 1+(wts K A t:Int)
structure Fine (K:Sky) (L:List (Int × Int)):Prop where
 each:∀ (j:Nat) z,L[j]?=some z->FAt K (L.take j) j z
 all:∀ g:Nat,g < K.G.length->(g:Int) ∈ L.map (·.1)
 crowd:∀ t ∈ js K,(wts K L t:Int)<=K.r
 high:∀ (j:Nat) z,L[j]?=some z->¬ Hi K (L.take j) z
theorem OV {A:List (Int × Int)} {z:Int × Int}:sN K A z.1 z.2=true ↔ Hi K A z:=by
 unfold sN Hi;rw [bAE,decide_eq_true_eq,decide_eq_true_eq];constructor
 ·rintro ⟨h0,h⟩;refine ⟨h0,?_⟩;unfold uW at h;have ne:(eM K A z.1 z.2).map (fun t=>1+(wts K A t:Int)) ≠ []:=fun e=>by rw [e] at h;exact absurd h (by show ¬ gi K.G z.1 6 < 0;omega)
  rw [nz ne] at h;obtain ⟨t,ht,e⟩:=ZD.mp (qK ne);rw [<-e] at h;unfold eM at ht;have h2:=(ZR.mp ht).2;simp only [bAE,decide_eq_true_eq] at h2;exact ⟨t,h2.1,h2.2,h⟩
 ·rintro ⟨h0,t,h1,h2,h3⟩;refine ⟨h0,?_⟩;obtain ⟨u,a1,a2,a3,a4⟩:=qM (K:=K) h1 A
  have hu:u ∈ eM K A z.1 z.2:=by
   unfold eM;refine ZR.mpr ⟨?_,by simp only [bAE,decide_eq_true_eq];omega⟩;rcases a1 with rfl | ⟨q,hq,rfl⟩
   ·exact Zg
   ·exact Ze _ (ZD.mpr ⟨q,hq,rfl⟩)
  have hw:wts K A t<=wts K A u:=lJ fun q hq hw=>by
   have a:=a4 q hq hw;simp only [ax,bAE,decide_eq_true_eq] at hw ⊢;omega
  unfold uW;have hm:1+(wts K A u:Int) ∈ (eM K A z.1 z.2).map (fun t=>1+(wts K A t:Int)):=ZD.mpr ⟨u,hu,rfl⟩;rw [nz (fun z=>by rw [z] at hm;cases hm)];have:=qL hm;omega
theorem yx {L:List (Int × Int)} (hL:InG K L) (r0:0<=K.r) (h:∀ t ∈ js K,(wts K L t:Int)<=K.r) (t:Int):(wts K L t:Int)<=K.r:=by
 cases hw:L.filter (ax K t) with
 | nil=>unfold wts;rw [hw];exact r0
 | cons q r=>
  have hq:=ZR.mp (by rw [hw];exact Zg:q ∈ L.filter (ax K t));have hq2:=hq.2;simp only [ax,bAE,decide_eq_true_eq] at hq2;obtain ⟨u,a1,a2,a3,a4⟩:=qM (K:=K) hq2.1 L
  have hu:u ∈ js K:=by
   rcases a1 with rfl | ⟨q',hq',rfl⟩
   ·exact uY (hL q hq.1).1 (hL q hq.1).2
   ·exact uY (hL q' hq').1 (hL q' hq').2
  have hle:wts K L t<=wts K L u:=lJ fun q hq hw=>by
   have a:=a4 q hq hw;simp only [ax,bAE,decide_eq_true_eq] at hw ⊢;omega
  have:=h u hu;omega
theorem Fu {α:Type} (l:List α) (g:α->Bool) (S:Sto):nX false (l.map fun t=>D.bl (g t)) S=some (.bl (l.any g),S):=by
 unfold nX;rw [if_pos ⟨rfl,by rw [ZP,Zx];intro x _;rfl⟩,Xo];rfl
theorem Fv (hl:K.H.length<=4) {m:Int} (q:∀ S',Sm S S'->Q (.bl (pd K.H m)) S'):Ok (evC af (k+1) oU [meE K,.int m] S) Q:=by
 refine aw (d:=j5) (ρ:=[some (meE K),some (.int m)]) rfl rfl ?_;dsimp only [j5,o0];k_is;refine aa me3 ?_;k_is;refine bB K.H ab (fun z=>[.bl (decide (z.1<=m) && decide (m < z.2))]) (by omega) (fun _ _=>Zd _) kh (fun i z S' hz sm=>⟨_,show ay (.tup [.name 2,.name 3]) (.tup [.int z.1,.int z.2]) _=_ from ci (by simp) (by simp),?_⟩) fun S1 s1=>?_
 ·k_is;cases decide (z.1<=m) with
  | true=>k_is;exact ⟨rfl,Sm.refl _⟩
  | false=>k_is;exact ⟨rfl,Sm.refl _⟩
 ·rw [bA];refine aa (Fu _ _ _) ?_;k_is;exact q S1 s1
theorem BR (V:Vd K) {L:List (Int × Int)} {n j:Nat} {z:Int × Int} (hn:S[n]?=some (.lst (L.map ab))) (hz:L[j]?=some z) (hL:InG K (L.take j)) (z0:0<=z.1) (z1:z.1 < K.G.length) (q:∀ d S',Sm S S'->(d = .non ↔ MAt K (L.take j) z)->Q d S'):Ok (evC af (k+2) c9 [skE K,.ref n,.int j] S) Q:=by
 refine aw (d:=dn) (ρ:=[some (skE K),some (.ref n),some (.int j),none,none,none,none,none,none,none,none,none,none,none,none,none]) rfl rfl ?_;dsimp only [dn,f9];obtain ⟨a0,b,c,d,e,f,h,eg,e0,e1,e2,e3,e6,k0,k1,c0⟩:=gl7 V z0 z1;have no:∀ (w:Str) S',Sm S S'->¬ MAt K (L.take j) z->Q (.str w) S':=fun w S' s' nk=>q _ S' s' ⟨fun x=>(by cases x),fun x=>absurd x nk⟩;rw [show skE K = .tup [meE K,ahE K.ah,.tup (K.G.map aJ),.tup (K.F.map D.int)] from rfl];k_is;refine aa (b8 hn (by omega) (show (L.map ab)[((j:Nat):Int).toNat]?=some (ab z) by rw [Zn,Zl,hz];rfl)) ?_;rw [show ab z = .tup [.int z.1,.int z.2] from rfl];k_is;refine aa (gB z0 eg) ?_;rw [show aJ [a0,b,c,d,e,f,h] = .tup [.int a0,.int b,.int c,.int d,.int e,.int f,.int h] from rfl];k_is;cases c1:decide (z.2 < c) with
 | true=>k_is;exact no _ S (Sm.refl _) fun m=>by have:=m.lo;have:=of_decide_eq_true c1;omega
 | false=>
 k_is;cases c2:decide (d < z.2) with
 | true=>k_is;exact no _ S (Sm.refl _) fun m=>by have:=m.hi;have:=of_decide_eq_true c2;omega
 | false=>
 k_is;refine ⟨rfl,Fv V.h4 fun S1 s1=>?_⟩;k_is;cases c3:pd K.H z.2 with
 | true=>k_is;exact no _ S1 s1 fun m=>by have:=m.op;rw [c3] at this;cases this
 | false=>
 k_is;rw [show D.tup [meE K,ahE K.ah,.tup (K.G.map aJ),.tup (K.F.map D.int)]=skE K from rfl];refine aa (fw (s1 _ _ hn)) ?_;have s2:Sm S1 (S1++[Ob.lst ((L.map ab).take j)]):=Sm.app _ _;have a2:(S1++[Ob.lst ((L.map ab).take j)])[Zb S1]?=some (Ob.lst ((L.take j).map ab)):=by rw [ai,Yj]
 generalize Zb S1=N at *;generalize S1++[Ob.lst ((L.map ab).take j)]=S2 at *;refine ⟨rfl,BG V a2 hL ?_⟩;refine ⟨rfl,Fp V (sQ V hL) k0 k1 ?_⟩;k_is
 have key:(z.2 < Fm K (cK K (L.take j)) a0) ↔ ¬ ∀ a,cK K (L.take j)=some a->a.2+gp K a.1 a0<=z.2:=by
  unfold Fm;cases hA:cK K (L.take j) with
  | none=>
   constructor
   ·intro hlt;have:=of_decide_eq_false c1;have hlt:z.2 < 0:=hlt;omega
   ·intro hh;exact absurd (fun a e=>by cases e) hh
  | some a=>
   constructor
   ·intro hlt hh;have:=hh a rfl;have hlt:z.2 < a.2+gp K a.1 a0:=hlt;omega
   ·intro hh;show z.2 < a.2+gp K a.1 a0;refine Int.not_le.mp fun hle=>hh fun b e=>by cases e;exact hle
 cases c4:decide (z.2 < Fm K (cK K (L.take j)) a0) with
 | true=>k_is;exact no _ S2 (s1.trans s2) fun m=>key.mp (of_decide_eq_true c4) fun a ha=>by have:=m.gap a ha;rw [e0] at this;exact this
 | false=>
  k_is;refine q _ S2 (s1.trans s2) ⟨fun _=>⟨by rw [e2];have:=of_decide_eq_false c1;omega,by rw [e3];have:=of_decide_eq_false c2;omega,c3,fun a ha=>?_⟩,fun _=>rfl⟩;rw [e0];exact Classical.byContradiction fun hh=>of_decide_eq_false c4 (key.mpr fun h'=>hh (h' a ha))
theorem nK (neg:Bool) {n:Nat} {is:List Int} (h:S[n]?=some (.lst (is.map D.int))) (i:Int):inS neg (.int i) (.ref n) S=some (.bl (neg != decide (i ∈ is)),S):=by
 have:=qC neg is i S;unfold inS at this ⊢;have e:aj (.ref n) S=some (false,is.map D.int):=by simp only [aj,ak h,Zp]
 rw [e];exact this
end Lw
namespace Lw
open PySem Ev Sn L2
variable {p:Nat} {S S':Sto} {k:Nat} {Q:D->Sto->Prop} {K:Sky}
theorem BS {n:Nat} {ds:List D} {tg:Tg} {b:XS} {ρ:Rho} {Q:Fl->Rho->Sto->Prop} (hl:ds.length<=100000) (I:Nat->Rho->Sto->Prop) (hI:∀ i ρ S',I i ρ S'->S'[n]?=some (.lst ds))
  (step:∀ (i:Nat) d ρ S',ds[i]?=some d->I i ρ S'->∃ ρ1,ay tg (.tup [.int i,d]) ρ=some ρ1/\OkS (b ρ1 S') fun fl ρ2 S2=>match fl with | .nx=>I (i+1) ρ2 S2 | .ct=>I (i+1) ρ2 S2 | .bk=>Q .nx ρ2 S2 | .rt d=>Q (.rt d) ρ2 S2)
  (q:∀ ρ S',I ds.length ρ S'->Q .nx ρ S') (h0:I 0 ρ S):OkS (eF (xU n) tg b LF 0 ρ S) Q:=by
 refine jG ds.length I (by unfold LF;omega) (fun i ρ S' hi iv=>?_) (fun ρ S' iv=>⟨?_,q ρ S' iv⟩) h0
 ·obtain ⟨ρ1,e2,z⟩:=step i ds[i] ρ S' (gEG hi) iv;refine ⟨.tup [.int i,ds[i]],ρ1,?_,e2,z⟩;show (am S' n).bind (fun ds=>enm ds i)=_;rw [ak (hI i ρ S' iv)];show enm ds i=_;unfold enm;rw [if_pos (by omega),gEG hi];rfl
 ·show (am S' n).bind (fun ds'=>enm ds' ds.length)=_;rw [ak (hI _ ρ S' iv)];show enm ds ds.length=_;unfold enm;rw [if_pos (Zd _),Zy (Zd _)];rfl
theorem nM {L:List (Int × Int)} {j:Nat} {z:Int × Int} (hz:L[j]?=some z):(L.map ab)[((j:Nat):Int).toNat]?=some (ab z):=by rw [Zn,Zl,hz];rfl
theorem cR {d:D}:av .isnot d .non S=some (.bl (!bF d),S):=by
 show isB true d .non S=_;unfold isB;cases d <;> rfl
theorem iW {d:D}:av .is d .non S=some (.bl (bF d),S):=by
 show isB false d .non S=_;unfold isB;cases d <;> rfl
theorem ki {d:D}:bF d=true ↔ d = .non:=by cases d <;> simp [bF]
theorem jI {L:List (Int × Int)}:(L.map fun z=>D.int z.1)=(L.map (·.1)).map D.int:=by rw [ZV];rfl
theorem Fw (V:Vd K) {L:List (Int × Int)} {n j:Nat} {z:Int × Int} (hn:S[n]?=some (.lst (L.map ab))) (hl:L.length<=20) (hz:L[j]?=some z) (hL:InG K (L.take j)) (q:∀ d S',Sm S S'->(d = .non ↔ FAt K (L.take j) j z)->Q d S'):Ok (evC af (k+3) fF [skE K,.ref n,.int j] S) Q:=by
 refine aw (d:=cC) (ρ:=[some (skE K),some (.ref n),some (.int j),none,none,none,none,none]) rfl rfl ?_;dsimp only [cC,fK];have no:∀ (w:Str) S',Sm S S'->¬ FAt K (L.take j) j z->Q (.str w) S':=fun w S' s' nk=>q _ S' s' ⟨fun x=>(by cases x),fun x=>absurd x nk⟩;rw [show skE K = .tup [meE K,ahE K.ah,.tup (K.G.map aJ),.tup (K.F.map D.int)] from rfl];k_is;refine aa (b8 hn (by omega) (nM hz)) (aa (show ixS (ab z) (.int 0) S=some (.int z.1,S) from rfl) ?_);k_is;cases c1:decide (0<=z.1) with
 | false=>k_is;exact no _ S (Sm.refl _) fun x=>of_decide_eq_false c1 x.d0
 | true=>
 k_is;refine aa b9 ?_;k_is;cases c2:decide (z.1 < (K.G.length:Int)) with
 | false=>k_is;exact no _ S (Sm.refl _) fun x=>of_decide_eq_false c2 x.d1
 | true=>
 k_is;refine aa (fw hn) ?_;have s1:Sm S (S++[Ob.lst ((L.map ab).take j)]):=Sm.app _ _;have a1:(S++[Ob.lst ((L.map ab).take j)])[Zb S]?=some (Ob.lst ((L.take j).map ab)):=by rw [ai,Yj]
 generalize Zb S=N at *;generalize S++[Ob.lst ((L.map ab).take j)]=S1 at *;k_is;refine ⟨by rw [ak a1];rfl,?_⟩;have lt:(L.take j).length<=20:=by rw [ZF];omega
 refine bB (L.take j) ab (fun z=>[.int z.1]) (by omega) (fun _ _=>Zd _) (cI a1) (fun i y S' hy sm=>⟨_,show ay (.tup [.name 8,.name 9]) (.tup [.int y.1,.int y.2]) _=_ from ci (by simp) (by simp),?_⟩) fun S2 s2=>?_
 ·k_is;exact ⟨rfl,Sm.refl _⟩
 ·rw [bA,jI];k_is;have s3:Sm S2 (S2++[Ob.lst (((L.take j).map (·.1)).map D.int)]):=Sm.app _ _;refine aa (show av .isin (.int z.1) (.ref (Zb S2)) (S2++[Ob.lst (((L.take j).map (·.1)).map D.int)])=some (.bl (false != decide (z.1 ∈ (L.take j).map (·.1))),_) from nK false ai z.1) ?_;have sA:=(s1.trans s2).trans s3;generalize S2++[Ob.lst (((L.take j).map (·.1)).map D.int)]=S3 at *;k_is;cases c3:decide (z.1 ∈ (L.take j).map (·.1)) with
  | true=>k_is;exact no _ S3 sA fun x=>x.tw (of_decide_eq_true c3)
  | false=>
  k_is
  have rest:(∀ f,K.F[j]?=some f->z.1=f)->Ok (evC af (k+2) c9 [skE K,.ref n,.int j] S3) Q:=fun hf=>
   BR V (sA _ _ hn) hz hL (of_decide_eq_true c1) (of_decide_eq_true c2) fun d S4 s4 hd=>q d S4 (sA.trans s4) ⟨fun x=>⟨of_decide_eq_true c1,of_decide_eq_true c2,of_decide_eq_false c3,hf,hd.mp x⟩,fun x=>hd.mpr x.m⟩
  refine aa b9 ?_;k_is;by_cases hj:j < K.F.length
  ·rw [decide_eq_true (show (j:Int) < K.F.length by omega)];k_is;refine aa (sO (ds:=K.F.map D.int) (i:=(j:Int)) (d:=.int K.F[j]) (by omega) (by rw [Zn,Zl,gEG hj];rfl)) ?_;k_is;cases c4:decide (z.1=K.F[j]) with
   | false=>k_is;exact no _ S3 sA fun x=>of_decide_eq_false c4 (x.fx _ (gEG hj))
   | true=>
    k_is;refine ⟨rfl,rest fun f e=>?_⟩;rw [gEG hj] at e;cases e;exact of_decide_eq_true c4
  ·rw [decide_eq_false (show ¬ (j:Int) < K.F.length by omega)];k_is;refine ⟨rfl,rest fun f e=>?_⟩;rw [Zy (by omega)] at e;cases e
theorem Fx (V:Vd K) {L:List (Int × Int)} {n:Nat} (hn:S[n]?=some (.lst (L.map ab))) (hl:L.length<=20) (q:∀ d S',Sm S S'->(d = .non ↔ ∀ g:Nat,g < K.G.length->(g:Int) ∈ L.map (·.1))->Q d S'):Ok (evC af (k+1) fH [skE K,.ref n] S) Q:=by
 refine aw (d:=cE) (ρ:=[some (skE K),some (.ref n),none,none]) rfl rfl ?_;dsimp only [cE,fM];have g7:=V.g7;k_is;refine ⟨by rw [ak hn];rfl,?_⟩;refine bB L ab (fun z=>[.int z.1]) (by omega) (fun _ _=>Zd _) (cI hn) (fun i y S' hy sm=>⟨_,show ay (.tup [.name 4,.name 5]) (.tup [.int y.1,.int y.2]) _=_ from ci (by simp) (by simp),?_⟩) fun S2 s2=>?_
 ·k_is;exact ⟨rfl,Sm.refl _⟩
 ·rw [bA,jI];k_is;have s3:Sm S2 (S2++[Ob.lst ((L.map (·.1)).map D.int)]):=Sm.app _ _;have a3:(S2++[Ob.lst ((L.map (·.1)).map D.int)])[Zb S2]?=some (.lst ((L.map (·.1)).map D.int)):=ai;have sA:=s2.trans s3;generalize S2++[Ob.lst ((L.map (·.1)).map D.int)]=S3 at *;generalize Zb S2=N at *;refine aa sk2 (aa b9 ?_);k_is;refine ⟨fA (by omega) (by omega),?_⟩;rw [Zn];refine fP (by omega) (fun i ρ S'=>S'=S3/\(∃ u,ρ=[some (skE K),some (.ref n),some (.ref N),u])/\∀ g:Nat,g < i->(g:Int) ∈ L.map (·.1)) (fun i ρ S' hi ⟨e,⟨u,er⟩,ih⟩=>?_) (fun ρ S' ⟨e,⟨u,er⟩,ih⟩=>?_) ⟨rfl,⟨_,rfl⟩,fun g hg=>absurd hg (Z8 g)⟩
  ·subst e er;refine ⟨_,rfl,?_⟩;k_is;rw [Yx];refine aa (show av .notin (.int (i:Int)) (.ref N) S'=some (.bl (true != decide ((i:Int) ∈ L.map (·.1))),S') from nK true a3 (i:Int)) ?_;k_is;cases c:decide ((i:Int) ∈ L.map (·.1)) with
   | true=>
    k_is;refine ⟨rfl,⟨_,rfl⟩,fun g hg=>?_⟩;by_cases e:g=i
    ·rw [e];exact of_decide_eq_true c
    ·exact ih g (by omega)
   | false=>
    k_is;exact q _ S' sA ⟨fun x=>(by cases x),fun x=>absurd (x i hi) (of_decide_eq_false c)⟩
  ·subst e er;k_is;exact q _ S' sA ⟨fun _=>ih,fun _=>rfl⟩
theorem BT (V:Vd K) {L:List (Int × Int)} {n:Nat} (hn:S[n]?=some (.lst (L.map ab))) (hl:L.length<=20) (hL:InG K L) (q:∀ d S',Sm S S'->(d = .non ↔ ∀ t ∈ js K,(wts K L t:Int)<=K.r)->Q d S'):Ok (evC af (k+3) fI [skE K,.ref n] S) Q:=by
 refine aw (d:=cG) (ρ:=[some (skE K),some (.ref n),none]) rfl rfl ?_;dsimp only [cG,fO];k_is;refine ⟨rfl,sP V fun S1 s1 a1 _=>?_⟩;k_is;generalize Zb S1 - 1=N at *;refine ⟨by rw [ak a1];rfl,?_⟩;have lj:(js K).length<=7:=by rw [BJ];exact V.g7
 refine sU (by rw [Za];omega) (fun i ρ S'=>Sm S1 S'/\(∃ u,ρ=[some (skE K),some (.ref n),u])/\∀ (j:Nat) t,j < i->(js K)[j]?=some t->(wts K L t:Int)<=K.r) (fun i ρ S' iv=>iv.1 _ _ a1) (fun i d ρ S2 hd ⟨s2,⟨u,er⟩,ih⟩=>?_) (fun ρ S2 ⟨s2,⟨u,er⟩,ih⟩=>?_) ⟨Sm.refl _,⟨_,rfl⟩,fun j t hj=>absurd hj (Z8 j)⟩
 ·subst er;obtain ⟨t,ht,rfl⟩:=nB hd;refine ⟨_,rfl,?_⟩;k_is;refine ⟨rfl,BH V (s2 _ _ (s1 _ _ hn)) hL (by omega) fun S3 s3=>?_⟩;refine aa sk0 (aa me0 ?_);k_is;cases c:decide (K.r < (wts K L t:Int)) with
  | true=>k_is;exact q _ S3 ((s1.trans s2).trans s3) ⟨fun x=>(by cases x),fun x=>by have:=x t (Zm ht);have:=of_decide_eq_true c;omega⟩
  | false=>
   k_is;refine ⟨s2.trans s3,⟨_,rfl⟩,fun j t' hj ht'=>?_⟩;by_cases e:j=i
   ·subst e;rw [ht] at ht';cases ht';have:=of_decide_eq_false c;omega
   ·exact ih j t' (by omega) ht'
 ·subst er;k_is;refine q _ S2 (s1.trans s2) ⟨fun _ t ht=>?_,fun _=>rfl⟩;obtain ⟨j,hj⟩:=Z5 ht;exact ih j t (by rw [Za];exact (Zc.mp hj).1) hj
theorem BU (V:Vd K) {L:List (Int × Int)} {n:Nat} (hn:S[n]?=some (.lst (L.map ab))) (hl:L.length<=20) (hL:InG K L) (q:∀ d S',Sm S S'->(d = .non ↔ ∀ (j:Nat) z,L[j]?=some z->¬ Hi K (L.take j) z)->Q d S'):Ok (evC af (k+5) eI [skE K,.ref n] S) Q:=by
 refine aw (d:=cg) (ρ:=[some (skE K),some (.ref n),none,none]) rfl rfl ?_;dsimp only [cg,eK];k_is;refine ⟨by rw [ak hn];rfl,?_⟩;refine BS (by rw [Za];omega) (fun i ρ S'=>Sm S S'/\(∃ u v,ρ=[some (skE K),some (.ref n),u,v])/\∀ (j:Nat) z,j < i->L[j]?=some z->¬ Hi K (L.take j) z) (fun i ρ S' iv=>iv.1 _ _ hn) (fun i d ρ S2 hd ⟨s2,⟨u,v,er⟩,ih⟩=>?_) (fun ρ S2 ⟨s2,⟨u,v,er⟩,ih⟩=>?_) ⟨Sm.refl _,⟨_,_,rfl⟩,fun j t hj=>absurd hj (Z8 j)⟩
 ·subst er;obtain ⟨z,hz,rfl⟩:=nB hd;refine ⟨_,ci (by simp) (by simp),?_⟩;k_is;refine ⟨rfl,Fr (k:=k) V (s2 _ _ hn) hz hL (by omega) fun S3 s3=>?_⟩;rw [Fo fun y hy=>uY (hL y (Yi hy)).1 (hL y (Yi hy)).2];k_is;cases c:sN K (L.take i) z.1 z.2 with
  | true=>
   k_is;refine aa (show ixS (ab z) (.int 0) S3=some (.int z.1,S3) from rfl) ?_;exact q _ S3 (s2.trans s3) ⟨fun x=>(by cases x),fun x=>absurd (OV.mp c) (x i z hz)⟩
  | false=>
   k_is;refine ⟨s2.trans s3,⟨_,_,rfl⟩,fun j y hj hy=>?_⟩;by_cases e:j=i
   ·subst e;rw [hz] at hy;cases hy;exact fun x=>by rw [OV.mpr x] at c;cases c
   ·exact ih j y (by omega) hy
 ·subst er;k_is;refine q _ S2 s2 ⟨fun _ j z hz=>ih j z (by rw [Za];exact (Zc.mp hz).1) hz,fun _=>rfl⟩
theorem sV {L:List (Int × Int)} {i:Nat} (h:∀ (j:Nat) z,j < i->L[j]?=some z->FAt K (L.take j) j z):InG K (L.take i):=fun z hz=>by
 obtain ⟨j,hj⟩:=Z5 hz;have hl:=(Zc.mp hj).1;rw [ZF] at hl;rw [YU (by omega)] at hj;have:=h j z (by omega) hj;exact ⟨this.d0,this.d1⟩
theorem BV (V:Vd K) {L:List (Int × Int)} {n:Nat} (hn:S[n]?=some (.lst (L.map ab))) (hl:L.length<=20) (q:∀ d S',Sm S S'->(d = .non ↔ Fine K L)->Q d S'):Ok (evC af (k+6) hZ [skE K,.ref n] S) Q:=by
 refine aw (d:=dU) (ρ:=[some (skE K),some (.ref n),none,none,none,none,none]) rfl rfl ?_;dsimp only [dU,io];have no:∀ (a b:D) S',Sm S S'->¬ Fine K L->Q (.tup [a,b]) S':=fun a b S' s' nk=>q _ S' s' ⟨fun x=>(by cases x),fun x=>absurd x nk⟩;k_is;refine aa (dL hn) ?_;k_is;rw [Za];refine ⟨fA (by omega) (by omega),?_⟩;rw [Zn];refine fP (by omega) (fun i ρ S'=>Sm S S'/\(∃ u v,ρ=[some (skE K),some (.ref n),u,v,none,none,none])/\∀ (j:Nat) z,j < i->L[j]?=some z->FAt K (L.take j) j z) (fun i ρ S1 hi ⟨s1,⟨u,v,er⟩,ih⟩=>?_) (fun ρ S1 ⟨s1,⟨u,v,er⟩,ih⟩=>?_) ⟨Sm.refl _,⟨_,_,rfl⟩,fun j z hj=>absurd hj (Z8 j)⟩
 ·subst er;have hz:L[i]?=some L[i]:=gEG hi;refine ⟨_,rfl,?_⟩;k_is;rw [Yx];refine ⟨rfl,Fw (k:=k+2) V (s1 _ _ hn) hl hz (sV ih) fun d S2 s2 hd=>?_⟩;k_is;refine aa cR ?_;k_is;cases c:bF d with
  | false=>
   k_is;refine aa (b8 (s2 _ _ (s1 _ _ hn)) (by omega) (nM hz)) (aa (show ixS (ab L[i]) (.int 0) S2=some (.int L[i].1,S2) from rfl) ?_);k_is
   exact no _ _ S2 (s1.trans s2) fun x=>by
    have:=ki.mpr (hd.mpr (x.each i _ hz));rw [c] at this;cases this
  | true=>
   k_is;refine ⟨s1.trans s2,⟨_,_,rfl⟩,fun j z hj hz'=>?_⟩;by_cases e:j=i
   ·subst e;rw [hz] at hz';cases hz';exact hd.mp (ki.mp c)
   ·exact ih j z (by omega) hz'
 ·subst er;have each:∀ (j:Nat) z,L[j]?=some z->FAt K (L.take j) j z:=fun j z hz=>ih j z (Zc.mp hz).1 hz
  have hL:InG K L:=fun z hz=>by
   obtain ⟨j,hj⟩:=Z5 hz;exact ⟨(each j z hj).d0,(each j z hj).d1⟩
  k_is;refine ⟨rfl,Fx (k:=k+4) V (s1 _ _ hn) hl fun d2 S2 s2 h2=>?_⟩;k_is;refine aa cR ?_;k_is;cases c2:bF d2 with
  | false=>k_is;exact no _ _ S2 (s1.trans s2) fun x=>by have:=ki.mpr (h2.mpr x.all);rw [c2] at this;cases this
  | true=>
  k_is;refine ⟨rfl,BT (k:=k+2) V (s2 _ _ (s1 _ _ hn)) hl hL fun d3 S3 s3 h3=>?_⟩;k_is;refine aa cR ?_;k_is;cases c3:bF d3 with
  | false=>k_is;exact no _ _ S3 ((s1.trans s2).trans s3) fun x=>by have:=ki.mpr (h3.mpr x.crowd);rw [c3] at this;cases this
  | true=>
  k_is;refine ⟨rfl,BU (k:=k) V (s3 _ _ (s2 _ _ (s1 _ _ hn))) hl hL fun d4 S4 s4 h4=>?_⟩;k_is;refine aa cR ?_;k_is;cases c4:bF d4 with
  | false=>k_is;exact no _ _ S4 (((s1.trans s2).trans s3).trans s4) fun x=>by have:=ki.mpr (h4.mpr x.high);rw [c4] at this;cases this
  | true=>
   k_is;exact q _ S4 (((s1.trans s2).trans s3).trans s4) ⟨fun _=>⟨each,h2.mp (ki.mp c2),h3.mp (ki.mp c3),h4.mp (ki.mp c4)⟩,fun _=>rfl⟩
end Lw
namespace Lw
open PySem Ev Sn L2
variable {p:Nat} {S S':Sto} {k:Nat} {Q:D->Sto->Prop} {K:Sky}
theorem pj {t:Dw.D} {d:D} (h:TD p S t d) (q:Q (.bl (Dw.isW t)) S):Ok (evC af (k+1) fY [d] S) Q:=by
 refine aw (d:=gr) (ρ:=[some d]) rfl rfl ?_;dsimp only [gr,kP];k_is;refine aa (dJ h) ?_;k_is;cases t <;> first | exact q | (k_is;rw [dJ h,al];exact q)
noncomputable def prT:Dw.D->Bool
 | .tup [a,b]=>Dw.isW a && Dw.isW b
 | _=>false
theorem BW {ts:List Dw.D} (h:ts.length ≠ 2):prT (.tup ts)=false:=by
 unfold prT;split
 ·rename_i e;cases e;exact absurd rfl h
 ·rfl
theorem TD.lst {ts:List Dw.D} {d:D} (h:TD p S (.lst ts) d):∃ n ds,d = .ref n/\n ≠ p/\S[n]?=some (.lst ds)/\TDs p S ts ds:=by rw [TD] at h;exact h
theorem Fy {t:Dw.D} {d:D} (h:TD p S t d) (q:Q (.bl (prT t)) S):Ok (evC af (k+2) oV [d] S) Q:=by
 refine aw (d:=j6) (ρ:=[some d]) rfl rfl ?_;dsimp only [j6,o3];k_is;refine ⟨rfl,bz h ?_⟩;k_is;cases t with
 | tup ts=>
  obtain ⟨ds,rfl,hs⟩:=h.tup;rw [Dw.tY];by_cases hl:ts.length=2
  ·obtain ⟨b,e,rfl⟩:=Dw.pS hl;rw [decide_eq_true hl];k_is;refine bG (i:=0) hs rfl fun d1 t1=>⟨rfl,ny t1 ?_⟩;k_is;have eq:prT (.tup [b,e])=(Dw.isW b && Dw.isW e):=rfl;rw [eq] at q;cases c:Dw.isW b with
   | false=>rw [c] at q;k_is;exact q
   | true=>
    rw [c] at q;k_is;exact bG (i:=1) hs rfl fun d2 t2=>⟨rfl,ny t2 q⟩
  ·rw [decide_eq_false hl];k_is;rw [BW hl] at q;exact q
 | _=>exact q
noncomputable def psT:Dw.D->Bool
 | .lst ts=>decide (ts.length<=20) && ts.all prT
 | _=>false
noncomputable def lsT:Dw.D->Bool
 | .lst ts=>ts.all prT
 | _=>false
theorem BX {t:Dw.D} {d:D} (h:TD p S t d) (hl:∀ ts,t = .lst ts->ts.length<=1000) (q:∀ S',Sm S S'->Q (.bl (psT t)) S'):Ok (evC af (k+3) kE [d] S) Q:=by
 refine aw (d:=gq) (ρ:=[some d]) rfl rfl ?_;dsimp only [gq,kO];k_is;refine aa (dJ h) ?_;k_is;cases t with
 | lst ts=>
  have lt:=hl ts rfl;obtain ⟨n,ds,rfl,nn,hn,hs⟩:=TD.lst h;rw [show (dC .list (tyT (.lst ts)))=true from rfl];k_is;refine aa (dL hn) ?_;k_is;rw [hs.len];have eq:psT (.lst ts)=(decide (ts.length<=20) && ts.all prT):=rfl;rw [eq] at q;by_cases h20:ts.length<=20
  ·rw [decide_eq_false (show ¬ (20:Int) < ts.length by omega)];rw [decide_eq_true h20,ZT] at q;k_is;refine ⟨by rw [ak hn];rfl,?_⟩;refine ek ts.length (fun i=>(ds[i]?).getD .non) (fun i acc S'=>S'=S/\acc=(ts.take i).map fun t=>D.bl (prT t)) (fun i acc S' hi ⟨e,_⟩=>by subst e;rw [<-hs.len];exact iU hn _ nI) (by omega) (fun i acc S1 hi ⟨e,ea⟩=>?_) (fun es S1 ⟨e,ea⟩=>⟨by rw [ea,Za,ZF];omega,?_⟩) ⟨rfl,rfl⟩
   ·subst e;obtain ⟨d,hd,td⟩:=hs.get (gEG hi);simp only [hd,ZO];refine ⟨_,rfl,?_⟩;k_is;refine ⟨rfl,Fy td ⟨rfl,?_⟩⟩;rw [ea,Zz hi,ZB];rfl
   ·subst e;rw [Yo] at ea;subst ea;refine aa (b7 _ _ _) ?_;k_is;exact q S1 (Sm.refl _)
  ·rw [decide_eq_true (show (20:Int) < ts.length by omega)];rw [decide_eq_false h20,ZX] at q;k_is;exact q S (Sm.refl _)
 | _=>exact q S (Sm.refl _)
theorem Fz {t:Dw.D} {d:D} (h:TD p S t d) (hl:∀ ts,t = .lst ts->ts.length<=1000) (q:Q (.bl (lsT t)) S):Ok (evC af (k+2) ig [d] S) Q:=by
 refine aw (d:=ef) (ρ:=[some d,none]) rfl rfl ?_;dsimp only [ef,iu];k_is;refine aa (dJ h) ?_;k_is;cases t with
 | lst ts=>
  have lt:=hl ts rfl;obtain ⟨n,ds,rfl,nn,hn,hs⟩:=TD.lst h;rw [show (dC .list (tyT (.lst ts)))=true from rfl];k_is;refine ⟨by rw [ak hn];rfl,?_⟩;refine sU (ds:=ds) (by rw [hs.len];omega) (fun i ρ S'=>S'=S/\(∃ u,ρ=[some (.ref n),u])/\(ts.take i).all prT=true) (fun i ρ S' iv=>by rw [iv.1];exact hn) (fun i d ρ S' hd ⟨e,⟨u,er⟩,ih⟩=>?_) (fun ρ S' ⟨e,⟨u,er⟩,ih⟩=>?_) ⟨rfl,⟨_,rfl⟩,rfl⟩
  ·subst e er;have hi:i < ts.length:=by rw [<-hs.len];exact (Zc.mp hd).1
   obtain ⟨d',hd',td⟩:=hs.get (gEG hi);rw [hd] at hd';cases hd'
   have no:prT ts[i]=false->Q (.bl false) S':=fun hp=>by
    have:lsT (.lst ts)=false:=by
     show ts.all prT=false;rw [List.all_eq_false];exact ⟨ts[i],ZG hi,by rw [hp];exact Zf⟩
    rw [this] at q;exact q
   have yes:prT ts[i]=true->(ts.take (i+1)).all prT=true:=fun hp=>by
    rw [Zz hi,List.all_append,ih];simp [hp]
   refine ⟨_,rfl,?_⟩;k_is;refine aa (dJ td) ?_;k_is;revert td no yes;generalize ts[i]=t;intro td no yes;cases t with
   | tup us=>
    obtain ⟨es,rfl,hu⟩:=td.tup;rw [show (dC .tuple (tyT (.tup us)))=true from rfl];k_is;refine aa (iT hu) ?_;k_is;by_cases h2:us.length=2
    ·obtain ⟨a,b,rfl⟩:=Dw.pS h2;rw [decide_eq_true (show ((([a,b]:List Dw.D).length:Nat):Int)=2 from rfl)];k_is;refine bG (i:=0) hu rfl fun d1 t1=>⟨rfl,pj t1 ?_⟩;k_is;cases c1:Dw.isW a with
     | false=>k_is;exact no (by show (Dw.isW a && Dw.isW b)=false;rw [c1];rfl)
     | true=>
      k_is;refine bG (i:=1) hu rfl fun d2 t2=>⟨rfl,pj t2 ?_⟩;k_is;cases c2:Dw.isW b with
      | false=>k_is;exact no (by show (Dw.isW a && Dw.isW b)=false;rw [c1,c2];rfl)
      | true=>k_is;exact ⟨rfl,⟨_,rfl⟩,yes (by show (Dw.isW a && Dw.isW b)=true;rw [c1,c2];rfl)⟩
    ·rw [decide_eq_false (show ¬ ((us.length:Nat):Int)=2 by omega)];k_is;exact no (BW h2)
   | _=>exact no rfl
  ·subst e er;k_is;rw [hs.len,Yo] at ih;have:lsT (.lst ts)=true:=ih;rw [this] at q;exact q
 | _=>exact q
theorem qO:∀ {ts:List Dw.D},ts.all prT=true->∃ L:List (Int × Int),ts=L.map Dw.aX
 | [],_=>⟨[],rfl⟩
 | t::ts,h=>by
  rw [ZS,bAE] at h;obtain ⟨L,e⟩:=qO h.2;have h1:=h.1;unfold prT at h1;split at h1
  ·rename_i a b;rw [bAE] at h1;cases a <;> simp [Dw.isW] at h1;cases b <;> simp [Dw.isW] at h1;rename_i i j;exact ⟨(i,j)::L,by rw [e];rfl⟩
  ·cases h1
theorem kj:∀ {L:List (Int × Int)} {ds:List D},TDs p S (L.map Dw.aX) ds->ds=L.map ab
 | [],ds,h=>h.nil
 | z::L,ds,h=>by
  obtain ⟨d,r,rfl,h1,h2⟩:=TDs.cons h;obtain ⟨es,rfl,h3⟩:=h1.tup;obtain ⟨d1,r1,rfl,a1,h4⟩:=h3.cons;obtain ⟨d2,r2,rfl,a2,h5⟩:=h4.cons;rw [h5.nil,a1.int,a2.int,kj h2];rfl
theorem kl:∀ {L L':List (Int × Int)},L.map Dw.aX=L'.map Dw.aX->L=L'
 | [],[],_=>rfl
 | [],_::_,e=>by cases e
 | _::_,[],e=>by cases e
 | z::L,z'::L',e=>by
  rw [Zt,Zt] at e;injection e with e1 e2;rw [kl e2];cases z;cases z';cases e1;rfl
noncomputable def FA (K:Sky) (t:Dw.D):Prop:=∃ L:List (Int × Int),t = .lst (L.map Dw.aX)/\Fine K L
theorem sW (sk:SkOk K) {t:Dw.D} {d:D} (h:TD p S t d) (hl:∀ ts,t = .lst ts->ts.length<=20) (q:∀ b S',Sm S S'->(b=true ↔ FA K t)->Q (.bl b) S'):Ok (evC af (k+9) qz [skE K,d] S) Q:=by
 refine aw (d:=qA) (ρ:=[some (skE K),some d]) rfl rfl ?_;dsimp only [qA,wn];have V:=sk.vd;k_is;refine ⟨rfl,BL (k:=k) sk.sky fun S1 s1=>?_⟩;k_is;refine ⟨rfl,?_⟩;refine aw (d:=gn) (ρ:=[some (skE K),some d]) rfl rfl ?_;dsimp only [gn,kN];have h1:=h.keep s1.kp;k_is;refine ⟨rfl,BX (k:=k+4) h1 (fun ts e=>by have:=hl ts e;omega) fun S2 s2=>?_⟩;k_is;cases c:psT t with
 | false=>
  k_is;refine q false S2 (s1.trans s2) ⟨fun x=>(by cases x),fun ⟨L,e,_⟩=>?_⟩;subst e
  have:psT (.lst (L.map Dw.aX))=true:=by
   show (decide ((L.map Dw.aX).length<=20) && (L.map Dw.aX).all prT)=true;rw [decide_eq_true (hl _ rfl),ZT,ZP,Zx];intro x _;rfl
  rw [this] at c;cases c
 | true=>
  k_is;cases t with
  | lst ts=>
   have hc:(decide (ts.length<=20) && ts.all prT)=true:=c;rw [bAE] at hc;obtain ⟨L,rfl⟩:=qO hc.2;obtain ⟨n,ds,rfl,nn,hn,hs⟩:=TD.lst h1;rw [kj hs] at hn;have l20:=of_decide_eq_true hc.1;rw [Za] at l20;refine ⟨rfl,BV (k:=k+1) V (s2 _ _ hn) l20 fun d' S3 s3 hd=>?_⟩;k_is;refine aa iW ?_;k_is;refine q _ S3 ((s1.trans s2).trans s3) ?_;rw [ki,hd];constructor
   ·exact fun f=>⟨L,rfl,f⟩
   ·rintro ⟨L',e,f⟩;have:L.map Dw.aX=L'.map Dw.aX:=by injection e
    have:L=L':=kl this;rw [this];exact f
  | _=>cases c
end Lw
namespace Lw
open PySem Ev Sn L2
variable {p:Nat} {S S':Sto} {k:Nat} {Q:D->Sto->Prop} {K:Sky}
theorem Li {i:Int} (h0:-1000<=i) (h1:i < 100000):lim i=true:=by simp only [lim,bAE,decide_eq_true_eq];omega
theorem pk (V:Vd K) {z:Int × Int} {t:Int} (h0:0<=z.1) (h1:z.1 < K.G.length) (q:Q (.bl (ax K t z)) S):Ok (evC af (k+1) f8 [skE K,ab z,.int t] S) Q:=by
 refine aw (d:=gy) (ρ:=[some (skE K),some (ab z),some (.int t)]) rfl rfl ?_;dsimp only [gy,kT];k_is;obtain ⟨a,b,c,d,e,f,h,eg,_,e1,_⟩:=gl7 V h0 h1;refine aa sk2 (aa (show ixS (ab z) (.int 0) S=some (.int z.1,S) from rfl) (aa (gB h0 eg) (aa (show ixS (aJ [a,b,c,d,e,f,h]) (.int 1) S=some (.int b,S) from rfl) ?_)));k_is;have ew:ax K t z=(decide (b<=t) && decide (t < z.2 - K.s)):=by unfold ax jn;rw [e1]
 rw [ew] at q;cases c1:decide (b<=t) with
 | false=>rw [c1] at q;k_is;exact q
 | true=>
  rw [c1] at q;k_is;refine aa (show ixS (ab z) (.int 1) S=some (.int z.2,S) from rfl) (aa sk0 (aa me1 ?_));k_is;exact q
theorem Gz {A:List (Int × Int)} {n:Nat} {t:Int} {ρ:Rho} {cc:XA} {i:Nat} {Q:List D->Sto->Prop} (hn:S[n]?=some (.lst (A.map ab))) (hl:A.length<=20)
  (step:∀ z S',z ∈ A->Sm S S'->∃ ρ1,ay (.name i) (ab z) ρ=some ρ1/\Ok (cc ρ1 S') fun es S1=>es=(if ax K t z=true then [ab z] else [])/\Sm S' S1)
  (q:∀ ds S',Sm S S'->ds.length=wts K A t->Q ds S'):Ok (bh (nxS n) (.name i) cc ρ LF 0 S) fun es S2=>es.length<=100000/\Q es S2:=by
 refine bB A ab (fun z=>if ax K t z=true then [ab z] else []) (by omega) (fun z _=>by split <;> simp) (cI hn) (fun i z S' hz sm=>step z S' (Zm hz) sm) fun S' sm=>?_;rw [bV];exact q _ S' sm (by rw [Za];rfl)
theorem BZ (V:Vd K) {L:List (Int × Int)} {n j:Nat} {z:Int × Int} (hn:S[n]?=some (.lst (L.map ab))) (hl:L.length<=20) (hz:L[j]?=some z) (hL:InG K (L.take j)) (j0:0<=jn K z.1) (j1:jn K z.1<=9999) (m1:z.2<=9999) (m0:0<=z.2)
  (q:∀ v S',Sm S S'->(∀ r:Int,0<=r->(r < v ↔ ∃ t,jn K z.1<=t/\t < z.2 - K.s/\r < 1+(wts K (L.take j) t:Int)))->Q (.int v) S'):Ok (evC af (k+2) m7 [skE K,.ref n,.int j,.int (jn K z.1)] S) Q:=by
 refine aw (d:=iS) (ρ:=[some (skE K),some (.ref n),some (.int j),some (.int (jn K z.1)),none,none]) rfl rfl ?_;dsimp only [iS,nq];have s0:=V.s0;have s60:=V.s60;k_is;refine aa (b8 hn (by omega) (nM hz)) (aa (show ixS (ab z) (.int 1) S=some (.int z.2,S) from rfl) (aa sk0 (aa me1 ?_)));k_is;refine ⟨⟨Li (by omega) (by omega),Li (by omega) (by omega)⟩,?_⟩;generalize hJ:jn K z.1=J at *;refine fP (by omega) (fun i ρ S'=>Sm S S'/\∃ (v:Int) (u:Option D),ρ=[some (skE K),some (.ref n),some (.int j),some (.int J),some (.int v),u]/\∀ r:Int,0<=r->(r < v ↔ ∃ t,J<=t/\t < J+(i:Int)/\r < 1+(wts K (L.take j) t:Int))) (fun i ρ S1 hi ⟨s1,v,u,er,ih⟩=>?_) (fun ρ S1 ⟨s1,v,u,er,ih⟩=>?_) ⟨Sm.refl _,0,none,rfl,fun r r0=>⟨fun h=>by omega,fun ⟨t,h1,h2,_⟩=>by omega⟩⟩
 ·subst er;refine ⟨_,rfl,?_⟩;k_is;refine aa (fw (s1 _ _ hn)) ?_;have s2:Sm S1 (S1++[Ob.lst ((L.map ab).take j)]):=Sm.app _ _;have a2:(S1++[Ob.lst ((L.map ab).take j)])[Zb S1]?=some (Ob.lst ((L.take j).map ab)):=by rw [ai,Yj]
  generalize Zb S1=N at *;generalize S1++[Ob.lst ((L.map ab).take j)]=S2 at *;k_is;refine ⟨by rw [ak a2];rfl,?_⟩;refine Gz (K:=K) (t:=J+(i:Int)) a2 (by rw [ZF];omega) (fun y S' hy sm=>⟨_,rfl,?_⟩) fun ds S3 s3 ld=>?_
  ·k_is;refine ⟨rfl,pk V (hL y hy).1 (hL y hy).2 ?_⟩;k_is;cases ax K (J+(i:Int)) y with
   | true=>k_is;exact ⟨rfl,Sm.refl _⟩
   | false=>k_is;exact ⟨rfl,Sm.refl _⟩
  ·refine aa (show ce false ds S3=some (.int ds.length,S3) from rfl) ?_;k_is;rw [ld];refine ⟨(s1.trans s2).trans s3,_,_,rfl,fun r r0=>?_⟩;have ih:=ih r r0;have e:(r < if (1+(wts K (L.take j) (J+(i:Int)):Int)) > v then (1+(wts K (L.take j) (J+(i:Int)):Int)) else v) ↔ (r < v\/r < 1+(wts K (L.take j) (J+(i:Int)):Int)):=by split <;> omega
   rw [e,ih];constructor
   ·rintro (⟨t,h1,h2,h3⟩ | h)
    ·exact ⟨t,h1,by omega,h3⟩
    ·exact ⟨J+(i:Int),by omega,by omega,h⟩
   ·rintro ⟨t,h1,h2,h3⟩;by_cases ht:t=J+(i:Int)
    ·exact .inr (by rw [<-ht];exact h3)
    ·exact .inl ⟨t,h1,by omega,h3⟩
 ·subst er;k_is;refine q v S1 s1 fun r r0=>(ih r r0).trans ⟨fun ⟨t,h1,h2,h3⟩=>⟨t,h1,?_,h3⟩,fun ⟨t,h1,h2,h3⟩=>⟨t,h1,?_,h3⟩⟩
  ·by_cases hh:0<=z.2 - K.s - J
   ·omega
   ·omega
  ·omega
theorem B0 {m:Int}:((K.H.filter fun z=>decide (z.1<=m) && decide (m < z.2)).map fun z=>D.int z.1).isEmpty = !pd K.H m:=by
 unfold pd;generalize K.H=H
 induction H with
 | nil=>rfl
 | cons a H ih=>
  rw [YG,Yu];cases decide (a.1<=m) && decide (m < a.2) with
  | true=>rfl
  | false=>exact ih
theorem FB (V:Vd K) {L:List (Int × Int)} {n j:Nat} {z:Int × Int} (hn:S[n]?=some (.lst (L.map ab))) (hl:L.length<=20) (hz:L[j]?=some z) (hL:InG K (L.take j)) (q:∀ d S',Sm S S'->(d = .non ↔ FAt K (L.take j) j z)->Q d S'):Ok (evC af (k+1) fJ [skE K,.ref n,.int j] S) Q:=by
 refine aw (d:=cH) (ρ:=[some (skE K),some (.ref n),some (.int j),none,none,none]) rfl rfl ?_;dsimp only [cH,be];have no:∀ (w:Str) (x:D) S',Sm S S'->¬ FAt K (L.take j) j z->Q (.tup [.str w,x]) S':=fun w x S' s' nk=>q _ S' s' ⟨fun x=>(by cases x),fun x=>absurd x nk⟩;k_is;refine aa (b8 hn (by omega) (nM hz)) ?_;rw [show ab z = .tup [.int z.1,.int z.2] from rfl];k_is;cases c1:decide (0<=z.1) with
 | false=>k_is;exact no _ _ S (Sm.refl _) fun x=>of_decide_eq_false c1 x.d0
 | true=>
 k_is;refine aa sk2 (aa b9 ?_);k_is;cases c2:decide (z.1 < (K.G.length:Int)) with
 | false=>k_is;exact no _ _ S (Sm.refl _) fun x=>of_decide_eq_false c2 x.d1
 | true=>
 have z0:=of_decide_eq_true c1;have z1:=of_decide_eq_true c2;obtain ⟨a0,b,c,d,e,f,h,eg,e0,e1,e2,e3,e6,k0,k1,c0⟩:=gl7 V z0 z1;k_is;refine aa (fw hn) ?_;have s1:Sm S (S++[Ob.lst ((L.map ab).take j)]):=Sm.app _ _;have a1:(S++[Ob.lst ((L.map ab).take j)])[Zb S]?=some (Ob.lst ((L.take j).map ab)):=by rw [ai,Yj]
 generalize Zb S=N at *;generalize S++[Ob.lst ((L.map ab).take j)]=S1 at *;k_is;refine ⟨by rw [ak a1];rfl,?_⟩;have lt:(L.take j).length<=20:=by rw [ZF];omega
 refine bB (L.take j) ab (fun z=>[.int z.1]) (by omega) (fun _ _=>Zd _) (cI a1) (fun i y S' hy sm=>⟨_,rfl,?_⟩) fun S2 s2=>?_
 ·k_is;exact aa (show ixS (ab y) (.int 0) S'=some (.int y.1,S') from rfl) ⟨rfl,Sm.refl _⟩
 rw [bA,jI];k_is;have s3:Sm S2 (S2++[Ob.lst (((L.take j).map (·.1)).map D.int)]):=Sm.app _ _;refine aa (show av .isin (.int z.1) (.ref (Zb S2)) (S2++[Ob.lst (((L.take j).map (·.1)).map D.int)])=some (.bl (false != decide (z.1 ∈ (L.take j).map (·.1))),_) from nK false ai z.1) ?_;have sA:=(s1.trans s2).trans s3;generalize S2++[Ob.lst (((L.take j).map (·.1)).map D.int)]=S3 at *;k_is;cases c3:decide (z.1 ∈ (L.take j).map (·.1)) with
 | true=>k_is;exact no _ _ S3 sA fun x=>x.tw (of_decide_eq_true c3)
 | false=>
 k_is;refine aa sk3 (aa b9 ?_);k_is
 have rest:(∀ f,K.F[j]?=some f->z.1=f)->rW (wSs (evC af k) (hF af) 56 (be.drop 4)) [some (skE K),some (.ref n),some (.int j),some (.int z.1),some (.int z.2),none] S3 (out Q):=fun hf=>by
  dsimp only [be,Yb];k_is;have g2:∀ S,ixS (aJ [a0,b,c,d,e,f,h]) (.int 2) S=some (.int c,S):=fun _=>rfl;have g3:∀ S,ixS (aJ [a0,b,c,d,e,f,h]) (.int 3) S=some (.int d,S):=fun _=>rfl;have g0:∀ S,ixS (aJ [a0,b,c,d,e,f,h]) (.int 0) S=some (.int a0,S):=fun _=>rfl;refine aa sk2 (aa (gB z0 eg) (aa (g2 _) ?_));k_is;cases c4:decide (z.2 < c) with
  | true=>k_is;exact no _ _ S3 sA fun x=>by have:=x.m.lo;have:=of_decide_eq_true c4;omega
  | false=>
  k_is;refine aa sk2 (aa (gB z0 eg) (aa (g3 _) ?_));k_is;cases c5:decide (d < z.2) with
  | true=>k_is;exact no _ _ S3 sA fun x=>by have:=x.m.hi;have:=of_decide_eq_true c5;omega
  | false=>
  k_is;refine aa sk0 (aa me3 ?_);k_is;refine bB K.H ab (fun y=>if (decide (y.1<=z.2) && decide (z.2 < y.2))=true then [.int y.1] else []) (by have:=V.h4;omega) (fun y _=>by split <;> simp) kh (fun i y S' hy sm=>⟨_,show ay (.tup [.name 6,.name 7]) (.tup [.int y.1,.int y.2]) _=_ from ci (by simp) (by simp),?_⟩) fun S4 s4=>?_
  ·k_is;cases decide (y.1<=z.2) with
   | false=>k_is;exact ⟨rfl,Sm.refl _⟩
   | true=>
    k_is;cases decide (z.2 < y.2) with
    | true=>k_is;exact ⟨rfl,Sm.refl _⟩
    | false=>k_is;exact ⟨rfl,Sm.refl _⟩
  rw [bV];k_is;refine aa wr ?_;rw [B0,Bool.not_not];have s5:Sm S4 (S4++[Ob.lst ((K.H.filter fun y=>decide (y.1<=z.2) && decide (z.2 < y.2)).map fun y=>D.int y.1)]++[Ob.lst []]):=(Sm.app _ _).trans (Sm.app _ _);generalize S4++[Ob.lst ((K.H.filter fun y=>decide (y.1<=z.2) && decide (z.2 < y.2)).map fun y=>D.int y.1)]++[Ob.lst []]=S5 at *;have sB:=(sA.trans s4).trans s5;k_is;cases c6:pd K.H z.2 with
  | true=>k_is;exact no _ _ S5 sB fun x=>by have:=x.m.op;rw [c6] at this;cases this
  | false=>
  k_is;refine aa sk1 ?_;k_is
  have last:rW (wSs (evC af k) (hF af) 51 (be.drop 9)) [some (skE K),some (.ref n),some (.int j),some (.int z.1),some (.int z.2),some (ahE (cK K (L.take j)))] S5 (out Q):=by
   dsimp only [be,Yb];k_is;have yes:(∀ a,cK K (L.take j)=some a->a.2+gp K a.1 a0<=z.2)->FAt K (L.take j) j z:=fun hg=>⟨z0,z1,of_decide_eq_false c3,hf,by rw [e2];have:=of_decide_eq_false c4;omega,by rw [e3];have:=of_decide_eq_false c5;omega,c6,fun a ha=>by rw [e0];exact hg a ha⟩;cases hA:cK K (L.take j) with
   | none=>
    refine aa (show av .isnot (ahE none) .non S5=some (.bl false,S5) from rfl) ?_;k_is;exact q _ S5 sB ⟨fun _=>yes fun a ha=>(by rw [hA] at ha;cases ha),fun _=>rfl⟩
   | some y=>
    obtain ⟨y0,y1⟩:=sQ V hL y hA;refine aa (show av .isnot (ahE (some y)) .non S5=some (.bl true,S5) from rfl) ?_;k_is;refine aa (show ixS (ahE (some y)) (.int 1) S5=some (.int y.2,S5) from rfl) ?_;refine aa sk0 (aa me2 (aa (show ixS (ahE (some y)) (.int 0) S5=some (.int y.1,S5) from rfl) ?_));obtain ⟨r,h1,h2⟩:=uX (S:=S5) V y0 y1 k0 k1;refine aa h1 (aa sk2 (aa (gB z0 eg) (aa (g0 _) (aa h2 ?_))));k_is;cases c7:decide (z.2 < y.2+gp K y.1 a0) with
    | true=>k_is;exact no _ _ S5 sB fun x=>by have:=x.m.gap y hA;rw [e0] at this;have:=of_decide_eq_true c7;omega
    | false=>k_is;exact q _ S5 sB ⟨fun _=>yes fun a ha=>(by rw [hA] at ha;cases ha;have:=of_decide_eq_false c7;omega),fun _=>rfl⟩
  dsimp only [be,Yb] at last;cases j with
  | zero=>
   rw [decide_eq_false (show ¬ (0:Int) < ((0:Nat):Int) by decide)];k_is;exact last
  | succ i=>
   rw [decide_eq_true (show (0:Int) < ((i+1:Nat):Int) by omega)];k_is;have hi:i < L.length:=by have:=(Zc.mp hz).1;omega
   have hy:L[i]?=some L[i]:=gEG hi;have ht:L.take (i+1)=L.take i++[L[i]]:=Zz hi;have hyG:=hL L[i] (by rw [ht];exact ZE _ (ZM.mpr rfl));obtain ⟨a0',b',c',d',e',f',h',eg',e0',_⟩:=gl7 V hyG.1 hyG.2
   have ix:∀ S',Sm S S'->ixS (.ref n) (.int (((i+1:Nat):Int) - 1)) S'=some (ab L[i],S'):=fun S' sm=>by
    rw [show ((i+1:Nat):Int) - 1=(i:Int) by omega];exact b8 (sm _ _ hn) (by omega) (nM hy)
   refine aa sk2 (aa (ix S5 sB) (aa (show ixS (ab L[i]) (.int 0) S5=some (.int L[i].1,S5) from rfl) (aa (gB hyG.1 eg') (aa (show ixS (aJ [a0',b',c',d',e',f',h']) (.int 0) S5=some (.int a0',S5) from rfl) ?_))));refine aa (ix S5 sB) (aa (show ixS (ab L[i]) (.int 1) S5=some (.int L[i].2,S5) from rfl) ?_);k_is;have el:cK K (L.take (i+1))=some (a0',L[i].2):=by rw [ht,uZ,e0']
   rw [el] at last;exact last
 dsimp only [be,Yb] at rest;by_cases hj:j < K.F.length
 ·rw [decide_eq_true (show (j:Int) < K.F.length by omega)];k_is;refine aa sk3 (aa (sO (ds:=K.F.map D.int) (i:=(j:Int)) (d:=.int K.F[j]) (by omega) (by rw [Zn,Zl,gEG hj];rfl)) ?_);k_is;cases c4:decide (K.F[j]=z.1) with
  | false=>k_is;exact no _ _ S3 sA fun x=>of_decide_eq_false c4 (x.fx _ (gEG hj)).symm
  | true=>
   k_is;refine rest fun f e=>?_;rw [gEG hj] at e;cases e;exact (of_decide_eq_true c4).symm
 ·rw [decide_eq_false (show ¬ (j:Int) < K.F.length by omega)];k_is;refine rest fun f e=>?_;rw [Zy (by omega)] at e;cases e
end Lw
namespace Lw
open PySem Ev Sn L2
variable {p:Nat} {S S':Sto} {k:Nat} {Q:D->Sto->Prop} {K:Sky}
theorem N2 (sk:SkOk K) {g:Int} (g0:0<=g) (g1:g < K.G.length):0<=jn K g/\jn K g<=9999/\gi K.G g 3<=9999/\0<=gi K.G g 2:=by
 have hi:g.toNat < K.G.length:=by omega
 have s0:=sk.me.s0;obtain ⟨kd,jo,fi,la,du,we,ri,eg,hb⟩:=sk.gb K.G[g.toNat] (ZG hi);have e1:jn K g=jo:=by unfold jn gi;rw [gEG hi,eg];rfl
 have e2:gi K.G g 2=fi:=by unfold gi;rw [gEG hi,eg];rfl
 have e3:gi K.G g 3=la:=by unfold gi;rw [gEG hi,eg];rfl
 rw [e1,e2,e3];omega
theorem FC {n:Nat} {xs:List Int} (h:S[n]?=some (.lst (xs.map D.int))) (hx:xs ≠ []):au lb (.ref n) S=some (.int (eU xs),S):=by
 cases xs with
 | nil=>exact absurd rfl hx
 | cons x xs=>simp only [au,aj,ak h,Zp,lb,lK]
theorem gW (sk:SkOk K) {L:List (Int × Int)} {n:Nat} (hn:S[n]?=some (.lst (L.map ab))) (hl:L.length<=20) (q:∀ d S',Sm S S'->(d = .non ↔ Fine K L)->Q d S'):Ok (evC af (k+3) cw [skE K,.ref n] S) Q:=by
 refine aw (d:=gz) (ρ:=[some (skE K),some (.ref n),none,none,none,none,none,none,none]) rfl rfl ?_;dsimp only [gz,kU];have V:=sk.vd;have g7:=sk.g7;have no:∀ (d:D) S',Sm S S'->d ≠ .non->¬ Fine K L->Q d S':=fun d S' s' nd nk=>q _ S' s' ⟨fun x=>absurd x nd,fun x=>absurd x nk⟩;k_is;refine aa (dL hn) ?_;k_is;rw [Za];refine ⟨fA (by omega) (by omega),?_⟩;rw [Zn];refine fP (by omega) (fun i ρ S'=>Sm S S'/\(∃ u v,ρ=[some (skE K),some (.ref n),u,v,none,none,none,none,none])/\∀ (j:Nat) z,j < i->L[j]?=some z->FAt K (L.take j) j z) (fun i ρ S1 hi ⟨s1,⟨u,v,er⟩,ih⟩=>?_) (fun ρ S1 ⟨s1,⟨u,v,er⟩,ih⟩=>?_) ⟨Sm.refl _,⟨_,_,rfl⟩,fun j z hj=>absurd hj (Z8 j)⟩
 ·subst er;have hz:L[i]?=some L[i]:=gEG hi;refine ⟨_,rfl,?_⟩;k_is;rw [Yx];refine ⟨rfl,FB (k:=k+1) V (s1 _ _ hn) hl hz (sV ih) fun d S2 s2 hd=>?_⟩;k_is;refine aa cR ?_;k_is;cases c:bF d with
  | false=>
   k_is
   exact no d S2 (s1.trans s2) (fun x=>by rw [ki.mpr x] at c;cases c) fun x=>by
    have:=ki.mpr (hd.mpr (x.each i _ hz));rw [c] at this;cases this
  | true=>
   k_is;refine ⟨s1.trans s2,⟨_,_,rfl⟩,fun j z hj hz'=>?_⟩;by_cases e:j=i
   ·subst e;rw [hz] at hz';cases hz';exact hd.mp (ki.mp c)
   ·exact ih j z (by omega) hz'
 ·subst er;have each:∀ (j:Nat) z,L[j]?=some z->FAt K (L.take j) j z:=fun j z hz=>ih j z (Zc.mp hz).1 hz
  have hL:InG K L:=fun z hz=>by
   obtain ⟨j,hj⟩:=Z5 hz;exact ⟨(each j z hj).d0,(each j z hj).d1⟩
  have hn1:=s1 _ _ hn;k_is;refine ⟨by rw [ak hn1];rfl,?_⟩;refine bB L ab (fun z=>[.int z.1]) (by omega) (fun _ _=>Zd _) (cI hn1) (fun i y S' hy sm=>⟨_,rfl,?_⟩) fun S2 s2=>?_
  ·k_is;exact aa (show ixS (ab y) (.int 0) S'=some (.int y.1,S') from rfl) ⟨rfl,Sm.refl _⟩
  rw [bA,jI];k_is;have s3:Sm S2 (S2++[Ob.lst ((L.map (·.1)).map D.int)]):=Sm.app _ _;have a3:(S2++[Ob.lst ((L.map (·.1)).map D.int)])[Zb S2]?=some (.lst ((L.map (·.1)).map D.int)):=ai;have sA:=(s1.trans s2).trans s3;generalize S2++[Ob.lst ((L.map (·.1)).map D.int)]=S3 at *;generalize Zb S2=N at *;refine aa sk2 (aa b9 ?_);k_is;refine ⟨fA (by omega) (by omega),?_⟩;rw [Zn];refine bB (Zj K.G.length) (fun (j:Nat)=>D.int (0+(j:Int))) (fun (j:Nat)=>if (!decide ((j:Int) ∈ L.map (·.1)))=true then [D.int (j:Int)] else []) (by rw [ZL];omega) (fun _ _=>by split <;> simp) BM (fun i j S' hj sm=>⟨_,rfl,?_⟩) fun S4 s4=>?_
  ·k_is;rw [Yx];refine aa (show av .notin (.int (j:Int)) (.ref N) S'=some (.bl (true != decide ((j:Int) ∈ L.map (·.1))),S') from nK true (sm _ _ a3) (j:Int)) ?_;k_is;cases c:decide ((j:Int) ∈ L.map (·.1)) with
   | true=>k_is;exact ⟨rfl,Sm.refl _⟩
   | false=>k_is;exact ⟨rfl,Sm.refl _⟩
  rw [bV];k_is;have lk:∀ j:Nat,j ∈ (Zj K.G.length).filter (fun (j:Nat)=>!decide ((j:Int) ∈ L.map (·.1))) ↔ j < K.G.length/\(j:Int) ∉ L.map (·.1):=fun j=>by rw [ZR,ZW];simp
  generalize (Zj K.G.length).filter (fun (j:Nat)=>!decide ((j:Int) ∈ L.map (·.1)))=lac at *;refine aa wr ?_;have s5:Sm S4 (S4++[Ob.lst (lac.map fun (j:Nat)=>D.int (j:Int))]++[Ob.lst []]):=(Sm.app _ _).trans (Sm.app _ _);have a5:(S4++[Ob.lst (lac.map fun (j:Nat)=>D.int (j:Int))]++[Ob.lst []])[Zb S4]?=some (.lst (lac.map fun (j:Nat)=>D.int (j:Int))):=Sm.app _ _ _ _ ai;generalize S4++[Ob.lst (lac.map fun (j:Nat)=>D.int (j:Int))]++[Ob.lst []]=S5 at *;have sB:=(sA.trans s4).trans s5;k_is;cases lac with
  | cons j lac=>
   rw [show (!((j::lac).map fun (j:Nat)=>D.int (j:Int)).isEmpty)=true from rfl];k_is;refine aa (b8 (i:=0) a5 (by omega) rfl) ?_;k_is;have hj:=(lk j).mp Zg;exact no _ S5 sB (fun x=>by cases x) fun x=>hj.2 (x.all j hj.1)
  | nil=>
  rw [show (!(([]:List Nat).map fun (j:Nat)=>D.int (j:Int)).isEmpty)=false from rfl];k_is
  have all:∀ g:Nat,g < K.G.length->(g:Int) ∈ L.map (·.1):=fun g hg=>Classical.byContradiction fun h=>by
   have:=(lk g).mpr ⟨hg,h⟩;cases this
  have s6:Sm S5 (S5++[Ob.lst [D.int 0]]):=Sm.app _ _;have a6:(S5++[Ob.lst [D.int 0]])[Zb S5]?=some (.lst [D.int 0]):=ai;generalize S5++[Ob.lst [D.int 0]]=S6 at *;generalize Zb S5=N6 at *;refine aa sk2 ?_;k_is;refine bB K.G aJ (fun g=>[.int (g.getD 1 0+1)]) (by omega) (fun _ _=>Zd _) kh (fun i g S' hg sm=>⟨_,rfl,?_⟩) fun S7 s7=>?_
  ·obtain ⟨l7,_⟩:=V.gl g (Zm hg)
   match g,l7 with
   | [a,b,c,d,e,f,h],_=>
    k_is;refine aa (show ixS (aJ [a,b,c,d,e,f,h]) (.int 1) S'=some (.int b,S') from rfl) ?_;k_is;exact ⟨rfl,Sm.refl _⟩
  rw [bA];have s8:Sm S7 (S7++[Ob.lst (K.G.map fun g=>D.int (g.getD 1 0+1))]):=Sm.app _ _;refine aa (gU (s8 _ _ (s7 _ _ a6)) ai (by rw [Za,ZI];omega)) ?_;k_is;have e9:([D.int 0]++K.G.map fun g=>D.int (g.getD 1 0+1))=(0::K.G.map fun g=>g.getD 1 0+1).map D.int:=by rw [Zt,ZV];rfl
  rw [e9];have s9:Sm (S7++[Ob.lst (K.G.map fun g=>D.int (g.getD 1 0+1))]) (S7++[Ob.lst (K.G.map fun g=>D.int (g.getD 1 0+1))]++[Ob.lst ((0::K.G.map fun g=>g.getD 1 0+1).map D.int)]):=Sm.app _ _;refine aa (FC ai (by simp)) ?_;have sC:=(((sB.trans s6).trans s7).trans s8).trans s9;generalize S7++[Ob.lst (K.G.map fun g=>D.int (g.getD 1 0+1))]++[Ob.lst ((0::K.G.map fun g=>g.getD 1 0+1).map D.int)]=S9 at *
  have jb:∀ x ∈ js K,0<=x/\x < eU (0::K.G.map fun g=>g.getD 1 0+1):=fun x hx=>by
   have hx':x ∈ K.G.map fun g=>g.getD 1 0:=(cf _).mem_iff.mp hx;obtain ⟨g,hg,rfl⟩:=ZD.mp hx';obtain ⟨kd,jo,fi,la,du,we,ri,rfl,hb⟩:=sk.gb g hg;have:=qL (Ze 0 (ZD.mpr ⟨_,hg,rfl⟩):jo+1 ∈ 0::K.G.map fun g=>g.getD 1 0+1);show 0<=jo/\jo < _;omega
  have tb:0<=eU (0::K.G.map fun g=>g.getD 1 0+1)/\eU (0::K.G.map fun g=>g.getD 1 0+1)<=10000:=by
   refine ⟨qL Zg,?_⟩;rcases Zk.mp (qK (ns:=0::K.G.map fun g=>g.getD 1 0+1) (by simp)) with h | h
   ·omega
   ·obtain ⟨g,hg,e⟩:=ZD.mp h;obtain ⟨kd,jo,fi,la,du,we,ri,rfl,hb⟩:=sk.gb g hg;have e:jo+1=_:=e;have s0:=sk.me.s0;omega
  generalize eU (0::K.G.map fun g=>g.getD 1 0+1)=T at *;k_is;refine ⟨Li (by omega) (by omega),?_⟩;refine fP (by omega) (fun i ρ S'=>Sm S S'/\(∃ u2 u3 u4 u5 u6,ρ=[some (skE K),some (.ref n),u2,u3,u4,u5,u6,none,none])/\∀ t:Nat,t < i->(wts K L t:Int)<=K.r) (fun i ρ Sa hi ⟨sa,⟨u2,u3,u4,u5,u6,er⟩,iw⟩=>?_) (fun ρ Sa ⟨sa,⟨u2,u3,u4,u5,u6,er⟩,iw⟩=>?_) ⟨sC,⟨_,_,_,_,_,rfl⟩,fun t ht=>absurd ht (Z8 t)⟩
  ·subst er;refine ⟨_,rfl,?_⟩;k_is;refine ⟨by rw [ak (sa _ _ hn)];rfl,?_⟩;refine Gz (K:=K) (t:=0+(i:Int)) (sa _ _ hn) hl (fun y S' hy sm=>⟨_,rfl,?_⟩) fun ds Sb sb ld=>?_
   ·k_is;refine ⟨rfl,pk V (hL y hy).1 (hL y hy).2 ?_⟩;k_is;cases ax K (0+(i:Int)) y with
    | true=>k_is;exact ⟨rfl,Sm.refl _⟩
    | false=>k_is;exact ⟨rfl,Sm.refl _⟩
   ·refine aa (show ce false ds Sb=some (.int ds.length,Sb) from rfl) (aa sk0 (aa me0 ?_));k_is;rw [ld,Yx];cases c:decide (K.r < (wts K L (i:Int):Int)) with
    | true=>
     k_is
     exact no _ Sb (sa.trans sb) (fun x=>by cases x) fun x=>by
      have:=yx hL sk.me.r0 x.crowd (i:Int);have:=of_decide_eq_true c;omega
    | false=>
     k_is;refine ⟨sa.trans sb,⟨_,_,_,_,_,rfl⟩,fun t ht=>?_⟩;by_cases e:t=i
     ·rw [e];have:=of_decide_eq_false c;omega
     ·exact iw t (by omega)
  ·subst er
   have crowd:∀ t ∈ js K,(wts K L t:Int)<=K.r:=fun t ht=>by
    have:=jb t ht;have:=iw t.toNat (by omega);rw [show ((t.toNat:Nat):Int)=t by omega] at this;exact this
   k_is;refine ⟨by rw [ak (sa _ _ hn)];rfl,?_⟩;refine BS (by rw [Za];omega) (fun i ρ S'=>Sm S S'/\(∃ u2 u3 u4 u5 u6 u7 u8,ρ=[some (skE K),some (.ref n),u2,u3,u4,u5,u6,u7,u8])/\∀ (j:Nat) z,j < i->L[j]?=some z->¬ Hi K (L.take j) z) (fun i ρ S' iv=>iv.1 _ _ hn) (fun i d ρ Sb hd ⟨sb,⟨u2,u3,u4,u5,u6,u7,u8,er⟩,ihh⟩=>?_) (fun ρ Sb ⟨sb,⟨u2,u3,u4,u5,u6,u7,u8,er⟩,ihh⟩=>?_) ⟨sa,⟨_,_,_,_,_,_,_,rfl⟩,fun j t hj=>absurd hj (Z8 j)⟩
   ·subst er;obtain ⟨z,hz,rfl⟩:=nB hd;have fz:=each i z hz;obtain ⟨a,b,c,d,e,f,h,eg,e0,e1,e2,e3,e6,k0,k1,c0⟩:=gl7 V fz.d0 fz.d1;obtain ⟨b0,b1,b2,b3⟩:=N2 sk fz.d0 fz.d1;have lo:=fz.m.lo;have hi:=fz.m.hi;refine ⟨_,ci (by simp) (by simp),?_⟩;k_is;refine aa sk2 (aa (show ixS (ab z) (.int 0) Sb=some (.int z.1,Sb) from rfl) (aa (gB fz.d0 eg) ?_));k_is;have r6:∀ S,ixS (aJ [a,b,c,d,e,f,h]) (.int 6) S=some (.int h,S):=fun _=>rfl;have r1:∀ S,ixS (aJ [a,b,c,d,e,f,h]) (.int 1) S=some (.int b,S):=fun _=>rfl;refine aa (r6 _) ?_;k_is
    have next:∀ (w:Option D) Sd,Sm S Sd->¬ Hi K (L.take i) z->Sm S Sd/\(∃ w2 w3 w4 w5 w6 w7 w8,[some (skE K),some (D.ref n),some (D.int i),u3,u4,u5,u6,some (ab z),w]=[some (skE K),some (.ref n),w2,w3,w4,w5,w6,w7,w8])/\∀ (j:Nat) z,j < i+1->L[j]?=some z->¬ Hi K (L.take j) z:=fun w Sd sd hh=>⟨sd,⟨_,_,_,_,_,_,_,rfl⟩,fun j y hj hy=>by
     by_cases e:j=i
     ·subst e;rw [hz] at hy;cases hy;exact hh
     ·exact ihh j y (by omega) hy⟩
    cases c1:decide (0 < h) with
    | false=>
     k_is;exact next _ Sb sb fun x=>by have:=x.1;rw [e6] at this;exact of_decide_eq_false c1 this
    | true=>
     k_is;refine aa (r1 _) ?_;rw [<-(show jn K z.1=b from e1)];refine ⟨rfl,BZ (k:=k) V (sb _ _ hn) hl hz (fun y hy=>hL y (Yi hy)) b0 b1 (by omega) (by omega) fun v Sd sd hv=>?_⟩;refine aa (r6 _) ?_;k_is
     have key:h < v ↔ Hi K (L.take i) z:=by
      have h0:=of_decide_eq_true c1;rw [hv h (by omega)];unfold Hi;rw [e6];exact ⟨fun x=>⟨h0,x⟩,fun x=>x.2⟩
     cases c2:decide (h < v) with
     | true=>
      k_is;refine aa (show ixS (ab z) (.int 0) Sd=some (.int z.1,Sd) from rfl) ?_;k_is;exact no _ Sd (sb.trans sd) (fun x=>by cases x) fun x=>x.high i z hz (key.mp (of_decide_eq_true c2))
     | false=>
      k_is;exact next _ Sd (sb.trans sd) fun x=>of_decide_eq_false c2 (key.mpr x)
   ·subst er;k_is;exact q _ Sb sb ⟨fun _=>⟨each,all,crowd,fun j z hz=>ihh j z (by rw [Za];exact (Zc.mp hz).1) hz⟩,fun _=>rfl⟩
end Lw
namespace Lw
open PySem Ev Sn L2
variable {p:Nat} {S S':Sto} {k:Nat} {Q:D->Sto->Prop} {K:Sky}
noncomputable def InR (K:Sky) (os:List Int):Prop:=∀ g ∈ os,0<=g/\g < K.G.length
theorem pw (h:Pot p S) (sk:SkOk K) (g6:K.G.length<=6) (q:∀ os S',Dr p S S'->InR K os->os.length<=12->Q (.tup (os.map D.int)) S'):Ok (evC af (k+3) f7 [.ref p,skE K] S) Q:=by
 refine aw (d:=gx) (ρ:=[some (.ref p),some (skE K)]) rfl rfl ?_;dsimp only [gx,kS];k_is;refine aa sk3 (aa sk2 (aa b9 ?_));k_is;refine ⟨fA (by omega) (by omega),?_⟩;rw [Zn];refine bB (Zj K.G.length) (fun (j:Nat)=>D.int (0+(j:Int))) (fun (j:Nat)=>if (!decide ((j:Int) ∈ K.F))=true then [D.int (j:Int)] else []) (by rw [ZL];omega) (fun _ _=>by split <;> simp) BM (fun i j S' hj sm=>⟨_,rfl,?_⟩) fun S1 s1=>?_
 ·k_is;refine aa sk3 ?_;rw [Yx];refine aa (show av .notin (.int (j:Int)) (.tup (K.F.map D.int)) S'=some (.bl (true != decide ((j:Int) ∈ K.F)),S') from qC true K.F j S') ?_;k_is;cases c:decide ((j:Int) ∈ K.F) with
  | true=>k_is;exact ⟨rfl,Sm.refl _⟩
  | false=>k_is;exact ⟨rfl,Sm.refl _⟩
 ·rw [bV];have eo:(((Zj K.G.length).filter fun (j:Nat)=>!decide ((j:Int) ∈ K.F)).map fun (j:Nat)=>D.int (j:Int))=(((Zj K.G.length).filter fun (j:Nat)=>!decide ((j:Int) ∈ K.F)).map fun (j:Nat)=>(j:Int)).map D.int:=by rw [ZV];rfl
  have bo:∀ x ∈ ((Zj K.G.length).filter fun (j:Nat)=>!decide ((j:Int) ∈ K.F)).map fun (j:Nat)=>(j:Int),0<=x/\x < K.G.length:=fun x hx=>by
   obtain ⟨j,hj,rfl⟩:=ZD.mp hx;have:=ZW.mp (ZR.mp hj).1;omega
  have lo:(((Zj K.G.length).filter fun (j:Nat)=>!decide ((j:Int) ∈ K.F)).map fun (j:Nat)=>(j:Int)).length<=6:=by rw [Za];exact Zv (Y7 _ _) (by rw [ZL];exact g6)
  rw [eo];generalize (((Zj K.G.length).filter fun (j:Nat)=>!decide ((j:Int) ∈ K.F)).map fun (j:Nat)=>(j:Int))=ot at *;k_is;have lt1:=(Dr.sm h s1).pot.lt;have d2:Dr p S (S1++[Ob.lst (ot.map D.int)]):=Dr.sm h (s1.trans (Sm.app _ _));refine ⟨rfl,pb (k:=k) d2.pot ai (by omega) (by omega) fun l S3 d3 pm=>?_⟩;k_is;refine aa (gV ai) ?_;k_is;have lF:=Dw.cr K.G.length K.F sk.nd sk.bd;have ll:l.length<=6:=by rw [pm.length_eq];exact lo
  refine ⟨by rw [Za,Za];omega,?_⟩;rw [<-ZB];refine q _ _ ((d2.trans d3).thenSm (Sm.app _ _)) (fun g hg=>?_) (by rw [Zr];omega);rcases ZK.mp hg with hg | hg
  ·exact sk.bd g hg
  ·exact bo g (pm.mem_iff.mp hg)
theorem B1 {H:List (Int × Int)} {m:Int} (hl:H.length<=4) (q:∀ m',Q (.int m') S):Ok (evC af (k+1) fe [.tup (H.map ab),.int m] S) Q:=by
 refine aw (d:=iR) (ρ:=[some (.tup (H.map ab)),some (.int m),none,none,none,none]) rfl rfl ?_;dsimp only [iR,np];k_is;refine aa b9 ?_;k_is;refine ⟨fA (by omega) (by omega),?_⟩;refine fP (by omega) (fun i ρ S'=>S'=S/\∃ (m':Int) (u v w:Option D),ρ=[some (.tup (H.map ab)),some (.int m),some (.int m'),u,v,w]) (fun i ρ S1 hi ⟨e,m',u,v,w,er⟩=>?_) (fun ρ S1 ⟨e,m',u,v,w,er⟩=>?_) ⟨rfl,m,none,none,none,rfl⟩
 ·subst e er;refine ⟨_,rfl,?_⟩;k_is;refine Gx (by rw [Za];omega) (fun i' ρ S'=>S'=S1/\∃ (m':Int) (u v w:Option D),ρ=[some (.tup (H.map ab)),some (.int m),some (.int m'),u,v,w]) (fun i' d ρ S' hd ⟨e,m',u,v,w,er⟩=>?_) (fun ρ S' ⟨e,m',u,v,w,er⟩=>⟨e,m',u,v,w,er⟩) ⟨rfl,_,_,_,_,rfl⟩;subst e er;obtain ⟨pr,hp,rfl⟩:=nB hd;refine ⟨_,show ay (.tup [.name 4,.name 5]) (.tup [.int pr.1,.int pr.2]) _=_ from ci (by simp) (by simp),?_⟩;k_is;refine BF (fun h1 h2=>?_) fun h=>?_
  ·k_is;exact ⟨rfl,_,_,_,_,rfl⟩
  ·k_is;exact ⟨rfl,_,_,_,_,rfl⟩
 ·subst e er;k_is;exact q m'
theorem run_ok (V:Vd K) {gv fx ov:D} {os:List Int} (hv:ov = .tup (os.map D.int)\/∃ m,ov = .ref m/\S[m]?=some (.lst (os.map D.int))) (ho:InR K os) (lo:os.length<=20)
  (hg:∀ S',Sm S S'->∀ g:Int,0<=g->g < K.G.length->∃ a b c d e f h:Int,0<=a/\a < K.M.length/\ixS gv (.int g) S'=some (aJ [a,b,c,d,e,f,h],S'))
  (q:∀ (L:List (Int × Int)) N S',Sm S S'->S'[N]?=some (.lst (L.map ab))->S.length<=N->L.map (·.1)=os->Q (.ref N) S'):Ok (evC af (k+2) eJ [.tup [meE K,ahE K.ah,gv,fx],ov] S) Q:=by
 refine aw (d:=kc) (ρ:=[some (.tup [meE K,ahE K.ah,gv,fx]),some ov,none,none,none,none]) rfl rfl ?_;dsimp only [kc,o6];k_is;have t0:∀ S,ixS (.tup [meE K,ahE K.ah,gv,fx]) (.int 0) S=some (meE K,S):=fun _=>rfl;have t1:∀ S,ixS (.tup [meE K,ahE K.ah,gv,fx]) (.int 1) S=some (ahE K.ah,S):=fun _=>rfl;have t2:∀ S,ixS (.tup [meE K,ahE K.ah,gv,fx]) (.int 2) S=some (gv,S):=fun _=>rfl;refine aa (t1 _) ?_;k_is
 have loop:∀ (nx:Nxt) (S1:Sto),Sm S S1->S1[Zb S]?=some (.lst (([]:List (Int × Int)).map ab))->(∀ i S',Sm S S'->nx i S'=some ((os[i]?).map D.int))->OkS (eF nx (.name 4) (g9 (evC af (k+1)) (hF af) 58 [.asg (.name 5) (.ix (.ix (.ix (.var 0) (.int 2)) (.var 4)) (.int 2)),.ifs (.cmp .isnot (.var 3) .non) [.asg (.name 5) (.mx (.var 5) (.bin .add (.ix (.var 3) (.int 1)) (.ix (.ix (.ix (.ix (.var 0) (.int 0)) (.int 2)) (.ix (.var 3) (.int 0))) (.ix (.ix (.ix (.var 0) (.int 2)) (.var 4)) (.int 0)))))] [],.asg (.name 5) (.call fe [(.ix (.ix (.var 0) (.int 0)) (.int 3)),(.var 5)]),.ex (.app (.var 2) (.tup [(.var 4),(.var 5)])),.asg (.name 3) (.tup [(.ix (.ix (.ix (.var 0) (.int 2)) (.var 4)) (.int 0)),(.var 5)])]) LF 0 [some (.tup [meE K,ahE K.ah,gv,fx]),some ov,some (.ref (Zb S)),some (ahE K.ah),none,none] S1)
   fun fl ρ S'=>match fl with
    | .nx=>∃ (L:List (Int × Int)) (a:Option (Int × Int)) (u v:Option D),ρ=[some (.tup [meE K,ahE K.ah,gv,fx]),some ov,some (.ref (Zb S)),some (ahE a),u,v]/\Sm S S'/\S'[Zb S]?=some (.lst (L.map ab))/\L.map (·.1)=os
    | _=>False:=fun nx S1 s1 a1 hnx=>by
  refine jG os.length (fun i ρ S'=>∃ (L:List (Int × Int)) (a:Option (Int × Int)) (u v:Option D),ρ=[some (.tup [meE K,ahE K.ah,gv,fx]),some ov,some (.ref (Zb S)),some (ahE a),u,v]/\Sm S S'/\S'[Zb S]?=some (.lst (L.map ab))/\L.map (·.1)=os.take i/\∀ z,a=some z->0<=z.1/\z.1 < K.M.length) (by unfold LF;omega) (fun i ρ S2 hi ⟨L,a,u,v,er,s2,hL,eL,ha⟩=>?_) (fun ρ S2 ⟨L,a,u,v,er,s2,hL,eL,ha⟩=>⟨by rw [hnx _ S2 s2,Zy (Zd _)];rfl,L,a,u,v,er,s2,hL,by rw [eL,Yo]⟩) ⟨[],K.ah,none,none,rfl,s1,a1,rfl,V.ah0⟩;subst er;have hgi:os[i]?=some os[i]:=gEG hi;obtain ⟨g0,g1⟩:=ho os[i] (ZG hi);have hlen:L.length<=20:=by have:=congrArg Zb eL;rw [Za,ZF] at this;omega
  refine ⟨.int os[i],_,by rw [hnx i S2 s2,hgi];rfl,rfl,?_⟩;obtain ⟨x0,x1,x2,x3,x4,x5,x6,k0,k1,ix⟩:=hg S2 s2 os[i] g0 g1;have lt2:Zb S < S2.length:=(Zc.mp hL).1
  have rest:∀ m:Int,rW (wSs (evC af (k+1)) (hF af) 56 [.asg (.name 5) (.call fe [(.ix (.ix (.var 0) (.int 0)) (.int 3)),(.var 5)]),.ex (.app (.var 2) (.tup [(.var 4),(.var 5)])),.asg (.name 3) (.tup [(.ix (.ix (.ix (.var 0) (.int 2)) (.var 4)) (.int 0)),(.var 5)])]) [some (.tup [meE K,ahE K.ah,gv,fx]),some ov,some (.ref (Zb S)),some (ahE a),some (.int os[i]),some (.int m)] S2 (fun fl ρ2 S2=>match fl with
    | .nx=>∃ (L:List (Int × Int)) (a:Option (Int × Int)) (u v:Option D),ρ2=[some (.tup [meE K,ahE K.ah,gv,fx]),some ov,some (.ref (Zb S)),some (ahE a),u,v]/\Sm S S2/\S2[Zb S]?=some (.lst (L.map ab))/\L.map (·.1)=os.take (i+1)/\∀ z,a=some z->0<=z.1/\z.1 < K.M.length
    | .ct=>∃ (L:List (Int × Int)) (a:Option (Int × Int)) (u v:Option D),ρ2=[some (.tup [meE K,ahE K.ah,gv,fx]),some ov,some (.ref (Zb S)),some (ahE a),u,v]/\Sm S S2/\S2[Zb S]?=some (.lst (L.map ab))/\L.map (·.1)=os.take (i+1)/\∀ z,a=some z->0<=z.1/\z.1 < K.M.length
    | .bk=>∃ (L:List (Int × Int)) (a:Option (Int × Int)) (u v:Option D),ρ2=[some (.tup [meE K,ahE K.ah,gv,fx]),some ov,some (.ref (Zb S)),some (ahE a),u,v]/\Sm S S2/\S2[Zb S]?=some (.lst (L.map ab))/\L.map (·.1)=os
    | .rt d=>False):=fun m=>by
   k_is;refine aa (t0 _) (aa me3 ?_);refine ⟨rfl,B1 V.h4 fun m'=>?_⟩;k_is;refine ⟨dz hL,?_⟩;rw [qE hL (by rw [Za];omega)];k_is;have s3:Sm S (S2.set (Zb S) (.lst (L.map ab++[.tup [.int os[i],.int m']]))):=Sm.setNew s2 (Zd _);have a3:(S2.set (Zb S) (.lst (L.map ab++[.tup [.int os[i],.int m']])))[Zb S]?=some (.lst ((L++[(os[i],m')]).map ab)):=by rw [ft lt2,ZB];rfl
   generalize S2.set (Zb S) (.lst (L.map ab++[.tup [.int os[i],.int m']]))=S3 at *;obtain ⟨y0,y1,y2,y3,y4,y5,y6,l0,l1,iy⟩:=hg S3 s3 os[i] g0 g1;refine aa (t2 _) (aa iy (aa (show ixS (aJ [y0,y1,y2,y3,y4,y5,y6]) (.int 0) S3=some (.int y0,S3) from rfl) ?_));k_is;exact ⟨L++[(os[i],m')],some (y0,m'),_,_,rfl,s3,a3,by rw [ZB,eL,Zz hi];rfl,fun z e=>by cases e;exact ⟨l0,l1⟩⟩
  k_is;refine aa (t2 _) (aa ix (aa (show ixS (aJ [x0,x1,x2,x3,x4,x5,x6]) (.int 2) S2=some (.int x2,S2) from rfl) ?_));k_is;cases a with
  | none=>
   refine aa (show av .isnot (ahE none) .non S2=some (.bl false,S2) from rfl) ?_;k_is;exact rest x2
  | some z=>
   obtain ⟨z0,z1⟩:=ha z rfl;refine aa (show av .isnot (ahE (some z)) .non S2=some (.bl true,S2) from rfl) ?_;k_is;refine aa (show ixS (ahE (some z)) (.int 1) S2=some (.int z.2,S2) from rfl) ?_;refine aa (t0 _) (aa me2 (aa (show ixS (ahE (some z)) (.int 0) S2=some (.int z.1,S2) from rfl) ?_));obtain ⟨r,h1,h2⟩:=uX (S:=S2) V z0 z1 k0 k1;refine aa h1 (aa (t2 _) (aa ix (aa (show ixS (aJ [x0,x1,x2,x3,x4,x5,x6]) (.int 0) S2=some (.int x0,S2) from rfl) (aa h2 ?_))));k_is;exact rest _
 have fin:∀ (nx:Nxt) (S1:Sto),Sm S S1->S1[Zb S]?=some (.lst (([]:List (Int × Int)).map ab))->(∀ i S',Sm S S'->nx i S'=some ((os[i]?).map D.int))->True:=fun _ _ _ _ _=>trivial;have s1:Sm S (S++[Ob.lst []]):=Sm.app _ _;have a1:(S++[Ob.lst []])[Zb S]?=some (.lst (([]:List (Int × Int)).map ab)):=ai;rcases hv with rfl | ⟨m,rfl,hm⟩
 ·k_is;refine (loop _ _ s1 a1 kh).mono fun fl ρ S' z=>?_;cases fl with
  | nx=>
   obtain ⟨L,a,u,v,rfl,s2,hL,eL⟩:=z;k_is;exact q L _ S' s2 hL (Zd _) eL
  | _=>cases z
 ·k_is;refine ⟨by rw [ak (s1 _ _ hm)];rfl,?_⟩;refine (loop _ _ s1 a1 (cI hm)).mono fun fl ρ S' z=>?_;cases fl with
  | nx=>
   obtain ⟨L,a,u,v,rfl,s2,hL,eL⟩:=z;k_is;exact q L _ S' s2 hL (Zd _) eL
  | _=>cases z
end Lw
namespace Lw
open PySem Ev Sn L2
variable {p:Nat} {S S':Sto} {k:Nat} {Q:D->Sto->Prop} {K:Sky}
theorem B2 {ds:List D} {i:Int} (h0:0<=i):gZ ds (some i) none=ds.drop i.toNat:=by
 unfold gZ;rw [Dw.Hv _ _ h0,HT.yR];by_cases h:i.toNat<=ds.length
 ·rw [Y4 h,ZU (by rw [Z1];omega)]
 ·rw [Xw (by omega),List.drop_length,List.take_nil,List.drop_eq_nil_of_le (by omega)]
theorem sX {n:Nat} {ds:List D} {i:Int} (hn:S[n]?=some (.lst ds)) (h0:0<=i):slS (some i) none (.ref n) S=some (.ref (Zb S),S++[.lst (ds.drop i.toNat)]):=by
 simp only [slS,ak hn,B2 h0]
noncomputable def Lnd (p:Nat) (S:Sto) (m:Nat) (K:Sky) (d:D):Prop:=∃ (N:Nat) (L:List (Int × Int)),d = .ref N/\N ≠ p/\S[N]?=some (.lst (L.map ab))/\L.length<=m
theorem OW (V:Vd K):∀ S',Sm S S'->∀ g:Int,0<=g->g < K.G.length->∃ a b c d e f h:Int,0<=a/\a < K.M.length/\ixS (.tup (K.G.map aJ)) (.int g) S'=some (aJ [a,b,c,d,e,f,h],S'):=fun S' _ g g0 g1=>by
 obtain ⟨a,b,c,d,e,f,h,eg,e0,e1,e2,e3,e6,k0,k1,c0⟩:=gl7 V g0 g1;exact ⟨a,b,c,d,e,f,h,k0,k1,gB g0 eg⟩
theorem wK (V:Vd K) {os:List Int} (ho:InR K os) (lo:os.length<=20)
  (q:∀ (L:List (Int × Int)) N S',Sm S S'->S'[N]?=some (.lst (L.map ab))->S.length<=N->L.map (·.1)=os->Q (.ref N) S'):Ok (evC af (k+2) eJ [skE K,.tup (os.map D.int)] S) Q:=
 run_ok (fx:=.tup (K.F.map D.int)) V (.inl rfl) ho lo (OW V) q
theorem sY (h:Pot p S) (sk:SkOk K) (g6:K.G.length<=6) {N:Nat} {L:List (Int × Int)} {u3 u4:Option D} (nN:N ≠ p) (hN:S[N]?=some (.lst (L.map ab))) (lL:L.length<=12) (iL:InR K (L.map (·.1)))
  (q:∀ d S',Dr p S S'->Lnd p S' 12 K d->Q d S') :
  rW (wSs (evC af (k+4)) (hF af) 57 (dR.drop 3)) [some (.ref p),some (skE K),some (.ref N),u3,u4,none,none,none,none,none] S (out Q):=by
 dsimp only [dR,Yb];have V:=sk.vd;k_is;refine ⟨by rw [ak hN];rfl,?_⟩;refine bB L ab (fun z=>[.int z.1]) (by omega) (fun _ _=>Zd _) (cI hN) (fun i y S' hy sm=>⟨_,rfl,?_⟩) fun S2 s2=>?_
 ·k_is;exact aa (show ixS (ab y) (.int 0) S'=some (.int y.1,S') from rfl) ⟨rfl,Sm.refl _⟩
 rw [bA,jI];k_is;have lt2:=(Dr.sm h s2).pot.lt;have d3:Dr p S (S2++[Ob.lst ((L.map (·.1)).map D.int)]):=Dr.sm h (s2.trans (Sm.app _ _));have a3:(S2++[Ob.lst ((L.map (·.1)).map D.int)])[Zb S2]?=some (.lst ((L.map (·.1)).map D.int)):=ai;have n3:Zb S2 ≠ p:=by omega
 generalize S2++[Ob.lst ((L.map (·.1)).map D.int)]=S3 at *;generalize Zb S2=N3 at *;refine aa (dL a3) ?_;k_is;rw [Za,Za];refine ⟨rfl,ao d3.pot (by omega) (by omega) fun x S4 x1 x2 d4=>?_⟩;refine ⟨rfl,ao d4.pot (by decide) (by decide) fun y S5 y1 y2 d5=>?_⟩;k_is;have d35:=d4.trans d5;have a5:=d35.kp _ _ n3 a3;have d5':=d3.trans d35;refine aa sk2 ?_;k_is;refine ek K.G.length (fun i=>.tup [.int i,((K.G.map aJ)[i]?).getD .non]) (fun i acc S'=>Sm S5 S'/\∃ R:List (List Int),acc=R.map aJ/\R.length=i/\∀ (j:Nat) r,R[j]?=some r->∃ a b c d e f h:Int,r=[a,b,c,d,e,f,h]/\0<=a/\a < K.M.length) (fun i acc S' hi _=>?_) (by omega) (fun i acc S6 hi ⟨s6,R,ea,lR,bR⟩=>?_) (fun es S6 ⟨s6,R,ea,lR,bR⟩=>⟨by rw [ea,Za];omega,?_⟩) ⟨Sm.refl _,[],rfl,rfl,fun j r e=>by cases e⟩
 ·show enm (K.G.map aJ) i=_;unfold enm;rw [if_pos (by rw [Za];exact hi)];split
  ·rename_i hlt;rw [gEG (by rw [Za];exact hlt)];rfl
  ·rw [Zy (by rw [Za];omega)];rfl
 ·obtain ⟨a,b,c,d,e,f,h',eg,e0,e1,e2,e3,e6,k0,k1,c0⟩:=gl7 V (g:=(i:Int)) (by omega) (by omega);rw [Zn] at eg;have ez:((K.G.map aJ)[i]?).getD .non = .tup [.int a,.int b,.int c,.int d,.int e,.int f,.int h']:=by rw [Zl,eg];rfl
  rw [ez];refine ⟨_,ci (by simp) (by simp),?_⟩;k_is;rw [show gZ [D.int a,.int b,.int c,.int d,.int e,.int f,.int h'] none (some 2)=[.int a,.int b] from rfl];k_is;refine aa (show ixS (.tup [D.int a,.int b,.int c,.int d,.int e,.int f,.int h']) (.int 2) S6=some (.int c,S6) from rfl) ?_;k_is;refine aa (sX (s6 _ _ a5) x1) ?_;have s7:Sm S6 (S6++[Ob.lst (((L.map (·.1)).map D.int).drop x.toNat)]):=Sm.app _ _;have a7:(S6++[Ob.lst (((L.map (·.1)).map D.int).drop x.toNat)])[Zb S6]?=some (.lst (((L.map (·.1)).drop x.toNat).map D.int)):=by rw [ai,Xg]
  generalize S6++[Ob.lst (((L.map (·.1)).map D.int).drop x.toNat)]=S7 at *;k_is;refine aa (show av .isin (.int (i:Int)) (.ref (Zb S6)) S7=some (.bl (false != decide ((i:Int) ∈ (L.map (·.1)).drop x.toNat)),S7) from nK false a7 (i:Int)) ?_;k_is;refine aa (show zQ (.bl (false != decide ((i:Int) ∈ (L.map (·.1)).drop x.toNat))) S7=some (.int (if (false != decide ((i:Int) ∈ (L.map (·.1)).drop x.toNat)) then 1 else 0),S7) from rfl) ?_;k_is;refine ⟨lI (by omega) (by omega),?_⟩;refine ⟨by show 3<=1000;decide,?_⟩;rw [show gZ [D.int a,.int b,.int c,.int d,.int e,.int f,.int h'] (some 3) none=[.int d,.int e,.int f,.int h'] from rfl];k_is;refine ⟨by show 7<=1000;decide,?_⟩;refine ⟨s6.trans s7,R++[[a,b,c+y * (if (false != decide ((i:Int) ∈ (L.map (·.1)).drop x.toNat)) then 1 else 0),d,e,f,h']],by rw [ea,ZB];rfl,by rw [Zr,ZI];omega,fun j r hj=>?_⟩;by_cases hjl:j < R.length
  ·rw [Zw hjl] at hj;exact bR j r hj
  ·have hll:=(Zc.mp hj).1;rw [Zr,ZI] at hll;obtain rfl:j=R.length:=by omega
   rw [Zq (Zd _),Yh] at hj;cases hj;exact ⟨_,_,_,_,_,_,_,rfl,k0,k1⟩
 ·subst ea;k_is;have s7:Sm S6 (S6++[Ob.lst (R.map aJ)]):=Sm.app _ _;have a7:(S6++[Ob.lst (R.map aJ)])[Zb S6]?=some (.lst (R.map aJ)):=ai;have s57:=s6.trans s7;generalize S6++[Ob.lst (R.map aJ)]=S7 at *;generalize Zb S6=N7 at *;have d7:=d5'.thenSm s57;refine aa sk0 (aa sk1 (aa sk3 ?_));k_is;refine ⟨rfl,run_ok (k:=k+2) (gv:=.ref N7) (fx:=.tup (K.F.map D.int)) V (.inr ⟨N3,rfl,s57 _ _ a5⟩) iL (by rw [Za];omega) (fun S' sm g g0 g1=>?_) fun L' N8 S8 s8 hN8 l8 eL'=>?_⟩
  ·have hg:g.toNat < R.length:=by omega
   obtain ⟨a,b,c,d,e,f,h',er,k0,k1⟩:=bR g.toNat R[g.toNat] (gEG hg);exact ⟨a,b,c,d,e,f,h',k0,k1,b8 (sm _ _ a7) g0 (by rw [Zl,gEG hg,er];rfl)⟩
  ·have lL':L'.length<=12:=by have:=congrArg Zb eL';rw [Za,Za] at this;omega
   k_is;refine ⟨rfl,gW (k:=k+1) sk hN8 (by omega) fun d S9 s9 hd=>?_⟩;k_is;refine aa iW ?_;k_is;have lt7:=d7.pot.lt;have d9:=(d7.thenSm s8).thenSm s9;cases bF d with
   | true=>k_is;exact q _ S9 d9 ⟨N8,L',rfl,by omega,s9 _ _ hN8,lL'⟩
   | false=>k_is;exact q _ S9 d9 ⟨N,L,rfl,nN,d9.kp _ _ nN hN,lL⟩
theorem vh (h:Pot p S) (sk:SkOk K) (g6:K.G.length<=6) (q:∀ d S',Dr p S S'->(d = .non\/Lnd p S' 12 K d)->Q d S'):Ok (evC af (k+5) ie [.ref p,skE K] S) Q:=by
 refine aw (d:=dZ) (ρ:=[some (.ref p),some (skE K),none,none,none,none,none,none,none,none]) rfl rfl ?_;have tail:=@sY p;dsimp only [dZ];dsimp only [dR,Yb] at tail ⊢;have V:=sk.vd;k_is;refine ⟨by decide,?_⟩;refine fP (by decide) (fun i ρ S'=>Dr p S S'/\∃ (d:D) (u v:Option D),ρ=[some (.ref p),some (skE K),some d,u,v,none,none,none,none,none]/\(d = .non\/∃ (N:Nat) (L:List (Int × Int)),d = .ref N/\N ≠ p/\S'[N]?=some (.lst (L.map ab))/\L.length<=12/\InR K (L.map (·.1)))) (fun i ρ S1 hi ⟨d1,d,u,v,er,hd⟩=>?_) (fun ρ S1 ⟨d1,d,u,v,er,hd⟩=>?_) ⟨Dr.refl h,.non,none,none,rfl,.inl rfl⟩
 ·subst er;refine ⟨_,rfl,?_⟩;k_is;refine ⟨rfl,pw (k:=k+1) d1.pot sk g6 fun os S2 d2 ho lo=>?_⟩;refine ⟨rfl,wK (k:=k+2) V ho (by omega) fun L N S3 s3 hN lN eL=>?_⟩;k_is;have lL:L.length<=12:=by have:=congrArg Zb eL;rw [Za] at this;omega
  have d3:=(d1.trans d2).thenSm s3;have lt2:=d2.pot.lt;have nN:N ≠ p:=by omega
  refine aa iW ?_;k_is;rcases hd with rfl | ⟨N0,L0,rfl,n0,h0,l0,i0⟩
  ·rw [show bF .non=true from rfl];k_is;refine ⟨rfl,gW (k:=k+1) sk hN (by omega) fun d S4 s4 hd=>?_⟩;k_is;refine aa iW ?_;k_is;cases bF d with
   | true=>k_is;exact ⟨d3.thenSm s4,_,_,_,rfl,.inr ⟨N,L,rfl,nN,s4 _ _ hN,lL,by rw [eL];exact ho⟩⟩
   | false=>k_is;exact ⟨d3.thenSm s4,_,_,_,rfl,.inl rfl⟩
  ·rw [show bF (.ref N0)=false from rfl];k_is;exact ⟨d3,_,_,_,rfl,.inr ⟨N0,L0,rfl,n0,(d2.thenSm s3).kp _ _ n0 h0,l0,i0⟩⟩
 ·subst er;k_is;refine aa iW ?_;k_is;rcases hd with rfl | ⟨N0,L0,rfl,n0,h0,l0,i0⟩
  ·rw [show bF .non=true from rfl];k_is;exact q _ S1 d1 (.inl rfl)
  ·rw [show bF (.ref N0)=false from rfl];k_is;exact tail (k:=k) d1.pot sk g6 n0 h0 l0 i0 fun d S' d' hd=>q d S' (d1.trans d') (.inr hd)
end Lw
namespace Lw
open PySem Ev Sn L2
variable {p:Nat} {S S':Sto} {k:Nat} {Q:D->Sto->Prop} {K:Sky}
theorem FD {n:Nat} {ds:List D} {i:Int} {v:D} (hn:S[n]?=some (.lst ds)) (h0:0<=i) (h1:i.toNat < ds.length):eD (.ref n) (.int i) v S=some (S.set n (.lst (ds.set i.toNat v))):=by
 have hix:ixN ds.length i=some i.toNat:=by
  unfold ixN;rw [if_pos (by omega),if_pos (by omega)]
 simp only [eD,hn,hix,Zp]
theorem yy {n:Nat} {L:List (Int × Int)} {j:Nat} (hn:S[n]?=some (.lst (L.map ab))) (hj:j < L.length):eV (.ref n) [.int (j:Int)] S=some (ab L[j],S.set n (.lst ((L.eraseIdx j).map ab))):=by
 have hix:ixN (L.map ab).length (j:Int)=some j:=by
  unfold ixN;rw [if_pos (by omega),if_pos (by rw [Za];omega),Zn]
 have hg:(L.map ab)[j]?=some (ab L[j]):=by rw [Zl,gEG hj];rfl
 simp only [eV,chg,hn,hix,hg,Zp,qN]
theorem yz {n:Nat} {L:List (Int × Int)} {i:Int} {z:Int × Int} (hn:S[n]?=some (.lst (L.map ab))) (h0:0<=i) (h1:i<=1000) (hl:L.length<=1000):ux (.ref n) [.int i,ab z] S=some (.non,S.set n (.lst ((fE L (min i.toNat L.length) z).map ab))):=by
 have e:fE (L.map ab) (min i.toNat (L.map ab).length) (ab z)=(fE L (min i.toNat L.length) z).map ab:=by
  unfold fE;rw [Za,ZB,Zt,Yj,Xg]
 simp only [ux,chg,hn];rw [if_pos ⟨h0,by omega⟩,if_pos (by rw [Za];omega),e];rfl
theorem gC {n:Nat} {L:List (Int × Int)} {i:Int} {z:Int × Int} (hn:S[n]?=some (.lst (L.map ab))) (h0:0<=i) (h1:i.toNat < L.length):eD (.ref n) (.int i) (ab z) S=some (S.set n (.lst ((L.set i.toNat z).map ab))):=by
 rw [FD hn h0 (by rw [Za];exact h1),XJ]
theorem yA (h:Pot p S) (sk:SkOk K) {N:Nat} {L:List (Int × Int)} (hN:S[N]?=some (.lst (L.map ab))) (lL:L.length<=100) (q:∀ d S',Dr p S S'->Lnd p S' (L.length+1) K d->Q d S'):Ok (evC af (k+2) jx [.ref p,.ref N,skE K] S) Q:=by
 refine aw (d:=fm) (ρ:=[some (.ref p),some (.ref N),some (skE K),none,none,none,none,none,none]) rfl rfl ?_;dsimp only [fm,jE];have g7:=sk.g7;k_is;have it:aj (.ref N) S=some (false,L.map ab):=by simp only [aj,ak hN,Zp]
 rw [it];show Ok (some (L.map ab,S)) _;rw [al];k_is;have lt:=h.lt;have d0:Dr p S (S++[Ob.lst (L.map ab)]):=Dr.sm h (Sm.app _ _);have a0:(S++[Ob.lst (L.map ab)])[Zb S]?=some (.lst (L.map ab)):=ai;have nA:Zb S ≠ p:=by omega
 have lA:S.length<=Zb S:=Zd _;generalize S++[Ob.lst (L.map ab)]=S0 at *;generalize hAA:Zb S=A at *;refine ⟨rfl,ao d0.pot (by decide) (by decide) fun w S1 w1 w2 d1=>?_⟩;k_is;have d01:=d0.trans d1;have a1:=d1.kp _ _ nA a0
 have finS:∀ (L':List (Int × Int)) (S2:Sto) (o:Ob),Dr p S S2->S2[A]?=some o->L'.length<=L.length+1->Q (.ref A) (S2.set A (.lst (L'.map ab))):=fun L' S2 o d2 h2 l2=>by
  have lt2:A < S2.length:=(Zc.mp h2).1;exact q _ _ ⟨d2.kp.setNew (by omega),d2.pot.setNe nA⟩ ⟨A,L',rfl,nA,ft lt2,l2⟩
 have insB:∀ (Qf:Fl->Rho->Sto->Prop),(∀ d ρ S',Q d S'->Qf (.rt d) ρ S')->∀ (S2:Sto),Dr p S S2->S2[A]?=some (.lst (L.map ab))->rW (wSs (evC af (k+1)) (hF af) 56 [.ex (.ins (.var 3) (.call ad [(.var 0),(.bin .add (.len (.var 3)) (.int 1))]) (.tup [(.bin .sub (.call ad [(.var 0),(.bin .add (.len (.ix (.var 2) (.int 2))) (.int 2))]) (.int 1)),(.call ad [(.var 0),(.int 120)])])),.ret (.var 3)]) [some (.ref p),some (.ref N),some (skE K),some (.ref A),some (.int w),none,none,none,none] S2 Qf:=fun Qf hq S2 d2 h2=>by
  k_is;refine ⟨dz h2,?_⟩;refine aa (dL h2) ?_;k_is;rw [Za];refine ⟨rfl,ao d2.pot (by omega) (by omega) fun x S3 x1 x2 d3=>?_⟩;refine aa sk2 (aa b9 ?_);k_is;refine ⟨rfl,ao d3.pot (by omega) (by omega) fun y S4 y1 y2 d4=>?_⟩;k_is;refine ⟨rfl,ao d4.pot (by decide) (by decide) fun m S5 m1 m2 d5=>?_⟩;k_is;have d25:=(d3.trans d4).trans d5;have h5:=d25.kp _ _ nA h2;refine aa (yz (z:=(y - 1,m)) h5 x1 (by omega) (by omega)) ?_;k_is;refine hq _ _ _ (finS _ S5 _ (d2.trans d25) h5 ?_);unfold fE;rw [Zr,ZA,ZF,Z1];omega
 have s2:Sm S1 (S1++[Ob.lst []]):=Sm.app _ _;have lt1:A < S1.length:=(Zc.mp a1).1;refine aa (Jh (Sm.app _ _ _ _ a1) ai (by omega)) ?_;have d2:=d01.thenSm s2;have a2:=s2 _ _ a1;generalize S1++[Ob.lst []]=S2 at *;k_is;cases hE:L with
 | nil=>
  rw [show (([]:List (Int × Int)).map ab).isEmpty=true from rfl];k_is;exact insB _ (fun d ρ S' z=>z) S2 d2 a2
 | cons z0 L0=>
  rw [show ((z0::L0).map ab).isEmpty=false from rfl];k_is;have l1:1<=L.length:=by rw [hE,ZA];omega
  clear hE z0 L0;cases c0:decide (w=0) with
  | true=>
   k_is;exact insB _ (fun d ρ S' z=>z) S2 d2 a2
  | false=>
  k_is;refine aa (dL a2) ?_;rw [Za];refine ⟨rfl,ao d2.pot (by omega) (by omega) fun x0 S3 x1 x2 d3=>?_⟩;have a3:=d3.kp _ _ nA a2;refine aa (dL a3) ?_;rw [Za];refine ⟨rfl,ao d3.pot (by omega) (by omega) fun y0 S4 y1 y2 d4=>?_⟩;k_is;obtain ⟨x,rfl⟩:∃ n:Nat,x0=(n:Int):=⟨x0.toNat,by omega⟩;obtain ⟨y,rfl⟩:∃ n:Nat,y0=(n:Int):=⟨y0.toNat,by omega⟩;have hx:x < L.length:=by omega
  have hy:y < L.length:=by omega
  have a4:=d4.kp _ _ nA a3;have d04:=(d2.trans d3).trans d4;have ix:∀ {S':Sto},S'[A]?=some (.lst (L.map ab))->ixS (.ref A) (.int (x:Int)) S'=some (ab L[x],S'):=fun hh=>b8 hh (by omega) (nM (gEG hx));have iy:∀ {S':Sto},S'[A]?=some (.lst (L.map ab))->ixS (.ref A) (.int (y:Int)) S'=some (ab L[y],S'):=fun hh=>b8 hh (by omega) (nM (gEG hy));refine aa (ix a4) ?_;rw [show ab L[x] = .tup [.int L[x].1,.int L[x].2] from rfl];k_is;have setL:∀ z:Int × Int,(L.set ((x:Nat):Int).toNat z).length<=L.length+1:=fun z=>by rw [Z7];omega
  have hxt:((x:Nat):Int).toNat < L.length:=by rw [Zn];exact hx
  cases c1:decide (w=1) with
  | true=>
   k_is;refine ⟨dz a4,?_⟩;refine aa (yy a4 hx) ?_;k_is;exact finS _ S4 _ d04 a4 (by rw [YN hx];omega)
  | false=>
  k_is;cases c2:decide (w=2) with
  | true=>
   k_is;refine aa (iy a4) (aa (ix a4) ?_);k_is;refine ⟨_,_,rfl,?_⟩;refine ⟨_,gC a4 (by omega) hxt,?_⟩;have lt4:A < S4.length:=(Zc.mp a4).1;have a5:(S4.set A (.lst ((L.set ((x:Nat):Int).toNat L[y]).map ab)))[A]?=some (.lst ((L.set ((x:Nat):Int).toNat L[y]).map ab)):=ft lt4;have d5:Dr p S (S4.set A (.lst ((L.set ((x:Nat):Int).toNat L[y]).map ab))):=⟨d04.kp.setNew (by omega),d04.pot.setNe nA⟩;refine ⟨_,gC a5 (by omega) (by rw [Z7,Zn];exact hy),?_⟩;k_is;exact finS _ _ _ d5 a5 (by rw [Z7,Z7];omega)
  | false=>
  k_is;cases c3:decide (w=3) with
  | true=>
   k_is;refine aa (iy a4) (aa (show ixS (ab L[y]) (.int 0) S4=some (.int L[y].1,S4) from rfl) ?_);k_is;refine ⟨_,gC (z:=(L[y].1,L[x].2)) a4 (by omega) hxt,?_⟩;k_is;exact finS _ S4 _ d04 a4 (setL _)
  | false=>
  k_is;cases c4:decide (w=4) with
  | true=>
   k_is;refine aa sk2 (aa b9 ?_);k_is;refine ⟨⟨by decide,by decide,by decide⟩,?_⟩;refine ⟨rfl,ao d4.pot (by decide) (by decide) fun i S5 i1 i2 d5=>?_⟩;k_is
   obtain ⟨e,ate⟩:∃ e:Int,atI [D.int (-1),D.int (K.G.length:Int),D.int (10 ^ Int.toNat 20)] i=some (D.int e):=by
    have:i=0\/i=1\/i=2:=by omega
    rcases this with rfl | rfl | rfl
    ·exact ⟨_,rfl⟩
    ·exact ⟨_,rfl⟩
    ·exact ⟨_,rfl⟩
   refine ⟨_,ate,?_⟩;k_is;have a5:=d5.kp _ _ nA a4;refine ⟨_,gC (z:=(e,L[x].2)) a5 (by omega) hxt,?_⟩;k_is;exact finS _ S5 _ (d04.trans d5) a5 (setL _)
  | false=>
  k_is;cases c5:decide (w=5) with
  | true=>
   k_is;refine ⟨⟨by decide,by decide,by decide⟩,?_⟩;refine ⟨⟨by decide,by decide,by decide⟩,?_⟩;refine ⟨rfl,ao d4.pot (by decide) (by decide) fun i S5 i1 i2 d5=>?_⟩;k_is
   obtain ⟨e,ate⟩:∃ e:Int,atI [D.int (-1),D.int 1,D.int (10 ^ Int.toNat 20),D.int (-(10 ^ Int.toNat 20))] i=some (D.int e):=by
    have:i=0\/i=1\/i=2\/i=3:=by omega
    rcases this with rfl | rfl | rfl | rfl
    ·exact ⟨_,rfl⟩
    ·exact ⟨_,rfl⟩
    ·exact ⟨_,rfl⟩
    ·exact ⟨_,rfl⟩
   refine ⟨_,ate,?_⟩;k_is;have a5:=d5.kp _ _ nA a4;refine ⟨_,gC (z:=(L[x].1,L[x].2+e)) a5 (by omega) hxt,?_⟩;k_is;exact finS _ S5 _ (d04.trans d5) a5 (setL _)
  | false=>
  k_is;refine aa (fw a4) ?_;have s5:Sm S4 (S4++[Ob.lst ((L.map ab).take x)]):=Sm.app _ _;have a5:(S4++[Ob.lst ((L.map ab).take x)])[Zb S4]?=some (.lst ((L.take x).map ab)):=by rw [ai,Yj]
  generalize S4++[Ob.lst ((L.map ab).take x)]=S5 at *;generalize hN4:Zb S4=N4 at *;refine aa (sX (s5 _ _ a4) (by omega)) ?_;have s6:Sm S5 (S5++[Ob.lst ((L.map ab).drop ((x:Nat):Int).toNat)]):=Sm.app _ _;have a6:(S5++[Ob.lst ((L.map ab).drop ((x:Nat):Int).toNat)])[Zb S5]?=some (.lst ((L.drop x).map ab)):=by rw [ai,Xg,Zn]
  generalize S5++[Ob.lst ((L.map ab).drop ((x:Nat):Int).toNat)]=S6 at *;generalize Zb S5=N5 at *;k_is;refine ⟨by rw [ak a6];rfl,?_⟩;refine bB (L.drop x) ab (fun z=>[ab (z.1,z.2+1)]) (by rw [Z1];omega) (fun _ _=>Zd _) (cI a6) (fun i z S' hz sm=>⟨_,show ay (.tup [.name 9,.name 10]) (.tup [.int z.1,.int z.2]) _=_ from ci (by simp) (by simp),?_⟩) fun S7 s7=>?_
  ·k_is;exact ⟨rfl,Sm.refl _⟩
  rw [bA];have em:((L.drop x).map fun z=>ab (z.1,z.2+1))=((L.drop x).map fun z=>(z.1,z.2+1)).map ab:=by rw [ZV];rfl
  rw [em];have s8:Sm S7 (S7++[Ob.lst (((L.drop x).map fun z=>(z.1,z.2+1)).map ab)]):=Sm.app _ _;refine aa (gU (s8 _ _ (s7 _ _ (s6 _ _ a5))) ai (by rw [Za,Za,Za,ZF,Z1];omega)) ?_;k_is;rw [<-ZB];have d8:=d04.thenSm (((s5.trans s6).trans s7).trans s8);have lt8:=d8.pot.lt;refine q _ _ (d8.thenSm (Sm.app _ _)) ⟨_,L.take x++(L.drop x).map fun z=>(z.1,z.2+1),rfl,by omega,ai,?_⟩;rw [Zr,Za,ZF,Z1];omega
end Lw
namespace Lw
open PySem Ev Sn L2
variable {p:Nat} {S S':Sto} {k:Nat} {Q:D->Sto->Prop} {K:Sky}
noncomputable def FE:List Dw.D:=[.non,.bl true,.bl false,.int (-1),.int (10 ^ 30),.str "", .str "a", .str "1", .tup [],.lst [],.dic [] [],.lst [.tup []],.tup [.tup []],.tup [.int 0],.lst [.int 0],.dic [nZ 0] [.int 1],.tup [.bl true,.bl true]]
theorem wL (h:Pot p S) (q:∀ t d S',Dr p S S'->TD p S' t d->t ∈ FE->Q d S'):Ok (evC af (k+2) jZ [.ref p] S) Q:=by
 refine aw (d:=kf) (ρ:=[some (.ref p),none]) rfl rfl ?_;dsimp only [kf,o7];k_is;refine ⟨⟨by decide,by decide,by decide⟩,?_⟩;have lt:=h.lt;have g0:=@ai S (Ob.lst []);have g1:=@ai (S++[Ob.lst []]) (Ob.dic [] []);have g2:=@ai (S++[Ob.lst []]++[Ob.dic [] []]) (Ob.lst [D.tup []]);have g3:=@ai (S++[Ob.lst []]++[Ob.dic [] []]++[Ob.lst [D.tup []]]) (Ob.lst [D.int 0]);have g4:=@ai (S++[Ob.lst []]++[Ob.dic [] []]++[Ob.lst [D.tup []]]++[Ob.lst [D.int 0]]) (Ob.dic [nZ 0] [D.int 1]);have n0:Zb S ≠ p:=by omega
 have n1:Zb (S++[Ob.lst []]) ≠ p:=by simp;omega
 have n2:Zb (S++[Ob.lst []]++[Ob.dic [] []]) ≠ p:=by simp;omega
 have n3:Zb (S++[Ob.lst []]++[Ob.dic [] []]++[Ob.lst [D.tup []]]) ≠ p:=by simp;omega
 have n4:Zb (S++[Ob.lst []]++[Ob.dic [] []]++[Ob.lst [D.tup []]]++[Ob.lst [D.int 0]]) ≠ p:=by simp;omega
 have n5:Zb (S++[Ob.lst []]++[Ob.dic [] []]++[Ob.lst [D.tup []]]++[Ob.lst [D.int 0]]++[Ob.dic [nZ 0] [D.int 1]]) ≠ p:=by simp;omega
 have s1:=Sm.app S [Ob.lst []];have s2:=Sm.app (S++[Ob.lst []]) [Ob.dic [] []];have s3:=Sm.app (S++[Ob.lst []]++[Ob.dic [] []]) [Ob.lst [D.tup []]];have s4:=Sm.app (S++[Ob.lst []]++[Ob.dic [] []]++[Ob.lst [D.tup []]]) [Ob.lst [D.int 0]];have s5:=Sm.app (S++[Ob.lst []]++[Ob.dic [] []]++[Ob.lst [D.tup []]]++[Ob.lst [D.int 0]]) [Ob.dic [nZ 0] [D.int 1]];generalize hE:(S++[Ob.lst []]++[Ob.dic [] []]++[Ob.lst [D.tup []]]++[Ob.lst [D.int 0]]++[Ob.dic [nZ 0] [D.int 1]])=E at *;have s6:=fun o=>Sm.app E [o];have g5:=fun o=>@ai E o;generalize Zb (S++[Ob.lst []]++[Ob.dic [] []]++[Ob.lst [D.tup []]]++[Ob.lst [D.int 0]])=i4 at *;generalize Zb (S++[Ob.lst []]++[Ob.dic [] []]++[Ob.lst [D.tup []]])=i3 at *;generalize Zb (S++[Ob.lst []]++[Ob.dic [] []])=i2 at *;generalize Zb (S++[Ob.lst []])=i1 at *
 have td:∀ o,TDs p (E++[o]) FE [D.non,D.bl true,D.bl false,D.int (-1),D.int (10 ^ Int.toNat 30),D.str (Str.ofString ""),D.str (Str.ofString "a"),D.str (Str.ofString "1"),D.tup [],D.ref (Zb S),D.ref i1,D.ref i2,D.tup [D.tup []],D.tup [D.int 0],D.ref i3,D.ref i4,D.tup [D.bl true,D.bl true]]:=fun o=>by
  refine ac AU (ac nv (ac nv (ac bK (ac bK (ac uK (ac uK (ac uK (ac (bv aE) (ac (fu n0 (s6 o _ _ (s5 _ _ (s4 _ _ (s3 _ _ (s2 _ _ g0))))) aE) (ac (A0 n1 (s6 o _ _ (s5 _ _ (s4 _ _ (s3 _ _ g1)))) aE) (ac (fu n2 (s6 o _ _ (s5 _ _ (s4 _ _ g2))) (ac (bv aE) aE)) (ac (bv (ac (bv aE) aE)) (ac (bv (ac bK aE)) (ac (fu n3 (s6 o _ _ (s5 _ _ g3)) (ac bK aE)) (ac (A0 n4 (s6 o _ _ g4) (ac bK aE)) (ac (bv (ac nv (ac nv aE))) aE))))))))))))))))
 have d0:∀ o,Dr p S (E++[o]):=fun o=>Dr.sm h ((((s1.trans s2).trans s3).trans s4).trans (s5.trans (s6 o)));generalize [D.non,D.bl true,D.bl false,D.int (-1),D.int (10 ^ Int.toNat 30),D.str (Str.ofString ""),D.str (Str.ofString "a"),D.str (Str.ofString "1"),D.tup [],D.ref (Zb S),D.ref i1,D.ref i2,D.tup [D.tup []],D.tup [D.int 0],D.ref i3,D.ref i4,D.tup [D.bl true,D.bl true]]=L at *;have ll:L.length=17:=(td (Ob.lst [])).len;have lq:au ce (D.ref (Zb E)) (E++[Ob.lst L])=some (.int 17,E++[Ob.lst L]):=by simp only [au,aj,ak (g5 _),Zp,ce,ll];rfl
 k_is;refine aa lq ?_;k_is;refine ⟨rfl,ao (d0 _).pot (by decide) (by decide) fun r S1 r1 r2 d1=>?_⟩;obtain ⟨n,rfl⟩:∃ n:Nat,r=(n:Int):=⟨r.toNat,by omega⟩;have a1:=d1.kp _ _ n5 (g5 (Ob.lst L));have hn:n < FE.length:=by show n < 17;omega
 obtain ⟨d,e1,tdn⟩:=((td (Ob.lst L)).keep d1.kp).get (gEG hn);have ix:ixS (.ref (Zb E)) (.int (n:Int)) S1=some (d,S1):=by simp only [ixS,aj,ak a1,Zp,Ev.pF e1]
 refine aa ix ?_;k_is;exact q _ _ _ ((d0 _).trans d1) tdn (ZG hn)
noncomputable def Sh (t:Dw.D):Prop:=∀ us,t = .lst us->us.length<=20
theorem Lj:∀ t ∈ FE,Sh t:=by
 intro t ht us e;subst e;simp only [FE,Zk,Z4,or_false,reduceCtorEq,false_or] at ht;rcases ht with e | e | e <;> cases e <;> decide
theorem GA:∀ {P:List (Nat × (Int × Int))},(∀ z ∈ P,z.1 ≠ p/\S[z.1]?=some (.lst [D.int z.2.1,D.int z.2.2]))->TDs p S (P.map fun z=>Dw.D.lst [.int z.2.1,.int z.2.2]) (P.map fun z=>D.ref z.1)
 | [],_=>aE
 | z::P,h=>by
  obtain ⟨h1,h2⟩:=h z Zg;exact ac (fu h1 h2 (ac bK (ac bK aE))) (GA fun y hy=>h y (Ze _ hy))
theorem GC:∀ (L:List (Int × Int)),TDs p S (L.map fun z=>Dw.D.tup [.int z.1,.bl true]) (L.map fun z=>D.tup [.int z.1,.bl true])
 | []=>aE
 | z::L=>ac (bv (ac bK (ac nv aE))) (GC L)
theorem yB (h:Pot p S) {N:Nat} {L:List (Int × Int)} (nN:N ≠ p) (hN:S[N]?=some (.lst (L.map ab))) (lL:L.length<=12) (q:∀ No ds ts S',Dr p S S'->S'[No]?=some (.lst ds)->No ≠ p->TDs p S' ts ds->ds.length<=100->(∀ t ∈ ts,Sh t)->Q (.ref No) S'):Ok (evC af (k+3) jy [.ref p,.ref N] S) Q:=by
 refine aw (d:=fo) (ρ:=[some (.ref p),some (.ref N),none]) rfl rfl ?_;dsimp only [fo,jF];k_is;refine aa (gV hN) ?_;k_is;refine ⟨by rw [ak hN];rfl,?_⟩;have lt:=h.lt;have lm:(L.map ab).length=L.length:=Za _;refine ek L.length (fun i=>((L.map ab)[i]?).getD .non) (fun i acc S'=>Sm S S'/\∃ P:List (Nat × (Int × Int)),acc=(P.map fun z=>D.ref z.1)/\P.map (·.2)=L.take i/\∀ z ∈ P,z.1 ≠ p/\S'[z.1]?=some (.lst [D.int z.2.1,D.int z.2.2])) (fun i acc S' hi ⟨sm,_⟩=>by rw [<-lm];exact iU (sm _ _ hN) _ nI) (by omega) (fun i acc S1 hi ⟨s1,P,ea,eP,hP⟩=>?_) (fun es S1 ⟨s1,P,ea,eP,hP⟩=>?_) ⟨Sm.refl _,[],rfl,rfl,fun z hz=>by cases hz⟩
 ·have hz:L[i]?=some L[i]:=gEG hi;have ez:((L.map ab)[i]?).getD .non = .tup [.int L[i].1,.int L[i].2]:=by rw [Zl,hz];rfl
  rw [ez];refine ⟨_,rfl,?_⟩;k_is;rw [show aj (.tup [D.int L[i].1,.int L[i].2]) S1=some (true,[D.int L[i].1,.int L[i].2]) from rfl];show Ok (some ([D.int L[i].1,.int L[i].2],S1)) _;rw [al];have lt1:=(Dr.sm h s1).pot.lt;refine ⟨s1.trans (Sm.app _ _),P++[(Zb S1,L[i])],by rw [ea,ZB];rfl,by rw [ZB,eP,Zz hi];rfl,fun z hz=>?_⟩;rcases ZK.mp hz with hz | hz
  ·exact ⟨(hP z hz).1,Sm.app _ _ _ _ (hP z hz).2⟩
  ·rw [ZM.mp hz];exact ⟨by show Zb S1 ≠ p;omega,ai⟩
 ·subst ea;rw [Yo] at eP;have lP:P.length=L.length:=by rw [<-eP,Za]
  refine ⟨by rw [Za];omega,?_⟩;k_is;have lt1:=(Dr.sm h s1).pot.lt;have d2:Dr p S (S1++[Ob.lst (P.map fun z=>D.ref z.1)]):=Dr.sm h (s1.trans (Sm.app _ _));have tA:TD p (S1++[Ob.lst (P.map fun z=>D.ref z.1)]) (.lst (P.map fun z=>Dw.D.lst [.int z.2.1,.int z.2.2])) (.ref (Zb S1)):=fu (by omega) ai (GA fun z hz=>⟨(hP z hz).1,Sm.app _ _ _ _ (hP z hz).2⟩);generalize S1++[Ob.lst (P.map fun z=>D.ref z.1)]=S2 at *;generalize Zb S1=NA at *;refine ⟨rfl,wL (k:=k) d2.pot fun t1 e1 S3 d3 td1 o1=>?_⟩;refine ⟨rfl,wL (k:=k) d3.pot fun t2 e2 S4 d4 td2 o2=>?_⟩;k_is;have lt4:=d4.pot.lt;have d5:Dr p S4 (S4++[Ob.lst [e2]]):=Dr.sm d4.pot (Sm.app _ _);have tB:TD p (S4++[Ob.lst [e2]]) (.lst [t2]) (.ref (Zb S4)):=fu (by omega) ai (ac (td2.keep d5.kp) aE);generalize S4++[Ob.lst [e2]]=S5 at *;generalize Zb S4=NB at *;have lt5:=d5.pot.lt;have d25:=(d3.trans d4).trans d5;have d35:=d4.trans d5;have T4:∀ S',Dr p S5 S'->TDs p S' [.tup (L.map Dw.aX),.lst (P.map fun z=>Dw.D.lst [.int z.2.1,.int z.2.2]),t1,.lst [t2]] [.tup (L.map ab),.ref NA,e1,.ref NB]:=fun S' d'=>ac (bv (gA L)) (ac (tA.keep (d25.trans d').kp) (ac (td1.keep (d35.trans d').kp) (ac (tB.keep d'.kp) aE)));have d6:Dr p S5 (S5++[Ob.lst [.tup (L.map ab),.ref NA,e1,.ref NB]]):=Dr.sm d5.pot (Sm.app _ _);have a6:(S5++[Ob.lst [.tup (L.map ab),.ref NA,e1,.ref NB]])[Zb S5]?=some (.lst [.tup (L.map ab),.ref NA,e1,.ref NB]):=ai;have n6:Zb S5 ≠ p:=by omega
  have l6:S.length<=Zb S5:=Kp.len ((d2.trans d25)).kp lt5;generalize S5++[Ob.lst [.tup (L.map ab),.ref NA,e1,.ref NB]]=S6 at *;generalize hNo:Zb S5=No at *;have d06:=(d2.trans d25).trans d6;refine ⟨dz a6,?_⟩;have h6:=d06.kp _ _ nN hN;k_is;refine ⟨by rw [ak h6];rfl,?_⟩;refine bB L ab (fun z=>[.tup [.int z.1,.bl true]]) (by omega) (fun _ _=>Zd _) (cI h6) (fun i y S' hy sm=>⟨_,show ay (.tup [.name 3,.name 4]) (.tup [.int y.1,.int y.2]) _=_ from ci (by simp) (by simp),?_⟩) fun S7 s7=>?_
  ·k_is;exact ⟨rfl,Sm.refl _⟩
  rw [bA];k_is;have s8:Sm S7 (S7++[Ob.lst (L.map fun z=>D.tup [.int z.1,.bl true])]):=Sm.app _ _;have s9:Sm (S7++[Ob.lst (L.map fun z=>D.tup [.int z.1,.bl true])]) (S7++[Ob.lst (L.map fun z=>D.tup [.int z.1,.bl true])]++[Ob.lst [.tup [.bl false,.int 3]]]):=Sm.app _ _;refine aa (gU (s9 _ _ ai) ai (by rw [Za,ZI];omega)) ?_;have s69:=(s7.trans s8).trans s9;generalize S7++[Ob.lst (L.map fun z=>D.tup [.int z.1,.bl true])]++[Ob.lst [.tup [.bl false,.int 3]]]=S9 at *;have d9:=Dr.sm d6.pot s69;have lt9:=d9.pot.lt;have dA:Dr p S6 (S9++[Ob.lst ((L.map fun z=>D.tup [.int z.1,.bl true])++[.tup [.bl false,.int 3]])]):=d9.thenSm (Sm.app _ _);have aC:(S9++[Ob.lst ((L.map fun z=>D.tup [.int z.1,.bl true])++[.tup [.bl false,.int 3]])])[Zb S9]?=some (.lst ((L.map fun z=>D.tup [.int z.1,.bl true])++[.tup [.bl false,.int 3]])):=ai;have nC:Zb S9 ≠ p:=by omega
  have aA:=dA.kp _ _ n6 a6;have lNo:No < S6.length:=(Zc.mp a6).1;have l69:S6.length<=S9.length:=Kp.len d9.kp lt9;generalize S9++[Ob.lst ((L.map fun z=>D.tup [.int z.1,.bl true])++[.tup [.bl false,.int 3]])]=SA at *;have nNC:Zb S9 ≠ No:=by omega
  generalize Zb S9=NC at *;k_is;rw [qE aA (by show 4 < 100000;decide)];k_is;have ltA:No < SA.length:=(Zc.mp aA).1;have aB:(SA.set No (.lst ([.tup (L.map ab),.ref NA,e1,.ref NB]++[.ref NC])))[No]?=some (.lst ([.tup (L.map ab),.ref NA,e1,.ref NB]++[.ref NC])):=ft ltA;have aCB:(SA.set No (.lst ([.tup (L.map ab),.ref NA,e1,.ref NB]++[.ref NC])))[NC]?=some (.lst ((L.map fun z=>D.tup [.int z.1,.bl true])++[.tup [.bl false,.int 3]])):=by rw [ZJ (Ne.symm nNC)];exact aC
  have dB0:Dr p S (SA.set No (.lst ([.tup (L.map ab),.ref NA,e1,.ref NB]++[.ref NC]))):=⟨(d06.trans dA).kp.setNew l6,dA.pot.setNe n6⟩;have dB5:Dr p S5 (SA.set No (.lst ([.tup (L.map ab),.ref NA,e1,.ref NB]++[.ref NC]))):=⟨(d6.trans dA).kp.setNew (by omega),dA.pot.setNe n6⟩;generalize SA.set No (.lst ([.tup (L.map ab),.ref NA,e1,.ref NB]++[.ref NC]))=SB at *;have hB:=dB0.kp _ _ nN hN;refine ⟨dz aB,?_⟩;have sC:Sm SB (SB++[Ob.lst [.tup [.int 0]]]):=Sm.app _ _;refine aa (gU (sC _ _ hB) ai (by rw [Za,ZI];omega)) ?_;have ltB:=dB0.pot.lt;have lBn:No < SB.length:=(Zc.mp aB).1;have sD:Sm SB (SB++[Ob.lst [.tup [.int 0]]]++[Ob.lst (L.map ab++[.tup [.int 0]])]):=sC.trans (Sm.app _ _);have aF:(SB++[Ob.lst [.tup [.int 0]]]++[Ob.lst (L.map ab++[.tup [.int 0]])])[Zb (SB++[Ob.lst [.tup [.int 0]]])]?=some (.lst (L.map ab++[.tup [.int 0]])):=ai;have nF:Zb (SB++[Ob.lst [.tup [.int 0]]]) ≠ No/\Zb (SB++[Ob.lst [.tup [.int 0]]]) ≠ p:=by rw [Zr];omega
  generalize SB++[Ob.lst [.tup [.int 0]]]++[Ob.lst (L.map ab++[.tup [.int 0]])]=SD at *;generalize Zb (SB++[Ob.lst [.tup [.int 0]]])=NF at *;k_is;rw [qE (sD _ _ aB) (by show 5 < 100000;decide)];k_is;have dE:Dr p S (SD.set No (.lst ([.tup (L.map ab),.ref NA,e1,.ref NB]++[.ref NC]++[.ref NF]))):=⟨(dB0.thenSm sD).kp.setNew l6,(dB0.thenSm sD).pot.setNe n6⟩;have dE5:Dr p S5 (SD.set No (.lst ([.tup (L.map ab),.ref NA,e1,.ref NB]++[.ref NC]++[.ref NF]))):=⟨(dB5.thenSm sD).kp.setNew (by omega),(dB5.thenSm sD).pot.setNe n6⟩;have ltD:No < SD.length:=(Zc.mp (sD _ _ aB)).1;refine q No _ ([.tup (L.map Dw.aX),.lst (P.map fun z=>Dw.D.lst [.int z.2.1,.int z.2.2]),t1,.lst [t2]]++[.lst ((L.map fun z=>Dw.D.tup [.int z.1,.bl true])++[.tup [.bl false,.int 3]])]++[.lst (L.map Dw.aX++[.tup [.int 0]])]) _ dE (ft ltD) n6 ?_ (by show 6<=100;decide) fun t ht=>?_
  ·refine ((T4 _ dE5).app (ac (fu nC (by rw [ZJ (Ne.symm nNC)];exact sD _ _ aCB) ((GC L).app (ac (bv (ac nv (ac bK aE))) aE))) aE)).app (ac (fu nF.2 (by rw [ZJ (Ne.symm nF.1)];exact aF) ((gA L).app (ac (bv (ac bK aE)) aE))) aE)
  ·simp only [List.cons_append,Y2,Zk,Z4,or_false] at ht;rcases ht with rfl | rfl | rfl | rfl | rfl | rfl
   ·intro us e;cases e
   ·intro us e;cases e;rw [Za];omega
   ·exact Lj _ o1
   ·intro us e;cases e;show 1<=20;decide
   ·intro us e;cases e;rw [Zr,Za,ZI];omega
   ·intro us e;cases e;rw [Zr,Za,ZI];omega
end Lw
namespace Lw
open PySem Ev L2
variable {p:Nat} {S:Sto} {k:Nat} {Q:D->Sto->Prop}
mutual
noncomputable def cj:Dw.D->Bool
 | .non=>true
 | .int i=>decide (i.natAbs < 10 ^ 20)
 | .tup ts=>fB ts
 | _=>false
noncomputable def fB:List Dw.D->Bool
 | []=>true
 | t::ts=>cj t && fB ts
end
theorem nP:∀ {ts:List Dw.D},(∀ t ∈ ts,cj t=true)->fB ts=true
 | [],_=>by rw [fB]
 | t::ts,h=>by rw [fB,h t Zg,nP fun t' ht'=>h t' (Ze _ ht')];rfl
theorem kW:∀ {ts:List Dw.D},fB ts=true->∀ t ∈ ts,cj t=true
 | t::ts,h,t',ht=>by
  rw [fB,bAE] at h;rcases Zk.mp ht with rfl | ht
  ·exact h.1
  ·exact kW h.2 t' ht
structure PF (n:Nat) (t:Dw.D):Prop where
 pl:cj t=true
 de:Dw.dep t<=n
 wi:Dw.wid t<=8
theorem PF.tup {n:Nat} {ts:List Dw.D} (hl:ts.length<=8) (h:∀ t ∈ ts,PF n t):PF (n+1) (.tup ts):=by
 have f:=Dw.Fit.tup (n:=n) (m:=8) hl fun t ht=>⟨(h t ht).de,(h t ht).wi⟩;exact ⟨by rw [cj];exact nP fun t ht=>(h t ht).pl,f.de,f.wi⟩
theorem PF.up {n m:Nat} {t:Dw.D} (h:PF n t) (hm:n<=m):PF m t:=⟨h.pl,Zv h.de hm,h.wi⟩
theorem nQ {n:Nat} {i:Int} (h:i.natAbs < 10 ^ 20):PF n (.int i):=⟨by rw [cj];exact decide_eq_true h,by simp [Dw.dep],by simp [Dw.wid]⟩
theorem Lk {n:Nat}:PF n .non:=⟨by rw [cj],by simp [Dw.dep],by simp [Dw.wid]⟩
noncomputable def cB:Nat->Nat
 | 0=>60
 | n+1=>8 * (cB n+2)+4
theorem B3 {c:Nat}:∀ {ts:List Dw.D},(∀ t ∈ ts,Dw.sz t<=c)->Dw.szL ts<=ts.length * (c+2)
 | [],_=>by simp [Dw.szL]
 | t::ts,h=>by
  have h1:=h t Zg;have h2:=B3 (ts:=ts) fun t' ht'=>h t' (Ze _ ht');rw [Dw.szL,ZA,Xl];omega
theorem B4:∀ n,60<=cB n
 | 0=>Zd _
 | n+1=>by have:=B4 n;rw [cB];omega
theorem GD:∀ (n:Nat) {t:Dw.D},PF n t->Dw.Bd (10 ^ 31) (cB n) t
 | n,.non,h=>⟨by simp only [Dw.bnd],by rw [Dw.sz];have:=B4 n;omega⟩
 | n,.int i,h=>⟨by
   have:=h.pl;rw [cj] at this;have:=of_decide_eq_true this;simp only [Dw.bnd];omega,by rw [Dw.sz];exact B4 n⟩
 | 0,.tup ts,h=>by have:=h.de;rw [Dw.dep] at this;omega
 | n+1,.tup ts,h=>by
  have hpl:=h.pl;rw [cj] at hpl;have f:Dw.Fit (n+1) 8 (.tup ts):=⟨h.de,h.wi⟩;have each:∀ t ∈ ts,Dw.Bd (10 ^ 31) (cB n) t:=fun t ht=>GD n ⟨kW hpl t ht,(f.mem ht).de,(f.mem ht).wi⟩;have l8:=f.len;refine Dw.HA (fun t ht=>(each t ht).bn) ?_;have:=B3 (c:=cB n) fun t ht=>(each t ht).sz;have h2:ts.length * (cB n+2)<=8 * (cB n+2):=Nat.mul_le_mul_right _ l8;rw [cB];omega
 | n,.bl _,h=>by have:=h.pl;simp [cj] at this
 | n,.str _,h=>by have:=h.pl;simp [cj] at this
 | n,.lst _,h=>by have:=h.pl;simp [cj] at this
 | n,.dic _ _,h=>by have:=h.pl;simp [cj] at this
structure Shw (t:Dw.D):Prop where
 sh:Dw.Shn t
 de:Dw.dep t<=50
 wi:Dw.wid t<=1000
theorem B5 {n m B s:Nat} {t:Dw.D} (f:Dw.Fit n m t) (b:Dw.Bd B s t) (hn:n<=50) (hm:m<=1000) (hB:B<=10 ^ 50) (hs:s<=16000000):Shw t:=
 ⟨b.shn hB (by rw [sizeLine_eq];omega) (Zv f.de (by omega)),Zv f.de hn,Zv f.wi hm⟩
theorem Ll {t:Dw.D} (h:PF 4 t):Shw t:=B5 (n:=4) (m:=8) ⟨h.de,h.wi⟩ (GD 4 h) (by decide) (by decide) (by decide) (by decide)
mutual
theorem wM {S:Sto}:∀ (n:Nat) {t:Dw.D} {d:D},Dw.dep t < n->TD p S t d->cy n S d=some t
 | n+1,.non,_,_,h=>by rw [h.non];simp only [cy]
 | n+1,.bl _,_,_,h=>by rw [h.bl];simp only [cy]
 | n+1,.int _,_,_,h=>by rw [h.int];simp only [cy]
 | n+1,.str _,_,_,h=>by rw [h.str];simp only [cy]
 | n+1,.tup ts,_,hd,h=>by
  obtain ⟨ds,rfl,q⟩:=h.tup;rw [Dw.dep] at hd;simp only [cy,jJ n (by omega) q,Zp]
 | n+1,.lst ts,_,hd,h=>by
  rw [TD] at h;obtain ⟨m,ds,rfl,_,e,q⟩:=h;rw [Dw.dep] at hd;simp only [cy,e,jJ n (by omega) q,Zp]
 | n+1,.dic ks ts,_,hd,h=>by
  rw [TD] at h;obtain ⟨m,ds,rfl,_,e,q⟩:=h;rw [Dw.dep] at hd;simp only [cy,e,jJ n (by omega) q,Zp]
theorem jJ {S:Sto}:∀ (n:Nat) {ts:List Dw.D} {ds:List D},Dw.i7 ts < n->TDs p S ts ds->ca (cy n S) ds=some ts
 | n,[],_,_,h=>by rw [h.nil];simp only [ca]
 | n,t::ts,_,hd,h=>by
  obtain ⟨d,r,rfl,a,q⟩:=h.cons;rw [Dw.i7] at hd;simp only [ca,wM n (by omega) a,jJ n (by omega) q]
end
theorem wN {t:Dw.D} {d:D} (h:TD p S t d) (s:Shw t):ji d S=some (.str (Dw.aQ t).shown,S):=by
 unfold ji;rw [wM 100 (by have:=s.de;omega) h];dsimp only;rw [if_pos s.sh]
theorem lQ (x y:Str) (S:Sto):av .ne (.str x) (.str y) S=some (.bl (!(x == y)),S):=by
 simp only [av,neS];have:eqD 60 S (.str x) (.str y)=some (x == y):=rfl;rw [this];rfl
end Lw
namespace Lw
open PySem Ev Sn L2
variable {p:Nat} {S S':Sto} {k:Nat} {Q:D->Sto->Prop} {K:Sky}
theorem qP {l:List Int} (h:∀ x ∈ l,0<=x/\x<=9999) (hl:l.length<=8):PF 1 (.tup (l.map Dw.D.int)):=PF.tup (n:=0) (by rw [Za];exact hl) fun t ht=>by
 obtain ⟨x,hx,rfl⟩:=ZD.mp ht;exact nQ (by have:=h x hx;omega)
theorem Lm (h:SkOk K):PF 4 (skT K):=by
 have g7:=h.g7;have m4:=h.me.m4;have h4:=h.me.h4;have r8:=h.me.r8;have r0:=h.me.r0;have s60:=h.me.s60;have s0:=h.me.s0
 have rowM:PF 2 (.tup (Dw.cx K.M)):=PF.tup (by unfold Dw.cx;rw [Za];omega) fun t ht=>by
  unfold Dw.cx at ht;obtain ⟨r,hr,rfl⟩:=ZD.mp ht;exact qP (fun x hx=>by have:=h.me.mat.ent r hr x hx;omega) (by rw [h.me.mat.row r hr];omega)
 have rowG:PF 2 (.tup (Dw.cx K.G)):=PF.tup (by unfold Dw.cx;rw [Za];omega) fun t ht=>by
  unfold Dw.cx at ht;obtain ⟨r,hr,rfl⟩:=ZD.mp ht;obtain ⟨kd,jo,fi,la,du,we,ri,rfl,hb⟩:=h.gb r hr;refine qP (fun x hx=>?_) (by simp);simp only [Zk,Z4,or_false] at hx;omega
 have rowH:PF 2 (.tup (K.H.map Dw.aX)):=PF.tup (by rw [Za];omega) fun t ht=>by
  obtain ⟨z,hz,rfl⟩:=ZD.mp ht;have a:=lO h.me.ris hz;have b:=h.me.hb z hz;refine PF.tup (n:=0) (by simp) fun t ht=>?_;simp only [Zk,Z4,or_false] at ht;rcases ht with rfl | rfl <;> exact nQ (by omega)
 have fxs:PF 1 (.tup (K.F.map Dw.D.int)):=by
  refine qP (fun x hx=>by have:=h.bd x hx;omega) ?_;have:=Dw.cr K.G.length K.F h.nd h.bd;omega
 have ah:PF 1 (ahT K.ah):=by
  cases hq:K.ah with
  | none=>exact Lk
  | some z=>
   have:=h.ah z hq;refine PF.tup (n:=0) (by simp) fun t ht=>?_;simp only [Zk,Z4,or_false] at ht;rcases ht with rfl | rfl <;> exact nQ (by omega)
 refine PF.tup (n:=3) (by simp) fun t ht=>?_;simp only [Zk,Z4,or_false] at ht;rcases ht with rfl | rfl | rfl | rfl
 ·refine PF.tup (n:=2) (by simp) fun t ht=>?_;simp only [Zk,Z4,or_false] at ht;rcases ht with rfl | rfl | rfl | rfl
  ·exact nQ (by omega)
  ·exact nQ (by omega)
  ·exact rowM
  ·exact rowH
 ·exact ah.up (by decide)
 ·exact rowG.up (by decide)
 ·exact fxs.up (by decide)
theorem GF:∀ (L R:List (Int × Int)),∃ b,eqL (eqD 59 S) (L.map ab) (R.map ab)=some b/\(L=R->b=true)
 | [],[]=>⟨true,rfl,fun _=>rfl⟩
 | [],q::R=>⟨false,rfl,fun z=>by cases z⟩
 | p::L,[]=>⟨false,rfl,fun z=>by cases z⟩
 | p::L,q::R=>by
  obtain ⟨b,e,h⟩:=GF L R;have e1:eqD 59 S (ab p) (ab q)=some ((p.1 == q.1) && ((p.2 == q.2) && true)):=rfl;refine ⟨((p.1 == q.1) && ((p.2 == q.2) && true)) && b,by rw [Zt,Zt,eqL,e1,e],fun z=>?_⟩;cases z;rw [h rfl,beq_self_eq_true,beq_self_eq_true];rfl
theorem Ln (b:Bool):Shw (.bl b):=B5 (n:=2) (m:=8) (B:=10 ^ 31) (s:=100) ⟨by simp [Dw.dep],by simp [Dw.wid]⟩ (by constructor <;> cases b <;> simp [Dw.bnd,Dw.sz]) (by decide) (by decide) (by decide) (by decide)
theorem nR (b:Bool) (S:Sto):ji (.bl b) S=some (.str (Dw.aQ (.bl b)).shown,S):=wN (p:=0) nv (Ln b)
theorem wP (h:SkOk K) (S:Sto):ji (skE K) S=some (.str (Dw.aQ (skT K)).shown,S):=wN (p:=0) Gy (Ll (Lm h))
theorem B6 {a b:Nat} {L:List (Int × Int)} (ha:S[a]?=some (.lst (L.map ab))) (hb:S[b]?=some (.lst (L.map ab))):av .ne (.ref a) (.ref b) S=some (.bl false,S):=by
 have:eqD 60 S (.ref a) (.ref b)=some true:=by
  show (match am S a,am S b with
   | some xs,some ys=>if a=b then some true else if xs.length=ys.length then eqL (eqD 59 S) xs ys else some false
   | _,_=>none)=some true
  rw [ak ha,ak hb];dsimp only;split
  ·rfl
  ·rw [if_pos rfl];obtain ⟨c,e,h⟩:=GF (S:=S) L L;rw [e,h rfl]
 simp only [av,neS];rw [this];rfl
theorem sZ {L:List (Int × Int)}:FA K (.lst (L.map Dw.aX)) ↔ Fine K L:=by
 constructor
 ·rintro ⟨L',e,f⟩;have e':L.map Dw.aX=L'.map Dw.aX:=by injection e
  rw [kl e'];exact f
 ·exact fun f=>⟨L,rfl,f⟩
theorem FF {n:Nat} {xs:List D} (hn:S[n]?=some (.lst xs)) (hl:xs.length<=10):bL .mul (.ref n) (.int 4) S=some (.ref (Zb S),S++[.lst (Zo 4 xs).flatten]):=by
 simp only [bL,qb,hn];rw [if_pos ⟨by decide,by show xs.length * 4<=1000;omega,by decide⟩];rfl
theorem Lnd.keep {m:Nat} {d:D} (h:Lnd p S m K d) (k:Ev.Kp p S S'):Lnd p S' m K d:=by
 obtain ⟨N,L,e,n,a,l⟩:=h;exact ⟨N,L,e,n,k _ _ n a,l⟩
theorem Lnd.up {m m':Nat} {d:D} (h:Lnd p S m K d) (k:m<=m'):Lnd p S m' K d:=by
 obtain ⟨N,L,e,n,a,l⟩:=h;exact ⟨N,L,e,n,a,Zv l k⟩
theorem B7 {P:Prop} {b c:Bool} (h1:b=true ↔ P) (h2:c=true ↔ P):b=c:=by rw [Z0,h1,h2]
noncomputable def wQ:List CS:=match sy with
 | .for_ _ _ b::_=>b
 | _=>[]
theorem B8 (L:List (Int × Int)):lsT (.lst (L.map Dw.aX))=true:=by
 show (L.map Dw.aX).all prT=true;rw [ZP,Zx];intro x _;rfl
theorem B9 {Qf:Fl->Rho->Sto->Prop} (h:Pot p S) (sk:SkOk K) {ik:D} {Nr:Nat} {ds:List D} {rt u7 u8 u9 u10 u11 u12:Option D} (hr:S[Nr]?=some (.lst ds)) (nr:Nr ≠ p) (h1:1<=ds.length) (hl:ds.length<=100) (hd:∀ d ∈ ds,Lnd p S 12 K d)
  (q:∀ u7 u8 u9 u10 u11 u12 S',Dr p S S'->Qf .nx [some (.ref 0),some ik,some (.ref p),some (skE K),some (.str (Dw.aQ (skT K)).shown),some (.ref Nr),rt,u7,u8,u9,u10,u11,u12] S') :
  rW (wSs (evC af 39) (hF af) 52 (wQ.drop 6)) [some (.ref 0),some ik,some (.ref p),some (skE K),some (.str (Dw.aQ (skT K)).shown),some (.ref Nr),rt,u7,u8,u9,u10,u11,u12] S Qf:=by
 dsimp only [wQ,sy,Yb];k_is;refine ⟨by rw [ak hr];rfl,?_⟩;refine sU (ds:=ds) (by omega) (fun i ρ S'=>Dr p S S'/\∃ u7 u8 u9 u10 u11,ρ=[some (.ref 0),some ik,some (.ref p),some (skE K),some (.str (Dw.aQ (skT K)).shown),some (.ref Nr),rt,u7,u8,u9,u10,u11,u12]) (fun i ρ S' iv=>iv.1.kp _ _ nr hr) (fun i d ρ S1 hdi ⟨d1,u7,u8,u9,u10,u11,er⟩=>?_) (fun ρ S1 ⟨d1,u7,u8,u9,u10,u11,er⟩=>?_) ⟨Dr.refl h,_,_,_,_,_,rfl⟩
 ·subst er;have ld:=(hd d (Zm hdi)).keep d1.kp;refine ⟨_,rfl,?_⟩;k_is;refine ⟨rfl,ao d1.pot (by decide) (by decide) fun c0 S2 c1 c2 d2=>?_⟩;k_is;refine ⟨fA (by omega) (by omega),?_⟩;refine fP (by omega) (fun t ρ S'=>Dr p S S'/\Ev.Kp p S1 S'/\∃ (e:D) (u9:Option D),ρ=[some (.ref 0),some ik,some (.ref p),some (skE K),some (.str (Dw.aQ (skT K)).shown),some (.ref Nr),rt,some d,some e,u9,u10,u11,u12]/\Lnd p S' (12+t) K e) (fun t ρ S3 ht ⟨d3,k3,e,u9,er,le⟩=>?_) (fun ρ S3 ⟨d3,k3,e,u9,er,le⟩=>?_) ⟨d1.trans d2,d2.kp,d,_,rfl,ld.keep d2.kp⟩
  ·subst er;obtain ⟨N,L,rfl,nN,hN,lL⟩:=le;refine ⟨_,rfl,?_⟩;k_is;refine ⟨rfl,yA (k:=37) d3.pot sk hN (by omega) fun d' S4 d4 ln=>?_⟩;k_is;exact ⟨d3.trans d4,k3.trans d4.kp,d',_,rfl,ln.up (by omega)⟩
  ·subst er;have le15:Lnd p S3 20 K e:=le.up (by omega);have ld3:Lnd p S3 20 K d:=(ld.keep k3).up (by decide);k_is;refine Gx (ds:=[d,e]) (by show 2<=100000;decide) (fun t ρ S'=>Dr p S3 S'/\∃ u10 u11,ρ=[some (.ref 0),some ik,some (.ref p),some (skE K),some (.str (Dw.aQ (skT K)).shown),some (.ref Nr),rt,some d,some e,u9,u10,u11,u12]) (fun t x ρ S4 hx ⟨d4,u10,u11,er⟩=>?_) (fun ρ S4 ⟨d4,u10,u11,er⟩=>?_) ⟨Dr.refl d3.pot,_,_,rfl⟩
   ·subst er
    have lx:Lnd p S4 20 K x:=by
     have hm:=Zm hx;simp only [Zk,Z4,or_false] at hm;rcases hm with rfl | rfl
     ·exact ld3.keep d4.kp
     ·exact le15.keep d4.kp
    obtain ⟨N,L,rfl,nN,hN,lL⟩:=lx;refine ⟨_,rfl,?_⟩;k_is;have it:aj (.ref N) S4=some (false,L.map ab):=by simp only [aj,ak hN,Zp]
    rw [it];show Ok (some (L.map ab,S4)) _;rw [al];k_is;have lt4:=d4.pot.lt;have s5:Sm S4 (S4++[Ob.lst (L.map ab)]):=Sm.app _ _;have a5:(S4++[Ob.lst (L.map ab)])[Zb S4]?=some (.lst (L.map ab)):=ai;have nh:Zb S4 ≠ p:=by omega
    generalize S4++[Ob.lst (L.map ab)]=S5 at *;generalize Zb S4=Nh at *;refine ⟨rfl,sW (k:=30) sk (fu nh a5 (gA L)) (fun us e=>by cases e;rw [Za];exact lL) fun b S6 s6 hb=>?_⟩;refine aa (nR b S6) ?_;have hN6:=s6 _ _ (s5 _ _ hN);refine ⟨rfl,gW (k:=36) sk hN6 lL fun dd S7 s7 hdd=>?_⟩;refine aa iW ?_;have eb:bF dd=b:=B7 (P:=Fine K L) (by rw [ki];exact hdd) (hb.trans sZ);rw [eb];refine aa (nR b S7) ?_;k_is;refine aa (lQ _ _ _) ?_;rw [beq_self_eq_true];k_is;refine aa (B6 (s7 _ _ (s6 _ _ a5)) (s7 _ _ hN6)) ?_;k_is;exact ⟨d4.thenSm ((s5.trans s6).trans s7),_,_,rfl⟩
   ·subst er;k_is;exact ⟨d3.trans d4,_,_,_,_,_,rfl⟩
 ·subst er;k_is;have hr1:=d1.kp _ _ nr hr;obtain ⟨d0,hd0⟩:∃ d0,ds[0]?=some d0:=⟨ds[0],gEG (by omega)⟩;refine aa (b8 (i:=0) hr1 (by decide) hd0) ?_;obtain ⟨N,L,rfl,nN,hN,lL⟩:=(hd d0 (Zm hd0)).keep d1.kp;refine ⟨rfl,yB (k:=36) d1.pot nN hN lL fun No es ts S2 d2 hNo nNo td l6 sh=>?_⟩;k_is;refine ⟨by rw [ak hNo];rfl,?_⟩;have le:=td.len;refine sU (ds:=es) (by omega) (fun i ρ S'=>Sm S2 S'/\∃ u12,ρ=[some (.ref 0),some ik,some (.ref p),some (skE K),some (.str (Dw.aQ (skT K)).shown),some (.ref Nr),rt,u7,u8,u9,u10,u11,u12]) (fun i ρ S' iv=>iv.1 _ _ hNo) (fun i x ρ S3 hx ⟨s3,u12,er⟩=>?_) (fun ρ S3 ⟨s3,u12,er⟩=>?_) ⟨Sm.refl _,_,rfl⟩
  ·subst er;have hi:i < ts.length:=by rw [<-le];exact (Zc.mp hx).1
   obtain ⟨x',hx',tx⟩:=td.get (gEG hi);rw [hx] at hx';cases hx';have shx:=sh ts[i] (ZG hi);revert tx shx;generalize ts[i]=t;intro tx shx;have tx3:=tx.keep s3.kp;refine ⟨_,rfl,?_⟩;k_is;refine ⟨rfl,sW (k:=30) sk tx3 shx fun b S4 s4 hb=>?_⟩;refine aa (nR b S4) ?_;have tx4:=tx3.keep s4.kp;refine ⟨rfl,Fz (k:=37) tx4 (fun us e=>by have:=shx us e;omega) ?_⟩;k_is;cases c:lsT t with
   | false=>
    have eb:b=false:=by
     cases b with
     | false=>rfl
     | true=>
      obtain ⟨L',e,_⟩:=hb.mp rfl;rw [e,B8] at c;cases c
    subst eb;k_is;refine aa (nR false S4) ?_;k_is;refine aa (lQ _ _ _) ?_;rw [beq_self_eq_true];k_is;exact ⟨s3.trans s4,_,rfl⟩
   | true=>
    k_is;cases t with
    | lst us=>
     obtain ⟨L',rfl⟩:=qO (show us.all prT=true from c);obtain ⟨n,vs,rfl,nn,hn,hs⟩:=TD.lst tx4;rw [kj hs] at hn;have l20:=shx _ rfl;rw [Za] at l20;refine ⟨rfl,gW (k:=36) sk hn l20 fun dd S5 s5 hdd=>?_⟩;refine aa iW ?_;have eb:bF dd=b:=B7 (P:=Fine K L') (by rw [ki];exact hdd) (hb.trans sZ);rw [eb];refine aa (nR b S5) ?_;k_is;refine aa (lQ _ _ _) ?_;rw [beq_self_eq_true];k_is;exact ⟨(s3.trans s4).trans s5,_,rfl⟩
    | _=>cases c
  ·subst er;k_is;refine aa (wP sk S3) ?_;k_is;refine aa (lQ _ _ _) ?_;rw [beq_self_eq_true];k_is;exact q _ _ _ _ _ _ S3 ((d1.trans d2).thenSm s3)
theorem main (ns:List Int) (hn:ns.length<=63):∃ S',evC af 40 wm [.ref 0] [.frz (ns.map D.int)]=some (.bl true,S'):=by
 have key:Ok (evC af (39+1) wm [.ref 0] [.frz (ns.map D.int)]) fun d _=>d = .bl true:=by
  refine aw (d:=wo) (ρ:=[some (.ref 0),none,none,none,none,none,none,none,none,none,none,none,none]) rfl rfl ?_;dsimp only [wo,sy];k_is;have lq:au ce (.ref 0) [Ob.frz (ns.map D.int)]=some (.int ns.length,[Ob.frz (ns.map D.int)]):=by simp only [au,aj,am,List.getElem?_cons_zero,Zp,ce,Za]
  refine aa lq ?_;k_is
  obtain ⟨c,hc,c8⟩:∃ c:Nat,(if (if (10:Int) < ns.length then (10:Int) else ns.length) > 1 then (if (10:Int) < ns.length then (10:Int) else ns.length) else 1)=(c:Int)/\c<=10:=by
   refine ⟨(if (if (10:Int) < ns.length then (10:Int) else ns.length) > 1 then (if (10:Int) < ns.length then (10:Int) else ns.length) else 1).toNat,?_,?_⟩
   ·split <;> split <;> omega
   ·split <;> split <;> omega
  rw [hc];refine ⟨fA (by omega) (by omega),?_⟩;rw [Zn];refine fP (by omega) (fun i ρ S'=>S'[0]?=some (Ob.frz (ns.map D.int))/\∃ a b c d e f g h j l m n,ρ=[some (.ref 0),a,b,c,d,e,f,g,h,j,l,m,n]) (fun i ρ S1 hi ⟨h0,a,b,c',d,e,f,g,h,j,l,m,n,er⟩=>?_) (fun ρ S1 ⟨h0,a,b,c',d,e,f,g,h,j,l,m,n,er⟩=>?_) ⟨rfl,none,none,none,none,none,none,none,none,none,none,none,none,rfl⟩
  ·subst er;refine ⟨_,rfl,?_⟩;k_is;rw [Yx];refine ⟨rfl,Fk (k:=38) h0 fun x=>?_⟩;refine ⟨rfl,Lh (k:=38) fun nn=>?_⟩;k_is;have pt:Pot (Zb S1) (S1++[Ob.lst [D.int nn]]):=⟨nn,ai⟩;have n0:0 ≠ Zb S1:=fun z=>by rw [Yn.mp z.symm] at h0;simp at h0
   have h1:(S1++[Ob.lst [D.int nn]])[0]?=some (Ob.frz (ns.map D.int)):=Sm.app _ _ _ _ h0;generalize S1++[Ob.lst [D.int nn]]=S2 at *;generalize Zb S1=p at *;refine ⟨rfl,Ft (k:=35) pt fun K S3 d3 sk g6=>?_⟩;k_is;have V:=sk.vd;refine aa (wP sk S3) ?_;k_is;refine ⟨by decide,?_⟩;refine qD (by decide) (fun i acc S'=>Dr p S2 S'/\acc.length=i/\∀ d ∈ acc,Lnd p S' 12 K d) (fun i acc S4 hi ⟨d4,la,ha⟩=>⟨_,rfl,?_⟩) (fun es S4 ⟨d4,la,ha⟩=>⟨by omega,?_⟩) ⟨d3,rfl,fun d hd=>by cases hd⟩
   ·k_is;refine ⟨rfl,pw (k:=36) d4.pot sk g6 fun os S5 d5 ho lo=>?_⟩;refine ⟨rfl,wK (k:=37) V ho (by omega) fun L N S6 s6 hN lN eL=>?_⟩;have lt5:=d5.pot.lt;have d46:=d5.thenSm s6;refine ⟨d4.trans d46,by rw [Zr,ZI];omega,fun d hd=>?_⟩;rcases ZK.mp hd with hd | hd
    ·exact (ha d hd).keep d46.kp
    ·rw [ZM.mp hd];exact ⟨N,L,rfl,by omega,hN,by have:=congrArg Zb eL;rw [Za] at this;omega⟩
   k_is;have lt4:=d4.pot.lt;have d5:Dr p S2 (S4++[Ob.lst es]):=d4.thenSm (Sm.app _ _);have a5:(S4++[Ob.lst es])[Zb S4]?=some (.lst es):=ai;have n5:Zb S4 ≠ p:=by omega
   have ha5:∀ d ∈ es,Lnd p (S4++[Ob.lst es]) 12 K d:=fun d hd=>(ha d hd).keep (Sm.app _ _).kp;generalize S4++[Ob.lst es]=S5 at *;generalize Zb S4=Nr at *;refine ⟨rfl,vh (k:=34) d5.pot sk g6 fun rt S6 d6 hrt=>?_⟩;k_is;refine aa cR ?_;k_is;have a6:=d6.kp _ _ n5 a5;have ha6:∀ d ∈ es,Lnd p S6 12 K d:=fun d hd=>(ha5 d hd).keep d6.kp;have d06:=d5.trans d6;have fin:=@B9 p;dsimp only [wQ,sy,Yb] at fin;rcases hrt with rfl | lrt
   ·rw [show bF .non=true from rfl];k_is;exact fin d06.pot sk a6 n5 (by omega) (by omega) ha6 fun u7 u8 u9 u10 u11 u12 S' d'=>⟨(d06.trans d').kp _ _ n0 h1,_,_,_,_,_,_,_,_,_,_,_,_,rfl⟩
   ·obtain ⟨N,L,rfl,nN,hN,lL⟩:=lrt;rw [show bF (.ref N)=false from rfl];k_is;have s7:Sm S6 (S6++[Ob.lst [D.ref N]]):=Sm.app _ _;refine aa (FF (n:=Zb S6) ai (by show 1<=10;decide)) ?_;have s8:Sm (S6++[Ob.lst [D.ref N]]) (S6++[Ob.lst [D.ref N]]++[Ob.lst (Zo 4 [D.ref N]).flatten]):=Sm.app _ _;refine aa (gU (s8 _ _ (s7 _ _ a6)) ai (by rw [la];show 3+4<=100000;decide)) ?_;k_is;have d8:Dr p S2 (S6++[Ob.lst [D.ref N]]++[Ob.lst (Zo 4 [D.ref N]).flatten]):=d06.thenSm (s7.trans s8);have lt8:=d8.pot.lt;have s9:Sm (S6++[Ob.lst [D.ref N]]++[Ob.lst (Zo 4 [D.ref N]).flatten]) (S6++[Ob.lst [D.ref N]]++[Ob.lst (Zo 4 [D.ref N]).flatten]++[Ob.lst (es++(Zo 4 [D.ref N]).flatten)]):=Sm.app _ _;have d9:=d8.thenSm s9;have s69:=(s7.trans s8).trans s9;refine fin d9.pot sk ai (by omega) (by rw [Zr];omega) (by rw [Zr,la];show 3+4<=100;decide) (fun d hd=>?_) fun u7 u8 u9 u10 u11 u12 S' d'=>⟨(d9.trans d').kp _ _ n0 h1,_,_,_,_,_,_,_,_,_,_,_,_,rfl⟩;rcases ZK.mp hd with hd | hd
    ·exact (ha6 d hd).keep s69.kp
    ·have:d = .ref N:=by
      have e:(Zo 4 [D.ref N]).flatten=[D.ref N,D.ref N,D.ref N,D.ref N]:=rfl;rw [e] at hd
      simpa using hd
     rw [this];exact ⟨N,L,rfl,nN,s69 _ _ hN,lL⟩
  ·subst er;k_is
 obtain ⟨d,S',e,rfl⟩:=key;exact ⟨S',e⟩
end Lw
theorem PySem.Challenge.cw_downrings_k11_landings_kept_holds : PySem.Challenge.rw_downrings_k11_landings_kept.Holds :=
 Lw.head Lw.main
