import PyProof.Rows.All
import KE.KIsAll
import KE.KItem
import PySem.Challenge.RW_downrings_k02_open_minutes
set_option Elab.async false
set_option linter.all false
set_option maxRecDepth 100000
set_option maxHeartbeats 4000000
open List renaming getElem?_eq_some_iff → Za, length_map → Zc, mem_cons_of_mem → Zd, mem_cons_self → Zf, getElem?_append_right → Zg, length_append → Zh, size_toArray → Zi, replicate → Zj, all_eq_true → Zk, range → Zm, getElem?_append_left → Zo, mem_of_getElem? → Zp, mem_cons → Zq, getElem?_map → Zt, mem_append → Zu, length → Zv, length_take → Zw, mem_append_right → Zx, map_cons → Zy, getElem?_set_self → ZC, length_cons → ZD, length_singleton → ZE, mem_singleton → ZF, length_range → ZG, getElem?_eq_none → ZH, lookup_cons → ZI, map_append → ZJ, getElem_mem → ZM, mem_range → ZO, getElem?_set_ne → ZP, contains_cons → ZR, append_nil → ZS, mem_flatMap → ZT, length_drop → ZV, mem_map → ZW, take_succ_eq_append_getElem → ZX, replicate_succ → ZY, prefix_refl → Z1, length_eq_zero_iff → Z3, nodup_cons → Z4, all_cons → Z5, getElem?_eq_none_iff → Z7, mem_append_left → Z9, flatten_cons → Yb, map_nil → Yc, getElem?_replicate → Ye, mem_filterMap → Yg, all_map → Yh, prefix_append → Yi, append_assoc → Yj, getElem?_set → Yk, getElem?_of_mem → Yl, not_mem_nil → Ym, any_cons → Yn, take_of_length_le → Yp, length_replicate → Yq, take_append_drop → Yr, getElem_inj → Ys, countP_cons → Yt, of_mem_zip → Yu, nil_append → Yv, range_succ → Yw, filterMap_cons → Yx, getElem?_range → Yz, foldl → YB, forIn_nil → YC, map_inj_left → YF, flatMap_cons → YG, set_comm → YH, getElem?_take_of_lt → YI, any_eq_true → YL, getElem?_cons_succ → YN, filter_cons → YO, length_set → YR, length_nil → YS, contains_iff_mem → YV, lookup → YW, mem_iff_getElem → YY, toList_toArray → Y0, flatMap_append → Y1, getElem_of_mem → Y2, replicate_zero → Y3, take_sublist → Y7, nodup_append → Xa, map_map → Xb, flatten_nil → Xf, drop → Xg, take_length → Xh, mem_filter → Xk, forIn_cons → Xl, nodup_nil → Xo, take_add → Xr, take_nil → Xs, drop_nil → Xu
open Bool renaming false_ne_true → Zb, false_and → ZQ, eq_iff_iff → ZZ, eq_false_iff → Z2, and_false → Z6, true_and → Yd, false_eq_true → YD, and_true → YJ, and_comm → YK, or_eq_true → YT, and_eq_true_iff → YZ, and_assoc → Xp, or_false → Xq, and_self → Xv
open Nat renaming le_refl → Ze, le_trans → Zr, lt_of_lt_of_le → Zs, ne_of_lt → ZA, lt_irrefl → ZK, sub_self → ZU, not_lt_zero → Z8, le_of_lt → YA, le_of_succ_le → YE, lt_succ_self → YM, le_succ → YX, ne_of_gt → Y6, succ_mul → Y8, mul_comm → Y9, succ_ne_self → Xd, le_max_right → Xe, succ_ne_zero → Xi, zero_le → Xj, le_max_left → Xm, log2_lt → Xw
open PySem.Heap renaming get?_push_of_some → Zl, lt_size → Zn, get?_push_size → ZB, size_push → Yo, get?_update_other → YQ, get?_update_self → YU
open Option renaming map_some → Zz, isSome_iff_exists → ZL, getD_some → Z0, getD_none → Xc, bind → Xx
open Int renaming toNat_natCast → ZN, emod_lt_of_pos → Y5, emod_nonneg → Xn, le_refl → Xy
open Array renaming length_toList → Yy, append_assoc → Y4
open PyProof.Rows renaming boot_enumerate → Xz, boot_isinstance → XB, boot_list → XC, boot_range → XD, boot_tuple → XF, callWith_type1 → XG, slot_tuple_getitem → XH
open PySem.Calls renaming Name_function_global → XJ, evalArgs_plain → XM
open PySem renaming Comprehension → XN, DictEntry → XQ, FuncData → X7, GenState → X8, NameKind → X9, Operator → Wa, Spec → Wt, assignEach → WR, assignInOrder → WT, behindInMarks → WU, binaryOp → WV, bindName → WW, bootBuiltins → WX, builtinsNs → WY, call_meets → WZ, call_repr_slot → W0, cellsFrom → W1, codeAny_call_builtin → W2, codeAny_call_function → W3, codeAny_mono → W4, compareOp → W5, concat_meets → W6, dictText_mem_le → W7, excClassObj → W8, foldedSetIterable → W9, importedModules → Va, letOwnedTupleGo → Vb, lookupAlong → Vc, mainGlobals → Vd, mem_of_lookup → Ve, newFunctionEnv → Vf, noFill_tuple_add → Vg, not_mem_of_deeper → Vh, pushCells → Vi, pushCells_keeps → Vj, rangeSize_one → Vk, seqIndex_neg → Vl, seqIndex_of → Vm, seqSlot_of → Vn, seq_tuple_add → Vo, sizeLine_eq → Vp, sliceBounds → Vq, starEach → Vr, strLen_append → Vs, swappedStores → Vt, swapsWith → Vu, swapsWithSole → Vv, sysModules → Vw, textFrom → Vx, treeTable → Vy, typeIs_int → Vz, typeLookup → VA, wpAny_Call_Name_kw → VB, wpAny_Return_some → VC, wpAny_binaryOp_repeat_ref → VE, wpAny_bind → VF, wpAny_bindName → VG, wpAny_call_entry → VH, wpAny_comprehension_free → VI, wpAny_execs_cons → VJ, wpAny_execs_nil → VL, wpAny_field → VM, wpAny_holding → VN, wpAny_isSubtype_exc → VO, wpAny_ite_false → VP, wpAny_letOwnedTupleGo_enum → VQ, wpAny_loadPart' → VR, wpAny_loadPart_at → VS, wpAny_mono → VT, wpAny_newFunctionEnv_cells → VU, wpAny_newObj_type → VW, wpAny_passesOwn → VX, wpAny_pure → VY, wpAny_pyIter_enum → VZ, wpAny_pyIter_tuple → V0, wpAny_pyNext_enum_endD → V1, wpAny_pyNext_enum_itemD → V2, wpAny_rule → V3, wpAny_standAt → V4, wpAny_truthy_bool → V5, wpAny_typeOf → V6
open PySem.F renaming args_tuple_add_2 → XR, args_tuple_iterator_next_1 → XU, entry_tuple_add → XV, entry_tuple_iterator_next → XW, plainAttrs_list → XX, slot_int_rmul → XY, slot_list_append → XZ, slot_list_count → X0, slot_list_index → X1, slot_list_ne_refl → X2, slot_tuple_add → X3, slot_tuple_count → X4, slot_tuple_iterator_next → X5, typeOf_object_class → X6
open PySem.PyData renaming depth → Wb, depthAll → Wc, depthAll_keys_le → Wd, depthAll_vals_le → We, depthKv → Wf, shown → Wg, shownAll → Wh, shownKv → Wi, shownKv_eq → Wj, shownKv_key_le → Wk, shownKv_val_le → Wl
open PySem.SeqAt renaming EqAt → Wm, RcAt → Wn, RcNeAt → Wo, in_listAt → Wp, in_tupleAt → Wq, notIn_listAt → Wr, notIn_tupleAt → Ws
open PySem.W renaming Frag → Wu, callWith_K → Wv, cellsFrom_some → Ww, clsIn → Wx, codeIn → Wy, codeRec_of → Wz, findIn → WA, fnOf → WB, hideAll_get → WC, instObj → WD, keepIn → WE, kia_one → WF, kitCls → WG, kitOne → WH, kitx_dict → WI, kitx_list → WJ, lookIn → WK, methodObj → WL, mroIn → WM, of_hideAll → WN, plainGet → WO, subIn → WQ
theorem gEG {α:Type _} {l:List α} {i:Nat} (h:i < l.length):l[i]?=some l[i]:=List.getElem?_eq_getElem h
theorem bAE (a b:Bool):((a && b)=true)=(a=true/\b=true):=Bool.and_eq_true a b
namespace L2
open PySem PySem.Spec PyProof.Rows
abbrev Key:=Sum Int Str
noncomputable def gW:Key->Value->Bool
 |.inl k,v=>Value.isInt k v
 |.inr x,v=>Value.isStrOf x v
noncomputable def JP(w:World):Key->Int
 |.inl k=>hashInt k
 |.inr x=>hashStr w x
theorem aJ:∀ {k:Key} {v:Value},gW k v=true->(∃i t,k=Sum.inl i/\v=Value.int i t)\/(∃x t,k=Sum.inr x/\v=Value.str x t)
 |.inl i,v,h=>by
  obtain⟨t,e⟩:=Value.isInt_shape (k:=i) (v:=v) h;exact .inl ⟨i,t,rfl,e⟩
 |.inr x,v,h=>by
  obtain⟨t,e⟩:=Value.isStrOf_shape (x:=x) (v:=v) h;exact .inr ⟨x,t,rfl,e⟩
theorem rm(i:Int)(t:Tok):gW (.inl i) (.int i t)=true:=by simp[gW,Value.isInt]
theorem rq(x:Str)(t:Tok):gW (.inr x) (.str x t)=true:=by simp[gW,Value.isStrOf]
theorem Cm(a b:Int):decide ((Sum.inl a:Key)=Sum.inl b)=(a == b):=by
 by_cases e:a=b
 ·subst e;simp
 ·have h:¬ (Sum.inl a:Key)=Sum.inl b:=fun q=>e (Sum.inl.inj q);rw[decide_eq_false h];exact(beq_eq_false_iff_ne.mpr e).symm
theorem Cn(a b:Str):decide ((Sum.inr a:Key)=Sum.inr b)=decide (a=b):=by
 by_cases e:a=b
 ·subst e;simp
 ·have h:¬ (Sum.inr a:Key)=Sum.inr b:=fun q=>e (Sum.inr.inj q);rw[decide_eq_false h,decide_eq_false e]
theorem Co(a:Int)(b:Str):decide ((Sum.inl a:Key)=Sum.inr b)=false:=decide_eq_false (fun q=>nomatch q)
theorem Cp(a:Str)(b:Int):decide ((Sum.inr a:Key)=Sum.inl b)=false:=decide_eq_false (fun q=>nomatch q)
noncomputable def bj(prog:Program)(w:World):PySem.KeyKind prog w Key where
 is:=gW
 hash:=JP w
 inj:=fun v a b ha hb=>by
  rcases aJ ha with ⟨i,t,rfl,rfl⟩ |⟨x,t,rfl,rfl⟩
  ·rcases aJ hb with ⟨j,u,rfl,e⟩ |⟨y,u,rfl,e⟩
   ·injection e with e1 _;rw[e1]
   ·exact nomatch e
  ·rcases aJ hb with ⟨j,u,rfl,e⟩ |⟨y,u,rfl,e⟩
   ·exact nomatch e
   ·injection e with e1 _;rw[e1]
 byValue:=fun k v h=>by
  rcases aJ h with ⟨i,t,rfl,rfl⟩ |⟨x,t,rfl,rfl⟩ <;> rfl
 pyHash:=fun hv h=>by
  rcases aJ hv with ⟨i,t,rfl,rfl⟩ |⟨x,t,rfl,rfl⟩
  ·exact wpAny_pyHash_int h
  ·exact wpAny_pyHash_str h
 eqBool:=fun hu hv h=>by
  rcases aJ hu with ⟨i,t,rfl,rfl⟩ |⟨x,t,rfl,rfl⟩
  ·rcases aJ hv with ⟨j,u,rfl,rfl⟩ |⟨y,u,rfl,rfl⟩
   ·rw[Cm] at h;exact wpAny_eqBool_int h
   ·rw[Co] at h;exact SeqAt.EqAt.int_str i t y u _ _ _ _ h
  ·rcases aJ hv with ⟨j,u,rfl,rfl⟩ |⟨y,u,rfl,rfl⟩
   ·rw[Cp] at h;exact SeqAt.EqAt.str_int x t j u _ _ _ _ h
   ·rw[Cn] at h;exact wpAny_eqBool_str h
 «strs»:=fun k x t v h=>by
  rcases aJ h with ⟨i,u,rfl,e⟩ |⟨y,u,rfl,e⟩
  ·exact nomatch e
  ·injection e with e1 _;subst e1;cases v <;> rfl
theorem mj(prog:Program)(w:World)(i:Int)(t:Tok):(bj prog w).is (.inl i) (.int i t)=true:=rm i t
theorem ml(prog:Program)(w:World)(x:Str)(t:Tok):(bj prog w).is (.inr x) (.str x t)=true:=rq x t
inductive V where
 |non |bl (b:Bool) |int (i:Int) |str (x:Str) |byt (b:Array UInt8) |flt (b:UInt64) |ref (a:Addr) |ty (n:String)
 deriving DecidableEq
def av:V->Value->Prop
 |.non,u=>u=Value.none
 |.bl b,u=>u=Value.bool b
 |.int i,u=>∃t,u=Value.int i t
 |.str x,u=>∃t,u=Value.str x t
 |.byt b,u=>∃t,u=Value.bytes b t
 |.flt b,u=>∃t,u=Value.float b t
 |.ref a,u=>u=Value.ref a
 |.ty n,u=>u=Value.type n
abbrev aG:List V->List Value->Prop:=Paired av
theorem aG.length{xs:List V}{us:List Value}(r:aG xs us):xs.length=us.length:=Paired.length r
theorem aG.get:∀ {xs:List V} {us:List Value} {i:Nat} {x:V},aG xs us->xs[i]?=some x->∃u,us[i]?=some u/\av x u
 |_,_,_,_,.nil,e=>by simp at e
 |_,_,0,_,.cons r _,e=>by simp at e;subst e;exact⟨_,rfl,r⟩
 |_,_,i+1,x,.cons _ t,e=>by
  obtain⟨u,h1,h2⟩:=aG.get (i:=i) (x:=x) t (by simpa using e);exact⟨u,by simpa using h1,h2⟩
theorem aG.set{x:V}{u:Value}(r:av x u):∀ {xs:List V} {us:List Value} (i:Nat),aG xs us->aG (xs.set i x) (us.set i u)
 |_,_,_,.nil=>.nil
 |_,_,0,.cons _ t=>.cons r t
 |_,_,i+1,.cons q t=>.cons q (aG.set r i t)
theorem aG.append:∀ {xs ys:List V} {us ws:List Value},aG xs us->aG ys ws->aG (xs++ys) (us++ws)
 |_,_,_,_,.nil,s=>s
 |_,_,_,_,.cons r t,s=>.cons r (aG.append t s)
theorem aG.take:∀ {xs:List V} {us:List Value} (n:Nat),aG xs us->aG (xs.take n) (us.take n)
 |_,_,0,_=>.nil
 |_,_,_+1,.nil=>.nil
 |_,_,n+1,.cons r t=>.cons r (aG.take n t)
theorem aG.drop:∀ {xs:List V} {us:List Value} (n:Nat),aG xs us->aG (xs.drop n) (us.drop n)
 |_,_,0,r=>r
 |_,_,_+1,.nil=>.nil
 |_,_,n+1,.cons _ t=>aG.drop n t
def Cq:Option V->Option Value->Prop
 |some v,some u=>av v u
 |none,none=>True
 |_,_=>False
def KV{κ:Type}:List (κ × V)->List (κ × Value)->Prop:=Paired fun(p:κ × V) (q:κ × Value)=>p.1=q.1/\av p.2 q.2
noncomputable def kV:Key->V
 |.inl i=>.int i
 |.inr x=>.str x
def kE(h:Heap)(a:Addr)(items:Array Value):Prop:=∃o,h.get? a=some o/\o.cls = .type "tuple"/\∃n,o.data = .seq items n/\o.dict=none
theorem kE.isTup{h:Heap}{a:Addr}{items:Array Value}(x:kE h a items):IsTup h a items:=let ⟨o,e,c,n,d,_⟩:=x;⟨o,e,c,n,d⟩
theorem kE.lt{h:Heap}{a:Addr}{items:Array Value}(x:kE h a items):a < h.objs.size:=x.isTup.lt
theorem kE.new(h:Heap)(items:Array Value):kE (h.push { cls:=.type "tuple", data:=.seq items }) h.objs.size items:=⟨_,ZB _ rfl,rfl,_,rfl,rfl⟩
inductive HO where
  |lst (xs:List V)
  |tup (xs:List V)
  |dK (kvs:List (Key × V)) |dT (kvs:List (List Key × V))
  |set (S:Int->Bool) (n:Nat)
  |ins (C dx:Addr) (fs:List (Str × V))
  |own (x:Addr)
  |xd (fs:List (Str × V))
  |met (f x:Addr)
  |rng (lo hi:Int)
  |frz (o:Obj) (u:HO)
  |tbl (ps:Array Value)
  |ext (φ:Heap->Prop)
abbrev Hp:=Addr->Option HO
noncomputable def upd(H:Hp)(a:Addr)(o:HO):Hp:=fun b=>if b=a then some o else H b
theorem ao{H:Hp}{a:Addr}{o:HO}:upd H a o a=some o:=by unfold upd;rw[if_pos rfl]
theorem ak{H:Hp}{a b:Addr}{o:HO}(h:b ≠ a):upd H a o b=H b:=by unfold upd;rw[if_neg h]
theorem pN{H:Hp}{a:Addr}{o u:HO}:upd (upd H a o) a u=upd H a u:=by
 funext b;unfold upd;split <;> rfl
theorem aD{H:Hp}{a b:Addr}{o:HO}(h:H a=some o)(h':H b=none):a ≠ b:=by
 intro e;subst e;rw[h] at h';cases h'
section
variable (P:Program) (w:World)
def aU(H:Hp)(h:Heap)(a:Addr):HO->Prop
 |.lst xs=>xs.length<=sizeLine/\∃ (its:List Value) (n:Nat),aG xs its/\h.get? a=some { cls:=.type "list", data:=.seq its.toArray n }
 |.tup xs=>xs.length<=sizeLine/\∃its:List Value,aG xs its/\kE h a its.toArray
 |.dK kvs=>kvs.length<=sizeLine/\(a == Vw)=false/\∃vs,KV kvs vs/\h.DictOf (bj P w) a vs
 |.dT kvs=>kvs.length<=sizeLine/\(a == Vw)=false/\∃xs:List (List Key × Addr × Value),
   Paired (fun(p:List Key × V) (q:List Key × Addr × Value)=>p.1=q.1/\H q.2.1=some (.tup (p.1.map kV))/\av p.2 q.2.2) kvs xs ∧
   ∃o es ep,h.get? a=some o/\o.ExactDict/\o.data = .dict es ep/\es.toList=xs.map (entryOfKey (tupleKind (bj P w)))/\(xs.map (·.1)).Nodup
 |.set S n=>h.SetOf (intKind P w) a S n
 |.ins C dx fs=>H dx=some (.own a)/\fs.length<=1000/\dx ≠ a/\h.get? a=some (WD C dx) ∧
   ∃mA,h.Ns1 dx mA/\(∀f,Cq (fs.lookup f) (mA f))/\PySem.Within mA (fs.map (·.1))
 |.own _=>∃o,h.get? a=some o
 |.xd fs=>∃mA,h.Ns1 a mA/\∀f,Cq (fs.lookup f) (mA f)
 |.rng lo hi=>∃t u v,h.get? a=some { cls:=.type "range", data:=.fields #[.int lo t,.int hi u,.int 1 v] }
 |.frz o u=>h.get? a=some o/\aU H h a u
 |.tbl ps=>h.get? a=some { cls:=.none,data:=.fields ps }
 |.met f x=>h.get? a=some (WL (.ref f) (.ref x))
 |.ext φ=>φ h/\(∃o,h.get? a=some o)/\∀h1 h2:Heap,φ h1->(∀o,h1.get? a=some o->h2.get? a=some o)->φ h2
def HOk(H:Hp)(h:Heap):Prop:=∀a o,H a=some o->aU P w H h a o
end
section
variable {P:Program} {w:World} {H H':Hp} {h h':Heap} {a:Addr} {o:HO}
theorem aU.lt(x:aU P w H h a o):a < h.objs.size:=by
 cases o with
 |lst xs=>obtain⟨_,_,_,_,e⟩:=x;exact Zn e
 |tup xs=>obtain⟨_,_,_,p⟩:=x;exact p.lt
 |dK kvs=>obtain⟨_,_,_,_,o,_,_,e,_⟩:=x;exact Zn e
 |dT kvs=>obtain⟨_,_,_,_,o,_,_,e,_⟩:=x;exact Zn e
 |set S n=>obtain⟨o,_,_,_,e,_⟩:=x;exact Zn e
 |ins C dx fs=>obtain⟨_,_,_,e,_⟩:=x;exact Zn e
 |own y=>obtain⟨_,e⟩:=x;exact Zn e
 |xd fs=>obtain⟨_,⟨_,_,_,e,_⟩,_⟩:=x;exact Zn e
 |rng lo hi=>obtain⟨_,_,_,e⟩:=x;exact Zn e
 |frz ob u=>obtain⟨e,_⟩:=x;exact Zn e
 |tbl ps=>exact Zn (show h.get? a=some _ from x)
 |met f y=>exact Zn (show h.get? a=some _ from x)
 |ext φ=>obtain⟨_,⟨_,e⟩,_⟩:=x;exact Zn e
theorem Paired.mapP{α β:Type}{F G:α->β->Prop}:∀ {l₁:List α} {l₂:List β},Paired F l₁ l₂->(∀a b,F a b->G a b)->Paired G l₁ l₂
 |_,_,.nil,_=>.nil
 |_,_,.cons r t,f=>.cons (f _ _ r) (Paired.mapP t f)
theorem aU.stay(x:aU P w H h a o)(k:∀b u,(b=a\/H b=some (.own a))->h.get? b=some u->h'.get? b=some u)
  (ho:∀b,H b=some (.own a)->H' b=some (.own a)) (ht:∀b xs,H b=some (.tup xs)->H' b=some (.tup xs)):aU P w H' h' a o:=by
 induction o with
 |lst xs=>obtain⟨z,its,n,r,e⟩:=x;exact⟨z,its,n,r,k _ _ (.inl rfl) e⟩
 |tup xs=>obtain⟨z,its,r,ob,e,c⟩:=x;exact⟨z,its,r,ob,k _ _ (.inl rfl) e,c⟩
 |dK kvs=>obtain⟨z,y,vs,r,ob,es,ep,e,c⟩:=x;exact⟨z,y,vs,r,ob,es,ep,k _ _ (.inl rfl) e,c⟩
 |dT kvs=>
  obtain⟨z,y,xs,r,ob,es,ep,e,c⟩:=x;exact⟨z,y,xs,Paired.mapP r fun p q z=>⟨z.1,ht _ _ z.2.1,z.2.2⟩,ob,es,ep,k _ _ (.inl rfl) e,c⟩
 |set S n=>obtain⟨ob,es,ep,t,e,c⟩:=x;exact⟨ob,es,ep,t,k _ _ (.inl rfl) e,c⟩
 |ins C dx fs=>
  obtain⟨d,z,ne,e,mA,⟨od,es,ep,e2,c⟩,r⟩:=x;exact⟨ho _ d,z,ne,k _ _ (.inl rfl) e,mA,⟨od,es,ep,k _ _ (.inr d) e2,c⟩,r⟩
 |own y=>obtain⟨ob,e⟩:=x;exact⟨ob,k _ _ (.inl rfl) e⟩
 |xd fs=>obtain⟨mA,⟨od,es,ep,e,c⟩,r⟩:=x;exact⟨mA,⟨od,es,ep,k _ _ (.inl rfl) e,c⟩,r⟩
 |rng lo hi=>obtain⟨t,u,v,e⟩:=x;exact⟨t,u,v,k _ _ (.inl rfl) e⟩
 |frz ob u ih=>obtain⟨e,q⟩:=x;exact⟨k _ _ (.inl rfl) e,ih q⟩
 |tbl ps=>
  have e:h.get? a=some { cls:=.none,data:=.fields ps }:=x;show h'.get? a=some { cls:=.none,data:=.fields ps };exact k a _ (.inl rfl) e
 |met f y=>
  have e:h.get? a=some (WL (.ref f) (.ref y)):=x;show h'.get? a=some (WL (.ref f) (.ref y));exact k a _ (.inl rfl) e
 |ext φ=>obtain⟨p,⟨o,e⟩,st⟩:=x;exact⟨st _ _ p fun o q=>k _ _ (.inl rfl) q,⟨o,k _ _ (.inl rfl) e⟩,st⟩
theorem HOk.lt(x:HOk P w H h)(e:H a=some o):a < h.objs.size:=(x a o e).lt
theorem HOk.fresh(x:HOk P w H h)(e:h.objs.size<=a):H a=none:=by
 cases q:H a with
 |none=>rfl
 |some u=>exact absurd (Zs (x.lt q) e) (ZK _)
theorem HOk.kept(x:HOk P w H h)(k:∀b u,h.get? b=some u->h'.get? b=some u):HOk P w H h':=fun a o e=>
 (x a o e).stay (fun b u _ q=>k b u q) (fun _ q=>q) fun _ _ q=>q
theorem HOk.laid(x:HOk P w H h)(k:∀b u,h.get? b=some u->h'.get? b=some u)(hp:h.objs.size<=a)(new:aU P w (upd H a o) h' a o):HOk P w (upd H a o) h':=fun b u e=>by
 have hn:=x.fresh hp;by_cases hb:b=a
 ·subst hb;rw[ao] at e;cases e;exact new
 ·rw[ak hb] at e;exact(x b u e).stay (fun c v _ q=>k c v q) (fun c q=>by rw[ak (aD q hn)];exact q) fun c xs q=>by rw[ak (aD q hn)];exact q
end
def Rd(H:Hp)(a:Addr)(u:HO):Prop:=H a=some u\/∃o,H a=some (.frz o u)
theorem Rd.ok{P:Program}{w:World}{H:Hp}{h:Heap}{a:Addr}{u:HO}(r:Rd H a u)(x:HOk P w H h):aU P w H h a u:=by
 rcases r with r |⟨o,r⟩
 ·exact x a u r
 ·obtain⟨_,q⟩:=x a _ r;exact q
def Mut:Option HO->Prop
 |some (.lst _)=>True
 |some (.dK _)=>True
 |some (.dT _)=>True
 |some (.set _ _)=>True
 |some (.ins _ _ _)=>True
 |some (.ext _)=>True
 |_=>False
section
variable {P:Program} {w:World} {H:Hp} {h h':Heap} {x e:Addr} {o':HO}
theorem HOk.write(ok:HOk P w H h)(mu:Mut (H x))(he:e=x\/H e=some (.own x))(k:∀b u,b ≠ e->h.get? b=some u->h'.get? b=some u)(heo:∃u,h'.get? e=some u)
  (new:aU P w (upd H x o') h' x o'):HOk P w (upd H x o') h':=fun b u q=>by
 have nown:∀c y,H c=some (.own y)->c ≠ x:=fun c y r z=>by subst z;rw[r] at mu;exact mu
 have ntup:∀c xs,H c=some (.tup xs)->c ≠ x:=fun c xs r z=>by subst z;rw[r] at mu;exact mu
 by_cases hb:b=x
 ·subst hb;rw[ao] at q;cases q;exact new
 ·rw[ak hb] at q;by_cases hbe:b=e
  ·have q':H b=some (.own x):=by
    rcases he with z |z
    ·exact absurd (hbe.trans z) hb
    ·rw[hbe];exact z
   rw[q] at q';cases q';obtain⟨v,hv⟩:=heo;exact⟨v,by rw[hbe];exact hv⟩
  ·refine(ok b u q).stay (fun c v hc r=>k c v ?_ r) (fun c r=>by rw[ak (nown c b r)];exact r) fun c xs r=>by rw[ak (ntup c xs r)];exact r
   rcases hc with rfl |hc
   ·exact hbe
   ·rintro rfl;rcases he with z |z
    ·exact nown c b hc z
    ·rw[hc] at z;cases z;exact hb rfl
end
structure Un(fs ex:List Addr)(H H':Hp)(h h':Heap):Prop where
 keep:∀b o,h.get? b=some o->H b=none->b ∉ fs->b ∉ ex->h'.get? b=some o
 slot:∀b o,h.get? b=some o->H b=none->b ∈ fs->b ∉ ex->∃sl,h'.get? b=some { o with slots:=sl }
 free:∀b o,h.get? b=some o->H b=none->b ∉ ex->H' b=none
 there:∀b o,h.get? b=some o->b ∉ ex->∃o',h'.get? b=some o'
 tups:∀b xs,H b=some (.tup xs)->H' b=some (.tup xs)
 frzs:∀b o u,H b=some (.frz o u)->H' b=some (.frz o u)
 tbls:∀b ps,H b=some (.tbl ps)->∃more,H' b=some (.tbl (ps++more))
section
variable {fs fs' ex ex':List Addr} {H H1 H2:Hp} {h h1 h2 h':Heap} {a x e:Addr} {o:HO}
theorem Un.any(u:Un fs ex H H1 h h1){b:Addr}{ob:Obj}(q:h.get? b=some ob)(n:H b=none)(hx:b ∉ ex):∃sl,h1.get? b=some { ob with slots:=sl }:=by
 by_cases hb:b ∈ fs
 ·exact u.slot b ob q n hb hx
 ·exact⟨ob.slots,u.keep b ob q n hb hx⟩
theorem Un.kept(k:∀b u,h.get? b=some u->h'.get? b=some u):Un fs ex H H h h':=
 ⟨fun b ob q _ _ _=>k b ob q,fun b ob q _ _ _=>⟨ob.slots,k b ob q⟩,fun _ _ _ n _=>n,fun b ob q _=>⟨ob,k b ob q⟩,fun _ _ q=>q,fun _ _ _ q=>q,fun _ ps q=>⟨#[],by rw[q];simp⟩⟩
theorem Un.refl:Un fs ex H H h h:=Un.kept fun _ _ q=>q
theorem Un.laid(k:∀b u,h.get? b=some u->h'.get? b=some u)(hp:h.objs.size<=a)(hn:H a=none):Un fs ex H (upd H a o) h h' where
 keep:=fun b u q _ _ _=>k b u q
 slot:=fun b u q _ _ _=>⟨u.slots,k b u q⟩
 free:=fun b u q n _=>by rw[ak (ZA (Zs (Zn q) hp))];exact n
 there:=fun b u q _=>⟨u,k b u q⟩
 tups:=fun b xs q=>by rw[ak (aD q hn)];exact q
 frzs:=fun b u xs q=>by rw[ak (aD q hn)];exact q
 tbls:=fun b ps q=>⟨#[],by rw[ak (aD q hn),q];simp⟩
theorem Un.write(mu:Mut (H x))(he:e=x\/H e=some (.own x))(k:∀b u,b ≠ e->h.get? b=some u->h'.get? b=some u)(heo:∃u,h'.get? e=some u):Un fs ex H (upd H x o) h h':=by
 have hx:∀b,H b=none->b ≠ x:=fun b n z=>by subst z;rw[n] at mu;exact mu
 have hb:∀b,H b=none->b ≠ e:=fun b n z=>by
  subst z;rcases he with r |r
  ·exact hx b n r
  ·rw[n] at r;cases r
 have hm:∀b u,H b=some u->¬ Mut (some u)->b ≠ x:=fun b u q nm z=>by subst z;rw[q] at mu;exact nm mu
 refine⟨fun b u q n _ _=>k b u (hb b n) q,fun b u q n _ _=>⟨u.slots,k b u (hb b n) q⟩,fun b u q n _=>by rw[ak (hx b n)];exact n,fun b u q _=>?_,
  fun b xs q=>by rw[ak (hm b _ q fun z=>z)];exact q,fun b u xs q=>by rw[ak (hm b _ q fun z=>z)];exact q,fun b ps q=>⟨#[],by rw[ak (hm b _ q fun z=>z),q];simp⟩⟩
 by_cases hbe:b=e
 ·subst hbe;exact heo
 ·exact⟨u,k b u hbe q⟩
end
noncomputable def trk(h:Heap)(H:Hp):List Addr:=(Zm h.objs.size).filter fun a=>(H a).isSome
noncomputable def kF(h:Heap)(H:Hp):Heap:=PySem.W.hideAll h (trk h H)
theorem rA(h:Heap)(H:Hp):(kF h H).objs.size=h.objs.size:=PySem.W.hideAll_size _ _
theorem sZ{h:Heap}{H:Hp}{b:Addr}{o:Obj}(e:h.get? b=some o)(n:H b=none):(kF h H).get? b=some o:=
 WC _ e fun hm=>by
  have q:(H b).isSome=true:=(Xk.mp hm).2;rw[n] at q;simp at q
theorem xP{h:Heap}{H:Hp}{b:Addr}{o:Obj}(e:(kF h H).get? b=some o):h.get? b=some o/\H b=none:=by
 have e':h.get? b=some o:=WN (trk h H) e;refine⟨e',?_⟩;cases q:H b with
 |none=>rfl
 |some x=>
  have hm:b ∈ trk h H:=Xk.mpr ⟨ZO.mpr (Zn e'),by simp[q]⟩;have z:(kF h H).get? b=none:=PySem.W.hideAll_none (trk h H) hm;rw[z] at e;cases e
structure Mod(K:Wu)(mg:Str->Option Value)(base:Heap):Prop where
 kin:K.In base
 glob:base.Ns Vd mg
 blt:∃mb,base.Ns WY mb/\∀x:Str,x ≠ "__name__"->mb x=WX x
 nolimit:base.NoLimit
structure Cx where
 prog:Program
 w:World
 K:Wu
 mg:Str->Option Value
 base:Heap
 A:Around
 N:List Str
 s₀:Shared
 H₀:Hp
 env:Env
 outer:List Env
 stack:List Env
 ex:List Addr
 fn:Str->Bool
 calm:Bool
 pn:List (Addr × Obj)
 xe:Value->Shared->Prop
noncomputable def frs(l:List Env):List Addr:=l.filterMap (·.frame)
noncomputable abbrev Cx.fs(X:Cx):List Addr:=frs X.outer
def Vis(sc:Scope)(x:Str):Prop:=sc.names.lookup x=some .local\/sc.names.lookup x=some .cell\/sc.names.lookup x=some .free
def Loc(sc:Scope)(x:Str):Prop:=sc.names.lookup x=some .local\/sc.names.lookup x=some .cell
def JQ(env:Env)(h:Heap)(m:Str->Option Value)(x:Str)(u:Value):Prop:=
 (env.kindOf x=some .local/\m x=some u)\/((env.kindOf x=some .cell\/env.kindOf x=some .free)/\∃c,env.cells.lookup x=some c/\h.IsCell c (some u))
structure Cx.Ok(X:Cx):Prop where
 mod:Mod X.K X.mg X.base
 kind:X.env.scope.kind = .function
 glob:X.env.globals=Vd
 blt:X.env.builtins=WY
 above:X.s₀.heap.objs.size<=X.env.locals
 inj:∀x y c,X.env.cells.lookup x=some c->X.env.cells.lookup y=some c->x=y
 has:∀x,(X.env.kindOf x=some .cell\/X.env.kindOf x=some .free)->∃c,X.env.cells.lookup x=some c
 cab:∀x c,X.fn x=true->X.env.cells.lookup x=some c->X.s₀.heap.objs.size<=c
 hd:X.calm=true->X.A.handled=none
 frames:X.A.frames=some X.stack
 stk:X.stack=X.outer\/(X.stack=X.env::X.outer/\X.env.frame=some X.env.locals)
 exf:∀b ∈ X.ex,b ≠ X.env.locals/\∀x c,X.env.cells.lookup x=some c->c ≠ b
 bs:∀b o,X.base.get? b=some o->X.s₀.heap.get? b=some o/\X.H₀ b=none
 bsz:X.base.objs.size<=X.s₀.heap.objs.size
 noex:∀b o,X.base.get? b=some o->b ∉ X.ex
 exfs:∀b ∈ X.ex,b ∉ X.fs
 funs:X.s₀.heap.FunFrames X.base X.outer
 frf:∀b ∈ X.fs,X.H₀ b=none
structure Inv(X:Cx)(pins:List (Addr × Obj))(σ:List (Option V))(H:Hp)(s:Shared):Prop where
 ok:X.Ok
 os:s.os=X.s₀.os
 bare:AllBare s.gens
 base:Un X.fs X.ex X.H₀ H X.s₀.heap s.heap
 loc:∃m,s.heap.Ns X.env.locals m/\∀ (i:Nat) (x:Str) (v:V),X.N[i]?=some x->σ[i]?=some (some v)->Vis X.env.scope x->∃u,av v u/\JQ X.env s.heap m x u
 cell:∀x c,X.env.cells.lookup x=some c->∃v,s.heap.IsCell c v
 free:H X.env.locals=none
 freeC:∀x c,X.env.cells.lookup x=some c->H c=none
 pin:∀p ∈ X.pn++pins,s.heap.get? p.1=some p.2/\H p.1=none/\p.1 ≠ X.env.locals/\p.1 ∉ X.fs/\∀v,p.2.data ≠ .cell v
 hok:HOk X.prog X.w H s.heap
 len:σ.length=X.N.length
section
variable {X:Cx} {pins:List (Addr × Obj)} {σ:List (Option V)} {H H':Hp} {s:Shared} {h':Heap}
theorem Cx.Ok.nofr(ok:X.Ok){b:Addr}{o:Obj}(e:X.base.get? b=some o):b ∉ X.fs:=fun hb=>by
 have:=(ok.funs.mem hb).1;rw[e] at this;cases this
theorem Inv.bs(I:Inv X pins σ H s):∀b o,X.base.get? b=some o->s.heap.get? b=some o/\H b=none:=fun b o e=>
 ⟨I.base.keep b o (I.ok.bs b o e).1 (I.ok.bs b o e).2 (I.ok.nofr e) (I.ok.noex b o e),I.base.free b o (I.ok.bs b o e).1 (I.ok.bs b o e).2 (I.ok.noex b o e)⟩
theorem Inv.bk(I:Inv X pins σ H s):∀b o,X.base.get? b=some o->s.heap.get? b=some o:=fun b o e=>(I.bs b o e).1
theorem Inv.mod(I:Inv X pins σ H s):Mod X.K X.mg X.base:=I.ok.mod
theorem Inv.kIn(I:Inv X pins σ H s):X.K.In s.heap:=I.ok.mod.kin.keeps I.bk
theorem Inv.lt(I:Inv X pins σ H s):X.env.locals < s.heap.objs.size:=let ⟨_,hn,_⟩:=I.loc;hn.lt
theorem Inv.sz(I:Inv X pins σ H s):X.s₀.heap.objs.size<=s.heap.objs.size:=Zr I.ok.above (YA I.lt)
theorem Inv.nofs(I:Inv X pins σ H s){a:Addr}(h:s.heap.objs.size<=a):a ∉ X.fs:=fun hb=>by
 obtain⟨_,o,ho,_⟩:=I.ok.funs.mem hb;exact absurd (Zs (Zn ho) (Zr I.sz h)) (ZK _)
theorem Inv.cne(I:Inv X pins σ H s):∀x c,X.env.cells.lookup x=some c->c ≠ X.env.locals:=fun x c e z=>by
 obtain⟨v,o,ho,hd⟩:=I.cell x c e;obtain⟨m,⟨o',es,ep,ho',hd',_⟩,_⟩:=I.loc;rw[z,ho'] at ho;cases ho;rw[hd'] at hd;cases hd
theorem Inv.funs(I:Inv X pins σ H s):s.heap.FunFrames X.base X.outer:=by
 have all:∀ (l:List Env),(∀b ∈ frs l,b ∈ X.fs)->X.s₀.heap.FunFrames X.base l->s.heap.FunFrames X.base l:=by
  intro l
  induction l with
  |nil=>intro _ _;trivial
  |cons env r ih=>
   intro hs hl;obtain⟨hk,⟨L,o,hf,hn,ho,hd⟩,hr⟩:=hl;have hL:L ∈ X.fs:=hs L (by unfold frs;rw[Yx,hf];exact Zf);obtain⟨sl,e⟩:=I.base.slot L o ho (I.ok.frf L hL) hL fun z=>I.ok.exfs L z hL;exact⟨hk,⟨L,_,hf,hn,e,hd⟩,ih (fun b hb=>hs b (by unfold frs;rw[Yx,hf];exact Zd _ hb)) hr⟩
 exact all X.outer (fun _ hb=>hb) I.ok.funs
theorem Inv.stack(I:Inv X pins σ H s):s.heap.FunFrames X.base X.stack:=by
 rcases I.ok.stk with e |⟨e,hf⟩
 ·rw[e];exact I.funs
 ·rw[e];obtain⟨m,hn,_⟩:=I.loc;refine .cons (by rw[I.ok.kind];decide) hf hn ?_ I.funs;exact Heap.get?_none_of_le (Zr I.ok.bsz I.ok.above)
theorem Inv.stkSub(I:Inv X pins σ H s):∀b ∈ frs X.stack,b ∈ X.env.locals::X.fs:=fun b hb=>by
 rcases I.ok.stk with e |⟨e,hf⟩
 ·rw[e] at hb;exact Zd _ hb
 ·rw[e] at hb;unfold frs at hb;rw[Yx,hf] at hb;exact hb
theorem Inv.stkFree(I:Inv X pins σ H s):∀b ∈ frs X.stack,H b=none:=fun b hb=>by
 rcases Zq.mp (I.stkSub b hb) with e |hb
 ·rw[e];exact I.free
 ·obtain⟨_,o,ho,_⟩:=I.ok.funs.mem hb;exact I.base.free b o ho (I.ok.frf b hb) fun z=>I.ok.exfs b z hb
theorem Inv.step{g':Array X8}{t':Nat}{d':Drawn}{ch:List Addr}(I:Inv X pins σ H s)
  (hch:∀b ∈ ch,(b ∈ X.ex\/X.s₀.heap.objs.size<=b)/\b ≠ X.env.locals/\(∀x c,X.env.cells.lookup x=some c->c ≠ b)/\∀p ∈ X.pn++pins,p.1 ≠ b)
  (keep:∀b o,b ≠ X.env.locals->b ∉ X.fs->b ∉ ch->s.heap.get? b=some o->H b=none->h'.get? b=some o)
  (slot:∀b o,b ≠ X.env.locals->b ∈ X.fs->b ∉ ch->s.heap.get? b=some o->H b=none->∃sl,h'.get? b=some { o with slots:=sl }) (free:∀b o,b ∉ ch->s.heap.get? b=some o->H b=none->H' b=none)
  (there:∀b o,b ∉ ch->s.heap.get? b=some o->∃o',h'.get? b=some o')
  (tups:∀b xs,H b=some (.tup xs)->H' b=some (.tup xs)) (frzs:∀b o u,H b=some (.frz o u)->H' b=some (.frz o u)) (tbls:∀b ps,H b=some (.tbl ps)->∃more,H' b=some (.tbl (ps++more)))
  (ns:∀m,s.heap.Ns X.env.locals m->h'.Ns X.env.locals m) (hok:HOk X.prog X.w H' h') (hg:AllBare g') :
  Inv X pins σ H' { s with heap:=h',gens:=g',drawn:=d',toks:=t' }:=by
 have neL:∀b o,X.s₀.heap.get? b=some o->b ≠ X.env.locals:=fun b o e=>ZA (Zs (Zn e) I.ok.above)
 have neC:∀b o,X.s₀.heap.get? b=some o->b ∉ X.ex->b ∉ ch:=fun b o e hx hb=>by
  rcases (hch b hb).1 with z |z
  ·exact hx z
  ·exact absurd (Zs (Zn e) z) (ZK _)
 have cellK:∀x c,X.env.cells.lookup x=some c->∀v,s.heap.IsCell c v->h'.IsCell c v:=fun x c e v ⟨o,ho,hd⟩=>by
  have nch:c ∉ ch:=fun z=>(hch c z).2.2.1 x c e rfl;by_cases hc:c ∈ X.fs
  ·obtain⟨sl,q⟩:=slot c o (I.cne x c e) hc nch ho (I.freeC x c e);exact⟨_,q,hd⟩
  ·exact⟨o,keep c o (I.cne x c e) hc nch ho (I.freeC x c e),hd⟩
 refine⟨I.ok,I.os,hg,⟨fun b o e n hb hx=>?_,fun b o e n hb hx=>?_,fun b o e n hx=>?_,fun b o e hx=>?_,fun b xs e=>tups b xs (I.base.tups b xs e),fun b o xs e=>frzs b o xs (I.base.frzs b o xs e),fun b ps e=>?_⟩,?_,fun x c e=>?_,?_,fun x c e=>?_,fun p hp=>?_,hok,I.len⟩
 ·exact keep b o (neL b o e) hb (neC b o e hx) (I.base.keep b o e n hb hx) (I.base.free b o e n hx)
 ·obtain⟨sl,e1⟩:=I.base.slot b o e n hb hx;obtain⟨sl',e2⟩:=slot b _ (neL b o e) hb (neC b o e hx) e1 (I.base.free b o e n hx);exact⟨sl',e2⟩
 ·obtain⟨o',e1⟩:=I.base.there b o e hx;exact free b o' (neC b o e hx) e1 (I.base.free b o e n hx)
 ·obtain⟨o',e1⟩:=I.base.there b o e hx;exact there b o' (neC b o e hx) e1
 ·obtain⟨m1,e1⟩:=I.base.tbls b ps e;obtain⟨m2,e2⟩:=tbls b _ e1;exact⟨m1++m2,by rw[e2,Y4]⟩
 ·obtain⟨m,hn,hl⟩:=I.loc;refine⟨m,ns m hn,fun i x v e1 e2 e3=>?_⟩;obtain⟨u,r,l⟩:=hl i x v e1 e2 e3;refine⟨u,r,?_⟩;rcases l with l |⟨k,c,e,z⟩
  ·exact .inl l
  ·exact .inr ⟨k,c,e,cellK x c e _ z⟩
 ·obtain⟨v,z⟩:=I.cell x c e;exact⟨v,cellK x c e v z⟩
 ·obtain⟨m,⟨o,_,_,ho,_⟩,_⟩:=I.loc;exact free _ o (fun z=>(hch _ z).2.1 rfl) ho I.free
 ·obtain⟨v,o,ho,hd⟩:=I.cell x c e;exact free c o (fun z=>(hch c z).2.2.1 x c e rfl) ho (I.freeC x c e)
 ·obtain⟨e,n,ne,nf,d⟩:=I.pin p hp;have nch:p.1 ∉ ch:=fun z=>(hch p.1 z).2.2.2 p hp rfl;exact⟨keep p.1 p.2 ne nf nch e n,free p.1 p.2 nch e n,ne,nf,d⟩
theorem Inv.un{t':Nat}(I:Inv X pins σ H s)(u:Un X.fs [] H H' s.heap h')(hok:HOk X.prog X.w H' h'):Inv X pins σ H' { s with heap:=h',toks:=t' }:=by
 obtain⟨m,⟨o,es,ep,ho,r⟩,_⟩:=id I.loc;obtain⟨sl,hL⟩:=u.any ho I.free (by simp)
 exact I.step (g':=s.gens) (d':=s.drawn) (ch:=[]) (fun _ z=>nomatch z) (fun b o _ hb _ e n=>u.keep b o e n hb (by simp)) (fun b o _ hb _ e n=>u.slot b o e n hb (by simp)) (fun b o _ e n=>u.free b o e n (by simp)) (fun b o _ e=>u.there b o e (by simp)) u.tups u.frzs u.tbls (fun m' hm=>by
  obtain⟨o',es',ep',ho',r'⟩:=hm;rw[ho] at ho';cases ho';exact⟨_,es',ep',hL,r'⟩) hok I.bare
theorem Inv.call{g':Array X8}{t':Nat}{d':Drawn}{ch:List Addr}(I:Inv X pins σ H s)(u:Un (frs X.stack) ch H H' s.heap h')(hok:HOk X.prog X.w H' h')(hg:AllBare g')
  (hch:∀b ∈ ch,(b ∈ X.ex\/X.s₀.heap.objs.size<=b)/\b ≠ X.env.locals/\(∀x c,X.env.cells.lookup x=some c->c ≠ b)/\∀p ∈ X.pn++pins,p.1 ≠ b) :
  Inv X pins σ H' { s with heap:=h',gens:=g',drawn:=d',toks:=t' }:=by
 obtain⟨m,⟨o,es,ep,ho,r⟩,_⟩:=id I.loc;obtain⟨sl,hL⟩:=u.any ho I.free fun z=>(hch _ z).2.1 rfl
 exact I.step (ch:=ch) hch (fun b o hL hb hc e n=>u.keep b o e n (fun z=>(Zq.mp (I.stkSub b z)).elim hL hb) hc) (fun b o _ _ hc e n=>u.any e n hc) (fun b o hc e n=>u.free b o e n hc) (fun b o hc e=>u.there b o e hc) u.tups u.frzs u.tbls (fun m' hm=>by
  obtain⟨o',es',ep',ho',r'⟩:=hm;rw[ho] at ho';cases ho';exact⟨_,es',ep',hL,r'⟩) hok hg
theorem Inv.turned{t':Nat}{it:Addr}(I:Inv X pins σ H s)(k:∀b o,b ≠ it->s.heap.get? b=some o->h'.get? b=some o)(hn:H it=none)(hL:it ≠ X.env.locals)
  (h1:it ∈ X.ex\/X.s₀.heap.objs.size<=it) (h2:∀x c,X.env.cells.lookup x=some c->c ≠ it) (h3:∀p ∈ X.pn++pins,p.1 ≠ it):Inv X pins σ H { s with heap:=h',toks:=t' }:=by
 have nit:∀b u,H b=some u->b ≠ it:=fun b u e z=>by rw[z,hn] at e;cases e
 refine I.step (g':=s.gens) (d':=s.drawn) (ch:=[it]) (fun b hb=>?_) (fun b o _ _ hc e _=>k b o (fun z=>hc (by simp[z])) e) (fun b o _ _ hc e _=>⟨o.slots,k b o (fun z=>hc (by simp[z])) e⟩) (fun _ _ _ _ n=>n)
  (fun b o hc e=>⟨o,k b o (fun z=>hc (by simp[z])) e⟩) (fun _ _ e=>e) (fun _ _ _ e=>e) (fun b ps e=>⟨#[],by rw[e];simp⟩) (fun m hm=>?_) (fun b u e=>?_) I.bare
 ·have e:b=it:=by simpa using hb
  subst e;exact⟨h1,hL,h2,h3⟩
 ·obtain⟨o,es,ep,ho,r⟩:=hm;exact⟨o,es,ep,k _ o (Ne.symm hL) ho,r⟩
 ·refine(I.hok b u e).stay (fun c v hc q=>k c v ?_ q) (fun _ q=>q) fun _ _ q=>q;rcases hc with z |z
  ·rw[z];exact nit b u e
  ·exact nit c _ z
theorem Inv.tok(I:Inv X pins σ H s)(t:Nat):Inv X pins σ H { s with toks:=t }:=I.un (h':=s.heap) (t':=t) Un.refl I.hok
theorem Inv.kept{t':Nat}(I:Inv X pins σ H s)(k:∀b u,s.heap.get? b=some u->h'.get? b=some u):Inv X pins σ H { s with heap:=h',toks:=t' }:=I.un (Un.kept k) (I.hok.kept k)
theorem Inv.laid{a:Addr}{o:HO}{t':Nat}(I:Inv X pins σ H s)(k:∀b u,s.heap.get? b=some u->h'.get? b=some u)(hp:s.heap.objs.size<=a)(new:aU X.prog X.w (upd H a o) h' a o) :
  Inv X pins σ (upd H a o) { s with heap:=h',toks:=t' }:=I.un (Un.laid k hp (I.hok.fresh hp)) (I.hok.laid k hp new)
theorem Inv.write{x e:Addr}{o:HO}{t':Nat}(I:Inv X pins σ H s)(mu:Mut (H x))(he:e=x\/H e=some (.own x))(k:∀b u,b ≠ e->s.heap.get? b=some u->h'.get? b=some u)(heo:∃u,h'.get? e=some u)
  (new:aU X.prog X.w (upd H x o) h' x o):Inv X pins σ (upd H x o) { s with heap:=h',toks:=t' }:=I.un (Un.write mu he k heo) (I.hok.write mu he k heo new)
theorem Inv.pins_of{pins':List (Addr × Obj)}(I:Inv X pins σ H s)(h:∀p ∈ pins',s.heap.get? p.1=some p.2/\H p.1=none/\p.1 ≠ X.env.locals/\p.1 ∉ X.fs/\∀v,p.2.data ≠ .cell v):Inv X pins' σ H s:=
 ⟨I.ok,I.os,I.bare,I.base,I.loc,I.cell,I.free,I.freeC,fun p hp=>(Zu.mp hp).elim (fun z=>I.pin p (Z9 _ z)) (h p),I.hok,I.len⟩
theorem iy{N:List Str}(hN:N.Nodup){i j:Nat}{x:Str}(a:N[i]?=some x)(b:N[j]?=some x):i=j:=by
 obtain⟨h1,e1⟩:=Za.mp a;obtain⟨h2,e2⟩:=Za.mp b;exact(Ys hN).mp (e1.trans e2.symm)
theorem jQ{M:Model}{A:Around}{E:Value->Shared->Prop}{i:Nat}{x:Str}{v:V}{u:Value}{Q:Unit->Shared->Prop}(I:Inv X pins σ H s)(hN:X.N.Nodup)(hi:X.N[i]?=some x)(hx:Loc X.env.scope x)(r:av v u)
  (h:∀s',Inv X pins (σ.set i (some v)) H s'->(∃a,Heap.SameBut a s.heap s'.heap/\(a=X.env.locals\/X.env.cells.lookup x=some a))->Q () s') (hf:X.fn x=true\/X.env.scope.names.lookup x=some .local:=by first |exact .inl rfl |exact .inr rfl |assumption):wpAny M A (storeName X.env x u) Q E s:=by
 obtain⟨m,hn,hl⟩:=id I.loc;have hcls:(X.env.scope.kind == .class || (X.env.scope.kind == .module && X.env.locals != X.env.globals))=false:=by rw[I.ok.kind];rfl
 have hiσ:i < σ.length:=by rw[I.len];exact(Za.mp hi).1
 have cne:=I.cne
 have tracked:∀ {a:Addr} {h':Heap},(∃o,s.heap.get? a=some o/\H a=none)->Heap.SameBut a s.heap h'->HOk X.prog X.w H h':=fun {a h'} ha hs b ob e=>by
  obtain⟨_,_,hfree⟩:=ha;refine(I.hok b ob e).stay (fun c w' hc q=>(hs.2 c ?_).trans q) (fun _ q=>q) fun _ _ q=>q;rintro rfl;rcases hc with rfl |hc
  ·rw[hfree] at e;cases e
  ·rw[hfree] at hc;cases hc
 rcases hx with hk |hk
 ·refine wpAny_storeName_local hk hn (fun h' hn' hs=>?_) hcls;obtain⟨oL,_,_,hoL,_⟩:=id hn;refine h _ ⟨I.ok,I.os,I.bare,⟨fun b o e n hb hx=>?_,fun b o e n hb hx=>?_,I.base.free,fun b o e hx=>?_,I.base.tups,I.base.frzs,I.base.tbls⟩,⟨_,hn',fun j y v' e1 e2 e3=>?_⟩,fun y c e=>?_,I.free,I.freeC,fun p hp=>?_,tracked ⟨oL,hoL,I.free⟩ hs,by simpa using I.len⟩ ⟨_,hs,.inl rfl⟩
  ·exact(hs.2 b (ZA (Zs (Zn e) I.ok.above))).trans (I.base.keep b o e n hb hx)
  ·obtain⟨sl,e1⟩:=I.base.slot b o e n hb hx;exact⟨sl,(hs.2 b (ZA (Zs (Zn e) I.ok.above))).trans e1⟩
  ·obtain⟨o',e1⟩:=I.base.there b o e hx;exact⟨o',(hs.2 b (ZA (Zs (Zn e) I.ok.above))).trans e1⟩
  ·by_cases hj:j=i
   ·subst hj;rw[hi] at e1;cases e1;rw[ZC hiσ] at e2;cases e2;exact⟨u,r,.inl ⟨hk,by simp⟩⟩
   ·rw[ZP (Ne.symm hj)] at e2;obtain⟨u',r',q⟩:=hl j y v' e1 e2 e3;refine⟨u',r',?_⟩;rcases q with ⟨k,e⟩ |⟨k,c,e,z⟩
    ·refine .inl ⟨k,?_⟩;have:y ≠ x:=fun e=>hj (iy hN e1 (e ▸ hi));simp[this,e]
    ·exact .inr ⟨k,c,e,z.sameBut hs (cne y c e)⟩
  ·obtain⟨w',z⟩:=I.cell y c e;exact⟨w',z.sameBut hs (cne y c e)⟩
  ·obtain⟨e,n,ne,nf,d⟩:=I.pin p hp;exact⟨(hs.2 p.1 ne).trans e,n,ne,nf,d⟩
 ·have hfn:X.fn x=true:=by
   rcases hf with z |z
   ·exact z
   ·rw[z] at hk;cases hk
  obtain⟨c,hc⟩:=I.ok.has x (.inl hk);obtain⟨w',z⟩:=I.cell x c hc;refine wpAny_storeName_cell I.ok.kind hk hc z (fun h' hc' hs=>?_);obtain⟨oc,hoc,hocd⟩:=id z;refine h { s with heap:=h' } ⟨I.ok,I.os,I.bare,⟨fun b o e n hb hx=>?_,fun b o e n hb hx=>?_,I.base.free,fun b o e hx=>?_,I.base.tups,I.base.frzs,I.base.tbls⟩,⟨m,hn.sameBut hs (Ne.symm (cne x c hc)),fun j y v' e1 e2 e3=>?_⟩,fun y c' e=>?_,I.free,I.freeC,fun p hp=>?_,tracked ⟨oc,hoc,I.freeC x c hc⟩ hs,by simpa using I.len⟩ ⟨c,hs,.inr hc⟩
  ·exact(hs.2 b (ZA (Zs (Zn e) (I.ok.cab x c hfn hc)))).trans (I.base.keep b o e n hb hx)
  ·obtain⟨sl,e1⟩:=I.base.slot b o e n hb hx;exact⟨sl,(hs.2 b (ZA (Zs (Zn e) (I.ok.cab x c hfn hc)))).trans e1⟩
  ·obtain⟨o',e1⟩:=I.base.there b o e hx;exact⟨o',(hs.2 b (ZA (Zs (Zn e) (I.ok.cab x c hfn hc)))).trans e1⟩
  ·by_cases hj:j=i
   ·subst hj;rw[hi] at e1;cases e1;rw[ZC hiσ] at e2;cases e2;exact⟨u,r,.inr ⟨.inl hk,c,hc,hc'⟩⟩
   ·rw[ZP (Ne.symm hj)] at e2;obtain⟨u',r',q⟩:=hl j y v' e1 e2 e3;refine⟨u',r',?_⟩;rcases q with q |⟨k,c',e,z'⟩
    ·exact .inl q
    ·refine .inr ⟨k,c',e,z'.sameBut hs ?_⟩;rintro rfl;exact hj (iy hN e1 (I.ok.inj _ _ _ e hc ▸ hi))
  ·by_cases hcc:c'=c
   ·subst hcc;exact⟨_,hc'⟩
   ·obtain⟨w2,z2⟩:=I.cell y c' e;exact⟨w2,z2.sameBut hs hcc⟩
  ·obtain⟨e,n,ne,nf,d⟩:=I.pin p hp;refine⟨(hs.2 p.1 ?_).trans e,n,ne,nf,d⟩;intro q;rw[q,hoc] at e;have q':oc=p.2:=Option.some.inj e;exact d w' (by rw[<-q'];exact hocd)
theorem b7{M:Model}{A:Around}{E:Value->Shared->Prop}{i:Nat}{x:Str}{v:V}{u:Value}{Q:Unit->Shared->Prop}(I:Inv X pins σ H s)(hN:X.N.Nodup)(hi:X.N[i]?=some x)(hx:Loc X.env.scope x)(r:av v u)
  (h:∀s',Inv X pins (σ.set i (some v)) H s'->Q () s') (hf:X.fn x=true\/X.env.scope.names.lookup x=some .local:=by first |exact .inl rfl |exact .inr rfl |assumption):wpAny M A (storeName X.env x u) Q E s:=
 jQ I hN hi hx r (fun s' I' _=>h s' I') hf
theorem Inv.call'{s':Shared}{ch:List Addr}(I:Inv X pins σ H s)(ho:s'.os=s.os)(u:Un (frs X.stack) ch H H' s.heap s'.heap)(hok:HOk X.prog X.w H' s'.heap)(hg:AllBare s'.gens)
  (hch:∀b ∈ ch,(b ∈ X.ex\/X.s₀.heap.objs.size<=b)/\b ≠ X.env.locals/\(∀x c,X.env.cells.lookup x=some c->c ≠ b)/\∀p ∈ X.pn++pins,p.1 ≠ b):Inv X pins σ H' s':=by
 obtain⟨h',g',d',t',o'⟩:=s';have e:o'=s.os:=ho;subst e;exact I.call (g':=g') (t':=t') (d':=d') u hok hg hch
end
abbrev XK:=Value->Option Addr->Hp->Prop
abbrev St:=List (Option V)
abbrev VK:=V->Hp->Prop
abbrev TE:=St->Hp->VK->Prop
abbrev TT:=St->Hp->(Bool->Hp->Prop)->Prop
abbrev TA:=St->Hp->(List V->Hp->Prop)->Prop
structure Ends where
 nx:St->Hp->Prop
 rt:VK
 bk:St->Hp->Prop:=fun _ _=>False
 ct:St->Hp->Prop:=fun _ _=>False
abbrev TS:=Ends->St->Hp->Prop
def EP(X:Cx)(pins:List (Addr × Obj))(σ:St)(Q:VK)(u:Value)(s':Shared):Prop:=∃v H',Inv X pins σ H' s'/\av v u/\Q v H'
def TP(X:Cx)(pins:List (Addr × Obj))(σ:St)(Q:Bool->Hp->Prop)(b:Bool)(s':Shared):Prop:=∃H',Inv X pins σ H' s'/\Q b H'
def AP(X:Cx)(pins:List (Addr × Obj))(σ:St)(Q:List V->Hp->Prop)(us:List Value)(s':Shared):Prop:=∃vs H',Inv X pins σ H' s'/\aG vs us/\Q vs H'
def SP(X:Cx)(pins:List (Addr × Obj))(D:Ends)(f:Flow)(s':Shared):Prop:=
 match f with
 |.next=>∃σ' H',Inv X pins σ' H' s'/\D.nx σ' H'
 |.brk=>∃σ' H',Inv X pins σ' H' s'/\D.bk σ' H'
 |.cont=>∃σ' H',Inv X pins σ' H' s'/\D.ct σ' H'
 |.ret u=>∃v σ' H',Inv X pins σ' H' s'/\av v u/\D.rt v H'
def PE(X:Cx)(e:Expr)(t:TE):Prop:=
 ∀ (pins:List (Addr × Obj)) (s:Shared) (σ:St) (H:Hp) (Q:VK),Inv X pins σ H s->t σ H Q->wpAny (model X.prog X.w) X.A (eval e X.env) (EP X pins σ Q) X.xe s
def PT(X:Cx)(e:Expr)(t:TT):Prop:=
 ∀ (pins:List (Addr × Obj)) (s:Shared) (σ:St) (H:Hp) (Q:Bool->Hp->Prop),Inv X pins σ H s->t σ H Q->wpAny (model X.prog X.w) X.A (isTrue e X.env (eval e X.env)) (TP X pins σ Q) X.xe s
def PW(X:Cx)(e:Expr)(t:TT):Prop:=
 ∀ (whole:Sem Value) (pins:List (Addr × Obj)) (s:Shared) (σ:St) (H:Hp) (Q:Bool->Hp->Prop),Inv X pins σ H s->t σ H Q->wpAny (model X.prog X.w) X.A (isTrue e X.env whole) (TP X pins σ Q) X.xe s
theorem PW.pt{X:Cx}{e:Expr}{t:TT}(h:PW X e t):PT X e t:=h _
def PA(X:Cx)(es:List Expr)(t:TA):Prop:=
 ∀ (pos:Pos) (pins:List (Addr × Obj)) (s:Shared) (σ:St) (H:Hp) (Q:List V->Hp->Prop),Inv X pins σ H s->t σ H Q->wpAny (model X.prog X.w) X.A (spliced (backTo pos (Vr es X.env))) (AP X pins σ Q) X.xe s
def PS(X:Cx)(st:Stmt)(t:TS):Prop:=
 ∀ (pins:List (Addr × Obj)) (s:Shared) (σ:St) (H:Hp) (D:Ends),Inv X pins σ H s->t D σ H->wpAny (model X.prog X.w) X.A (exec st X.env) (SP X pins D) X.xe s
def PSs(X:Cx)(st:List Stmt)(t:TS):Prop:=
 ∀ (pins:List (Addr × Obj)) (s:Shared) (σ:St) (H:Hp) (D:Ends),Inv X pins σ H s->t D σ H->wpAny (model X.prog X.w) X.A (execs st X.env) (SP X pins D) X.xe s
theorem thn{α:Type}{t:Sem α}{Q Q':α->Shared->Prop}{M:Model}{A:Around}{E:Value->Shared->Prop}{s:Shared}(h:wpAny M A t Q E s)(hQ:∀a s,Q a s->Q' a s):wpAny M A t Q' E s:=VT h hQ fun _ _ x=>x
section
variable {X:Cx}
def Cr(i:Nat):TE:=fun σ H Q=>∃v,σ[i]?=some (some v)/\Q v H
def tC(v:V):TE:=fun _ H Q=>Q v H
theorem nR{i:Nat}{x:Str}{pos:Pos}(hN:X.N[i]?=some x)(hv:Vis X.env.scope x)(hd:(x == ("__debug__" : Str))=false:=by decide)(hcd:(x == ("__classdict__" : Str))=false:=by decide):PE X (.Name x pos) (Cr i):=by
 intro pins s σ H Q I h;obtain⟨v,e,h⟩:=h;obtain⟨m,hn,hl⟩:=I.loc;obtain⟨u,r,l⟩:=hl i x v hN e hv;have fin:EP X pins σ Q u s:=⟨v,H,I,r,h⟩;rcases l with ⟨hk,hm⟩ |⟨hk,c,hc,hcell⟩
 ·exact wpAny_Name (wpAny_loadName_local I.ok.kind hk hn hm fin) hd
 ·rcases hk with hk |hk
  ·exact wpAny_Name (wpAny_loadName_cell I.ok.kind hk hc hcell fin) hd
  ·exact wpAny_Name (wpAny_loadName_free I.ok.kind hk hc hcell fin hcd) hd
theorem kG{i j pos}:PE X (.Constant (.int i) j pos) (tC (.int i)):=fun _ _ _ H _ I h=>wpAny_Constant_int ⟨.int i,H,I.tok _,⟨_,rfl⟩,h⟩
theorem tf{b j pos}:PE X (.Constant (.bool b) j pos) (tC (.bl b)):=fun _ _ _ H _ I h=>Constant_bool ⟨.bl b,H,I,rfl,h⟩
theorem Cs{j pos}:PE X (.Constant .none j pos) (tC .non):=fun _ _ _ H _ I h=>Constant_none ⟨.non,H,I,rfl,h⟩
theorem kH{x j pos}:PE X (.Constant (.str x) j pos) (tC (.str x)):=fun _ _ _ H _ I h=>Calls.Constant_str ⟨.str x,H,I.tok _,⟨_,rfl⟩,h⟩
def Gl(X:Cx)(x:Str):Prop:=X.env.kindOf x=some .globalImplicit
theorem eM{E:Value->Shared->Prop}{pins:List (Addr × Obj)}{s:Shared}{σ:St}{H:Hp}{x:Str}{u:Value}{pos:Pos}{Q:Value->Shared->Prop}(I:Inv X pins σ H s)(hg:Gl X x)(hm:X.mg x=some u)(h:Q u s)
  (hd:(x == ("__debug__" : Str))=false:=by decide):wpAny (model X.prog X.w) X.A (eval (.Name x pos) X.env) Q E s:=
 XJ I.ok.kind hg (Calls.loadGlobal_global (by rw[I.ok.glob];exact I.mod.glob.keeps I.bk) hm h) hd
theorem fD{E:Value->Shared->Prop}{pins:List (Addr × Obj)}{s:Shared}{σ:St}{H:Hp}{x:Str}{u:Value}{pos:Pos}{Q:Value->Shared->Prop}(I:Inv X pins σ H s)(hg:Gl X x)(hm:X.mg x=none)(hv:WX x=some u)(h:Q u s)
  (hn:x ≠ "__name__" := by decide) (hd:(x == ("__debug__" : Str))=false:=by decide):wpAny (model X.prog X.w) X.A (eval (.Name x pos) X.env) Q E s:=by
 obtain⟨mb,h1,h2⟩:=I.mod.blt;exact XJ I.ok.kind hg (Calls.loadGlobal_builtin (by rw[I.ok.glob];exact I.mod.glob.keeps I.bk) hm (by rw[I.ok.blt];exact h1.keeps I.bk) ((h2 x hn).trans hv) h) hd
theorem pO{x:Str}{v:V}{u:Value}{pos:Pos}(hg:Gl X x)(hm:X.mg x=some u)(r:av v u)(hd:(x == ("__debug__" : Str))=false:=by decide):PE X (.Name x pos) (tC v):=
 fun _ _ _ H _ I h=>eM I hg hm ⟨v,H,I,r,h⟩ hd
theorem eN{x:Str}{v:V}{u:Value}{pos:Pos}(hg:Gl X x)(hm:X.mg x=none)(hv:WX x=some u)(r:av v u)(hn:x ≠ "__name__" := by decide)(hd:(x == ("__debug__" : Str))=false:=by decide):PE X (.Name x pos) (tC v):=
 fun _ _ _ H _ I h=>fD I hg hm hv ⟨v,H,I,r,h⟩ hn hd
variable {a b:Expr} {ta tb:TE} {pos:Pos}
def tB(t:TE):TT:=fun σ H Q=>t σ H fun x H1=>∃c,x = .bl c/\Q c H1
theorem Ct{e:Expr}{t:TE}(h:PE X e t)(he:∀whole,isTrue e X.env whole=(do let v <-whole;standAt e.pos;holding [v] (truthy v)):=by intro _;rfl):PT X e (tB t):=by
 intro pins s σ H Q I hw;refine isTrue_plain (thn (h pins s σ H _ I hw) fun v s1 ⟨x,H1,I1,r1,q1⟩=>?_) (he _);obtain⟨d,rfl,q⟩:=q1;cases r1;exact V5 ⟨H1,I1,q⟩
variable {tA tB':TT} {rest:List Expr}
def GN(t u:TT):TT:=fun σ H Q=>t σ H fun c H1=>if c=true then u σ H1 Q else Q false H1
def tOr(t u:TT):TT:=fun σ H Q=>t σ H fun c H1=>if c=true then Q true H1 else u σ H1 Q
def GO(t:TT):TT:=fun σ H Q=>t σ H fun c H1=>Q (!c) H1
theorem xQ(ha:PT X a tA):PW X (.BoolOp .And [a] pos) tA:=by
 intro wh pins s σ H Q I h;refine isTrue_and (thn (ha pins s σ H Q I h) fun c s1 e=>?_);cases c with
 |true=>exact isTrue_and_nil e
 |false=>exact e
theorem tj(ha:PT X a tA):PW X (.BoolOp .Or [a] pos) tA:=by
 intro wh pins s σ H Q I h;refine isTrue_or (thn (ha pins s σ H Q I h) fun c s1 e=>?_);cases c with
 |false=>exact isTrue_or_nil e
 |true=>exact e
theorem tw(ha:PT X a tA)(hb:PW X (.BoolOp .And (b::rest) pos) tB'):PW X (.BoolOp .And (a::b::rest) pos) (GN tA tB'):=by
 intro wh pins s σ H Q I h;refine isTrue_and (thn (ha pins s σ H _ I h) fun c s1 ⟨H1,I1,q1⟩=>?_);cases c with
 |true=>exact hb wh pins s1 σ H1 Q I1 q1
 |false=>exact⟨H1,I1,q1⟩
theorem tz(ha:PT X a tA)(hb:PW X (.BoolOp .Or (b::rest) pos) tB'):PW X (.BoolOp .Or (a::b::rest) pos) (tOr tA tB'):=by
 intro wh pins s σ H Q I h;refine isTrue_or (thn (ha pins s σ H _ I h) fun c s1 ⟨H1,I1,q1⟩=>?_);cases c with
 |true=>exact⟨H1,I1,q1⟩
 |false=>exact hb wh pins s1 σ H1 Q I1 q1
theorem tD(ha:PT X a tA):PT X (.UnaryOp .Not a pos) (GO tA):=by
 intro pins s σ H Q I h;exact isTrue_not (ha pins s σ H (fun c H1=>Q (!c) H1) I h)
def Bt(ta tb:TE):TE:=fun σ H Q=>ta σ H fun x H1=>∃c,x = .bl c/\if c=true then tb σ H1 Q else Q (.bl false) H1
def GP(ta tb:TE):TE:=fun σ H Q=>ta σ H fun x H1=>∃c,x = .bl c/\if c=true then Q (.bl true) H1 else tb σ H1 Q
def Bu(ta:TE):TE:=fun σ H Q=>ta σ H fun x H1=>∃c,x = .bl c/\Q (.bl (!c)) H1
theorem tF{op}{t:TE}(h:PE X a t):PE X (.BoolOp op [a] pos) t:=fun pins s σ H Q I hw=>BoolOp_one (h pins s σ H Q I hw)
theorem tG(ha:PE X a ta)(hb:PE X (.BoolOp .And (b::rest) pos) tb):PE X (.BoolOp .And (a::b::rest) pos) (Bt ta tb):=by
 intro pins s σ H Q I h;refine BoolOp_and (thn (ha pins s σ H _ I h) fun v s1 ⟨x,H1,I1,r1,q1⟩=>?_);obtain⟨c,rfl,q1⟩:=q1;cases r1;refine V5 ?_;cases c with
 |true=>exact hb pins s1 σ H1 Q I1 q1
 |false=>exact⟨.bl false,H1,I1,rfl,q1⟩
theorem Bv(ha:PE X a ta)(hb:PE X (.BoolOp .Or (b::rest) pos) tb):PE X (.BoolOp .Or (a::b::rest) pos) (GP ta tb):=by
 intro pins s σ H Q I h;refine BoolOp_or (thn (ha pins s σ H _ I h) fun v s1 ⟨x,H1,I1,r1,q1⟩=>?_);obtain⟨c,rfl,q1⟩:=q1;cases r1;refine V5 ?_;cases c with
 |false=>exact hb pins s1 σ H1 Q I1 q1
 |true=>exact⟨.bl true,H1,I1,rfl,q1⟩
theorem Cu(ha:PE X a ta):PE X (.UnaryOp .Not a pos) (Bu ta):=by
 intro pins s σ H Q I h;refine UnaryOp_ (thn (ha pins s σ H _ I h) fun v s1 ⟨x,H1,I1,r1,q1⟩=>?_);obtain⟨c,rfl,q1⟩:=q1;cases r1;exact not_of (V5 ⟨.bl (!c),H1,I1,rfl,q1⟩)
end
def SqL(K:Wu)(H:Hp)(a:Addr)(xs:List V):Prop:=
 Rd H a (.lst xs) ∨
  ∃ (o:Obj) (its:Array Value) (n:Nat),K.lookup a=some o/\o.cls = .type "list"/\o.dict=none/\o.data = .seq its n/\its.size<=sizeLine/\aG xs its.toList
def SqT(K:Wu)(H:Hp)(a:Addr)(xs:List V):Prop:=
 Rd H a (.tup xs) ∨
  ∃ (o:Obj) (its:Array Value) (n:Nat),K.lookup a=some o/\o.cls = .type "tuple"/\o.data = .seq its n/\its.size<=sizeLine/\aG xs its.toList
noncomputable def JR:Value->Option V
 |.none=>some .non
 |.bool b=>some (.bl b)
 |.int i _=>some (.int i)
 |.str x _=>some (.str x)
 |.bytes b _=>some (.byt b)
 |.float b _=>some (.flt b)
 |.ref a=>some (.ref a)
 |.type n=>some (.ty n)
 |_=>none
theorem av.abs{x:V}{u:Value}(r:av x u):JR u=some x:=by
 cases x with
 |non=>cases r;rfl
 |bl _=>cases r;rfl
 |int _=>obtain⟨t,rfl⟩:=r;rfl
 |str _=>obtain⟨t,rfl⟩:=r;rfl
 |byt _=>obtain⟨t,rfl⟩:=r;rfl
 |flt _=>obtain⟨t,rfl⟩:=r;rfl
 |ref _=>cases r;rfl
 |ty _=>cases r;rfl
theorem av.inj{x y:V}{u:Value}(r:av x u)(q:av y u):x=y:=Option.some.inj (r.abs.symm.trans q.abs)
theorem aG.inj:∀ {xs ys:List V} {us:List Value},aG xs us->aG ys us->xs=ys
 |_,_,_,.nil,.nil=>rfl
 |_,_,_,.cons r t,.cons r' t'=>by rw[r.inj r',aG.inj t t']
section
variable {X:Cx} {pins:List (Addr × Obj)} {σ:St} {H:Hp} {s:Shared} {a:Addr} {xs ys:List V}
theorem SqL.of{K:Wu}(h:H a=some (.lst xs)):SqL K H a xs:=.inl (.inl h)
theorem SqT.of{K:Wu}(h:H a=some (.tup xs)):SqT K H a xs:=.inl (.inl h)
theorem Inv.list(I:Inv X pins σ H s)(h:SqL X.K H a xs):∃its:List Value,aG xs its/\PlainL s.heap a its.toArray/\xs.length<=sizeLine:=by
 rcases h with h |⟨o,its,n,hk,hc,hd,hs,hz,r⟩
 ·obtain⟨z,its,n,r,e⟩:=h.ok I.hok;exact⟨its,r,⟨_,n,e,rfl,rfl,rfl⟩,z⟩
 ·refine⟨its.toList,r,⟨o,n,I.kIn a o hk,hc,hd,by simpa using hs⟩,?_⟩;have e:=r.length;simp only[Yy] at e;omega
theorem Inv.tuple(I:Inv X pins σ H s)(h:SqT X.K H a xs):∃its:List Value,aG xs its/\IsTup s.heap a its.toArray/\xs.length<=sizeLine:=by
 rcases h with h |⟨o,its,n,hk,hc,hs,hz,r⟩
 ·obtain⟨z,its,r,p⟩:=h.ok I.hok;exact⟨its,r,p.isTup,z⟩
 ·refine⟨its.toList,r,⟨o,I.kIn a o hk,hc,n,by simpa using hs⟩,?_⟩;have e:=r.length;simp only[Yy] at e;omega
theorem Inv.list_inj(I:Inv X pins σ H s)(h:SqL X.K H a xs)(h':SqL X.K H a ys):xs=ys:=by
 obtain⟨its,r,⟨o,n,e,_,_,d⟩,_⟩:=I.list h;obtain⟨its',r',⟨o',n',e',_,_,d'⟩,_⟩:=I.list h';rw[e] at e';cases e';rw[d] at d';injection d' with d1 _;have:its=its':=by simpa using congrArg Array.toList d1
 subst this;exact r.inj r'
theorem Inv.tuple_inj(I:Inv X pins σ H s)(h:SqT X.K H a xs)(h':SqT X.K H a ys):xs=ys:=by
 obtain⟨its,r,⟨o,e,_,n,d⟩,_⟩:=I.tuple h;obtain⟨its',r',⟨o',e',_,n',d'⟩,_⟩:=I.tuple h';rw[e] at e';cases e';rw[d] at d';injection d' with d1 _;have:its=its':=by simpa using congrArg Array.toList d1
 subst this;exact r.inj r'
end
noncomputable abbrev Cx.wish(X:Cx)(E:Value->Shared->Prop):Cx:={ X with xe:=E }
noncomputable abbrev Cx.nox(X:Cx):Cx:=X.wish fun _ _=>False
theorem Cx.Ok.wish{X:Cx}(ok:X.Ok)(E:Value->Shared->Prop):(X.wish E).Ok:=
 ⟨ok.mod,ok.kind,ok.glob,ok.blt,ok.above,ok.inj,ok.has,ok.cab,ok.hd,ok.frames,ok.stk,ok.exf,ok.bs,ok.bsz,ok.noex,ok.exfs,ok.funs,ok.frf⟩
theorem Cx.Ok.unwish{X:Cx}{E:Value->Shared->Prop}(ok:(X.wish E).Ok):X.Ok:=
 ⟨ok.mod,ok.kind,ok.glob,ok.blt,ok.above,ok.inj,ok.has,ok.cab,ok.hd,ok.frames,ok.stk,ok.exf,ok.bs,ok.bsz,ok.noex,ok.exfs,ok.funs,ok.frf⟩
section
variable {X:Cx} {pins:List (Addr × Obj)} {σ:St} {H:Hp} {s:Shared} {E:Value->Shared->Prop}
theorem Inv.wish(I:Inv X pins σ H s)(E:Value->Shared->Prop):Inv (X.wish E) pins σ H s:=⟨I.ok.wish E,I.os,I.bare,I.base,I.loc,I.cell,I.free,I.freeC,I.pin,I.hok,I.len⟩
theorem Inv.unwish(I:Inv (X.wish E) pins σ H s):Inv X pins σ H s:=⟨I.ok.unwish,I.os,I.bare,I.base,I.loc,I.cell,I.free,I.freeC,I.pin,I.hok,I.len⟩
theorem SP.unwish{D:Ends}{f:Flow}{s':Shared}(h:SP (X.wish E) pins D f s'):SP X pins D f s':=by
 cases f with
 |next=>obtain⟨σ',H',I,q⟩:=h;exact⟨σ',H',I.unwish,q⟩
 |brk=>obtain⟨σ',H',I,q⟩:=h;exact⟨σ',H',I.unwish,q⟩
 |cont=>obtain⟨σ',H',I,q⟩:=h;exact⟨σ',H',I.unwish,q⟩
 |ret u=>obtain⟨v,σ',H',I,r,q⟩:=h;exact⟨v,σ',H',I.unwish,r,q⟩
theorem PT.nox{e:Expr}{t:TT}(h:PT X.nox e t):PT X e t:=fun pins s σ H Q I hw=>
 VT (h pins s σ H Q (I.wish _) hw) (fun _ _ ⟨H',I',q⟩=>⟨H',I'.unwish,q⟩) fun _ _ z=>False.elim z
theorem PSs.nox{st:List Stmt}{t:TS}(h:PSs X.nox st t):PSs X st t:=fun pins s σ H D I hw=>
 VT (h pins s σ H D (I.wish _) hw) (fun _ _ q=>q.unwish) fun _ _ z=>False.elim z
end
section
variable {X:Cx} {st:Stmt} {rest:List Stmt} {t u:TS} {e:Expr} {te:TE} {pos:Pos}
def Bw:TS:=fun D σ H=>D.nx σ H
def GQ(t u:TS):TS:=fun D σ H=>t { D with nx:=u D } σ H
theorem fR:PSs X [] Bw:=fun _ _ σ H _ I h=>VL ⟨σ,H,I,h⟩
theorem bt(h1:PS X st t)(h2:PSs X rest u):PSs X (st::rest) (GQ t u):=by
 intro pins s σ H D I h;refine VJ (thn (h1 pins s σ H { D with nx:=u D } I h) fun f s1 q=>?_);cases f with
 |next=>
  obtain⟨σ',H',I',q⟩:=q;exact h2 pins s1 σ' H' D I' q
 |ret v=>exact q
 |brk=>exact q
 |cont=>exact q
theorem fS(h1:PS X st t):PSs X [st] t:=by
 intro pins s σ H D I h;refine VJ (thn (h1 pins s σ H D I h) fun f s1 q=>?_);cases f with
 |next=>exact VL q
 |ret v=>exact q
 |brk=>exact q
 |cont=>exact q
def Bx:TS:=fun D σ H=>D.ct σ H
theorem mo:PS X (.Continue pos) Bx:=fun _ _ σ H _ I h=>wpAny_Continue ⟨σ,H,I,h⟩
theorem Inv.quiet{pins:List (Addr × Obj)}{σ:St}{H:Hp}{s:Shared}(I:Inv X pins σ H s):interactive X.env=false:=by simp[interactive,I.ok.kind]
def Bz(te:TE):TS:=fun D σ H=>te σ H fun _ H1=>D.nx σ H1
theorem pP(he:PE X e te)(hs:Vu e none pos.line X.env=pure false:=by rfl):PS X (.Expr e pos) (Bz te):=by
 intro pins s σ H D I h;exact wpAny_Expr_any (thn (he pins s σ H _ I h) fun v s1 ⟨x,H1,I1,r1,q1⟩=>⟨σ,H1,I1,q1⟩) I.quiet hs
def GR(te:TE):TS:=fun D σ H=>te σ H D.rt
theorem nS(he:PE X e te):PS X (.Return (some e) pos) (GR te):=by
 intro pins s σ H D I h;exact VC (thn (he pins s σ H _ I h) fun v s1 ⟨x,H1,I1,r1,q1⟩=>⟨x,σ,H1,I1,r1,q1⟩)
def GS(c:TT)(t u:TS):TS:=fun D σ H=>c σ H fun b H1=>if b=true then t D σ H1 else u D σ H1
theorem pQ{c:Expr}{a b:List Stmt}{tc:TT}(hc:PT X c tc)(ha:PSs X a t)(hb:PSs X b u):PS X (.If c a b pos) (GS tc t u):=by
 intro pins s σ H D I h;refine wpAny_If (thn (hc pins s σ H _ I h) fun d s1 ⟨H1,I1,q1⟩=>?_);cases d with
 |true=>exact ha pins s1 σ H1 D I1 q1
 |false=>exact hb pins s1 σ H1 D I1 q1
def Cv:TS:=fun _ _ _=>False
theorem mq:PS X st Cv:=fun _ _ _ _ _ _ h=>h.elim
end
abbrev TG:=V->St->Hp->(St->Hp->Prop)->Prop
abbrev TGs:=List V->St->Hp->(St->Hp->Prop)->Prop
def PG(X:Cx)(target:Expr)(t:TG):Prop:=
 ∀ (pins:List (Addr × Obj)) (s:Shared) (σ:St) (H:Hp) (v:V) (u:Value) (Q:St->Hp->Prop),Inv X pins σ H s->av v u->t v σ H Q ->
  wpAny (model X.prog X.w) X.A (assign target X.env u) (fun _ s'=>∃σ' H',Inv X pins σ' H' s'/\Q σ' H') X.xe s
def PGs(X:Cx)(ts:List Expr)(t:TGs):Prop:=
 ∀ (pins:List (Addr × Obj)) (s:Shared) (σ:St) (H:Hp) (vs:List V) (us:List Value) (Q:St->Hp->Prop),Inv X pins σ H s->aG vs us->t vs σ H Q ->
  wpAny (model X.prog X.w) X.A (WT ((WR ts X.env).map (·.2)) us) (fun _ s'=>∃σ' H',Inv X pins σ' H' s'/\Q σ' H') X.xe s
abbrev xR:=V->V->V->Hp->(Hp->Prop)->Prop
def Cw(X:Cx)(t:xR):Prop:=
 ∀ (pins:List (Addr × Obj)) (s:Shared) (σ:St) (H:Hp) (o i v:V) (ov iv u:Value) (Q:Hp->Prop),Inv X pins σ H s->av o ov->av i iv->av v u->t o i v H Q ->
  wpAny (model X.prog X.w) X.A (setItem ov iv u) (fun _ s'=>∃H',Inv X pins σ H' s'/\Q H') X.xe s
section
variable {X:Cx} {pos:Pos}
def jR(i:Nat):TG:=fun v σ H Q=>Q (σ.set i (some v)) H
theorem pR{i:Nat}{x:Str}(hN:X.N.Nodup)(hi:X.N[i]?=some x)(hx:Loc X.env.scope x)(hf:X.fn x=true\/X.env.scope.names.lookup x=some .local:=by first |exact .inl rfl |exact .inr rfl |assumption):PG X (.Name x pos) (jR i):=by
 intro pins s σ H v u Q I r h;exact wpAny_assign_Name (b7 I hN hi hx r (fun s' I'=>⟨_,H,I',h⟩) hf)
def GU:TGs:=fun vs σ H Q=>vs=[]/\Q σ H
def BA(t:TG)(u:TGs):TGs:=fun vs σ H Q=>∃v r,vs=v::r/\t v σ H fun σ' H'=>u r σ' H' Q
theorem xS:PGs X [] GU:=by
 intro pins s σ H vs us Q I r h;obtain⟨e,h⟩:=h;subst e;cases r;exact assignInOrder_nil ⟨σ,H,I,h⟩
theorem tH{e:Expr}{es:List Expr}{t:TG}{u:TGs}(h1:PG X e t)(h2:PGs X es u)
  (hs:(WR (e::es) X.env).map (·.2)=assign e X.env::(WR es X.env).map (·.2):=by rfl):PGs X (e::es) (BA t u):=by
 intro pins s σ H vs us Q I r h;obtain⟨v,vr,e1,h⟩:=h;subst e1;cases r with
 |cons r rr=>
  rw[hs];refine assignInOrder_cons (thn (h1 pins s σ H _ _ _ I r h) fun _ s1 ⟨σ1,H1,I1,q1⟩=>?_);exact h2 pins s1 σ1 H1 _ _ Q I1 rr q1
def GV(K:Wu)(n:Nat)(t:TGs):TG:=fun v σ H Q=>∃a xs,v = .ref a/\SqT K H a xs/\xs.length=n/\t xs σ H Q
theorem Cy{es:List Expr}{k:Nat}{t:TGs}{n:Nat}(hc:X.calm=true)(h:PGs X es t)
  (hn:(WR es X.env).length=n:=by rfl) (hst:(WR es X.env).findIdx? (·.1)=none:=by rfl):PG X (.Tuple es k pos) (GV X.K n t):=by
 intro pins s σ H v u Q I r hw;obtain⟨a,xs,e1,hq,hl,hw⟩:=hw;subst e1;cases r;obtain⟨its,rv,ht,hz⟩:=I.tuple hq;refine assign_Tuple_tuple (I.ok.hd hc) ht (by simp[hn,<-hl,rv.length]) hst fun h' hx=>?_;have I1:Inv X pins σ H { s with heap:=h' }:=I.kept (t':=s.toks) fun b o e=>hx b o (ZA (Zn e)) e;exact h pins _ σ H xs _ Q I1 (by simpa using rv) hw
def GW(to ti:TE)(t:xR):TG:=fun v σ H Q=>to σ H fun o H1=>ti σ H1 fun i H2=>t o i v H2 fun H3=>Q σ H3
theorem Cz{o i:Expr}{to ti:TE}{t:xR}(ho:PE X o to)(hi:PE X i ti)(hs:Cw X t)
  (ha:∀v,assign (.Subscript o i pos) X.env v=(do
   let ov <-holding [v] (eval o X.env)
   let iv <-holding [v,ov] (eval i X.env)
   standAt pos
   holding [v,ov,iv] (setItem ov iv v)
   release [v,ov,iv] []):=by intro _;rfl):PG X (.Subscript o i pos) (GW to ti t):=by
 intro pins s σ H v u Q I r h;rw[ha];refine VF (VN (thn (ho pins s σ H _ I h) fun ov s1 ⟨x,H1,I1,r1,q1⟩=>?_));refine VF (VN (thn (hi pins s1 σ H1 _ I1 q1) fun iv s2 ⟨y,H2,I2,r2,q2⟩=>?_));refine VF (V4 (VF (VN (thn (hs pins s2 σ H2 x y v ov iv u _ I2 r1 r2 r q2) fun _ s3 ⟨H3,I3,q3⟩=>?_))));exact wpAny_release ⟨σ,H3,I3,q3⟩
def tI(te:TE)(g:TG):TS:=fun D σ H=>te σ H fun x H1=>g x σ H1 D.nx
theorem iz{tg e:Expr}{te:TE}{g:TG}(he:PE X e te)(hg:PG X tg g)(hs:Vv [tg] e pos.line X.env=pure false:=by rfl)(hw:Vt [tg] e X.env=pure none:=by rfl)
  (h1:(WR [tg] X.env).map (·.2)=[assign tg X.env]:=by rfl):PS X (.Assign [tg] e pos) (tI te g):=by
 intro pins s σ H D I h;refine wpAny_Assign_stores (thn (he pins s σ H _ I h) fun v s1 ⟨x,H1,I1,r1,q1⟩=>?_) hs hw;rw[h1];exact thn (hg pins s1 σ H1 x v _ I1 r1 q1) fun _ s2 q=>q
theorem CA{i:Nat}{x:Str}{e:Expr}{te:TE}{pos':Pos}(hN:X.N.Nodup)(hi:X.N[i]?=some x)(hx:Loc X.env.scope x)(he:PE X e te)(hs:Vu e (some (.Name x pos')) pos.line X.env=pure false:=by rfl)(hf:X.fn x=true\/X.env.scope.names.lookup x=some .local:=by first |exact .inl rfl |exact .inr rfl |assumption) :
  PS X (.Assign [.Name x pos'] e pos) (tI te (jR i)):=by
 intro pins s σ H D I h;refine wpAny_Assign_Name (thn (he pins s σ H _ I h) fun v s1 ⟨y,H1,I1,r1,q1⟩=>?_) hs;exact b7 I1 hN hi hx r1 (fun s2 I2=>⟨_,H1,I2,q1⟩) hf
def GX(i j:Nat)(ta:TA):TS:=fun D σ H=>ta σ H fun vs H1=>∃v w,vs=[v,w]/\D.nx ((σ.set i (some v)).set j (some w)) H1
theorem CB{i j:Nat}{x y:Str}{a b:Expr}{ta:TA}{px py pt:Pos}{kt k2 pt2}(hc:X.calm=true)(hN:X.N.Nodup)(hi:X.N[i]?=some x)(hj:X.N[j]?=some y)(hij:i ≠ j)
  (hx:X.env.scope.names.lookup x=some .local) (hy:X.env.scope.names.lookup y=some .local) (ha:PA X [a,b] ta)
  (hw:Vt [.Tuple [.Name x px,.Name y py] kt pt] (.Tuple [a,b] k2 pt2) X.env=pure (some [x,y]))
  (hs:Vv [.Tuple [.Name x px,.Name y py] kt pt] (.Tuple [a,b] k2 pt2) pos.line X.env=pure false:=by rfl) :
  PS X (.Assign [.Tuple [.Name x px,.Name y py] kt pt] (.Tuple [a,b] k2 pt2) pos) (GX i j ta):=by
 intro pins s σ H D I h;rw[exec_Assign_arm];refine VF (V4 ?_);rw[hs];refine VF (VY ?_);rw[if_neg (by decide)];refine VF (Tuple_ (thn (ha _ pins s σ H _ I h) fun us s1 ⟨vs,H1,I1,r1,q1⟩=>?_));obtain⟨v,w,e1,q1⟩:=q1;subst e1
 obtain⟨u1,u2,rfl,rv,rw'⟩:∃u1 u2,us=[u1,u2]/\av v u1/\av w u2:=by
  cases r1 with
  |cons p q=>
   cases q with
   |cons p' q'=>
    cases q';exact⟨_,_,rfl,p,p'⟩
 refine VW ?_ (by show 2<=sizeLine;decide);have I2:Inv X pins σ H1 { s1 with heap:=s1.heap.push { cls:=.type "tuple", data:=.seq [u1,u2].toArray } }:=I1.kept (t':=s1.toks) fun b o e=>Zl _ e;rw[hw];refine VF (VY ?_);show wpAny (model X.prog X.w) X.A (do rule "assign.swapped-stores"; let items <-unpackItems (.ref s1.heap.objs.size) 2 none;WT [fun v=>WW X.env y v,fun v=>WW X.env x v] items.reverse;pure Flow.next) _ _ _;refine VF (V3 (VF (unpackItems_tuple (items:=#[u1,u2]) (I.ok.hd hc) (IsTup.new s1.heap _) fun h' hx'=>?_)));have I3:=I2.kept (h':=h') (t':=s1.toks) fun b o e=>hx' b o (ZA (Zn e)) e;show wpAny _ _ (WT [fun v=>WW X.env y v,fun v=>WW X.env x v] [u2,u1] >>= fun _=>pure Flow.next) _ _ _;refine VF (assignInOrder_cons (VG (b7 I3 hN hj (.inl hy) rw' (fun s2 I4=>?_) (.inr hy))));refine assignInOrder_cons (VG (b7 I4 hN hi (.inl hx) rv (fun s3 I5=>assignInOrder_nil (VY ?_)) (.inr hx)));rw[YH _ _ (Ne.symm hij)] at I5;exact⟨_,H1,I5,q1⟩
end
section
variable {X:Cx} {pos:Pos}
def tJ(c:TT)(tb:TS):TS:=fun D σ H=>∃W:Nat->St->Hp->Prop,(∃m,W m σ H)/\∀m σ H,W m σ H ->
 c σ H fun b H1=>if b=true then ∃N:St->Hp->Prop,(∀σ' H',N σ' H'->∃m',m' < m/\W m' σ' H')/\tb { D with nx:=N,ct:=N,bk:=D.nx } σ H1 else D.nx σ H1
theorem tK{c:Expr}{body:List Stmt}{tc:TT}{tb:TS}(hp:PassesOwn (model X.prog X.w) X.A X.env X.xe)(hc:PT X c tc)(hb:PSs X body tb):PS X (.While c body [] pos) (tJ tc tb):=by
 intro pins s σ H D I h;obtain⟨W,⟨m0,w0⟩,turn⟩:=h;refine wpAny_While (codeAny_whileLoop (fun n s'=>∃σ' H',Inv X pins σ' H' s'/\W n σ' H') ?_ m0 ⟨σ,H,I,w0⟩);rintro n s1 ⟨σ1,H1,I1,w1⟩;refine VX hp (thn (hc pins s1 σ1 H1 _ I1 (turn n σ1 H1 w1)) fun b s2 ⟨H2,I2,q2⟩=>?_);cases b with
 |true=>
  obtain⟨N,hN,q2⟩:=q2;rw[if_pos rfl];refine VX hp (thn (hb pins s2 σ1 H2 _ I2 q2) fun f s3 q3=>?_);cases f with
  |next=>
   obtain⟨σ3,H3,I3,n3⟩:=q3;obtain⟨m',hm,w3⟩:=hN σ3 H3 n3;exact⟨m',hm,σ3,H3,I3,w3⟩
  |cont=>
   obtain⟨σ3,H3,I3,n3⟩:=q3;obtain⟨m',hm,w3⟩:=hN σ3 H3 n3;exact⟨m',hm,σ3,H3,I3,w3⟩
  |brk=>exact q3
  |ret v=>exact q3
 |false=>
  rw[if_neg Zb];exact VL ⟨σ1,H2,I2,q2⟩
end
structure It where
 go:Nat->Hp->Prop
 yld:Nat->Hp->V->Hp->Prop
 stop:Nat->Hp->Prop
def fk(X:Cx)(pins:List (Addr × Obj))(H:Hp)(b:Addr):Prop:=
 H b=none/\b ≠ X.env.locals/\b ∉ X.fs/\(b ∈ X.ex\/X.s₀.heap.objs.size<=b)/\(∀x c,X.env.cells.lookup x=some c->c ≠ b)/\∀p ∈ X.pn++pins,p.1 ≠ b
theorem Inv.fpOk{X:Cx}{pins:List (Addr × Obj)}{σ:St}{H H':Hp}{s:Shared}{b:Addr}(I:Inv X pins σ H s)(hb:s.heap.objs.size<=b)(hn:H' b=none):fk X pins H' b:=by
 refine⟨hn,Y6 (Zs I.lt hb),I.nofs hb,.inr (Zr I.sz hb),fun x c e z=>?_,fun p hp z=>?_⟩
 ·obtain⟨v,q⟩:=I.cell x c e;exact absurd (Zs q.lt (by rw[z];exact hb)) (ZK _)
 ·exact absurd (Zs (Zn (I.pin p hp).1) (by rw[z];exact hb)) (ZK _)
structure Turn(P:Program)(w:World)(K:Wu)(tg:Expr)(J:It)(fp:List Addr)(it:Addr)(tn:Nat->Heap->Prop):Prop where
 mem:it ∈ fp
 obj:∀i h,tn i h->∀b ∈ fp,∃o,h.get? b=some o/\∀v,o.data ≠ .cell v
 keep:∀i h h',tn i h->(∀b ∈ fp,∀o,h.get? b=some o->h'.get? b=some o)->tn i h'
 item:∀ (X:Cx),X.prog=P->X.w=w->X.K=K->X.calm=true->∀ (i:Nat) (pins:List (Addr × Obj)) (s:Shared) (σ:St) (H:Hp) (E:Value->Shared->Prop),Inv X pins σ H s->(∀b ∈ fp,fk X pins H b)->tn i s.heap->J.go i H ->
  wpAny (model P w) X.A (pyNext (.ref it)) (fun r s1=>∃u,r=some u ∧
   wpAny (model P w) X.A (Vb tg (.ref it) u) (fun _ s2=>∃x H',Inv X pins σ H' s2/\av x u/\J.yld i H x H'/\tn (i+1) s2.heap/\∀b ∈ fp,H' b=none) E s1) E s
 done:∀ (X:Cx),X.prog=P->X.w=w->X.K=K->X.calm=true->∀ (i:Nat) (pins:List (Addr × Obj)) (s:Shared) (σ:St) (H:Hp) (E:Value->Shared->Prop),Inv X pins σ H s->(∀b ∈ fp,fk X pins H b)->tn i s.heap->J.stop i H ->
  wpAny (model P w) X.A (pyNext (.ref it)) (fun r s1=>r=none/\Inv X pins σ H s1) E s
 self:∀ (A:Around) (i:Nat) (s:Shared) (Q:Value->Shared->Prop) (E:Value->Shared->Prop),tn i s.heap->Q (.ref it) s->wpAny (model P w) A (pyIter (.ref it)) Q E s
abbrev TI:=St->Hp->(It->Hp->Prop)->Prop
def PIE(X:Cx)(pins:List (Addr × Obj))(σ:St)(tg:Expr)(R:It->Hp->Prop)(itv:Value)(s2:Shared):Prop:=
 ∃ (it:Addr) (fp:List Addr) (tn:Nat->Heap->Prop) (J:It) (H':Hp),itv = .ref it/\Inv X pins σ H' s2/\Turn X.prog X.w X.K tg J fp it tn/\tn 0 s2.heap/\(∀b ∈ fp,fk X pins H' b)/\R J H'
def PI(X:Cx)(tg iter:Expr)(wi:TI):Prop:=
 ∀ (pins:List (Addr × Obj)) (s:Shared) (σ:St) (H:Hp) (R:It->Hp->Prop),Inv X pins σ H s->wi σ H R ->
  wpAny (model X.prog X.w) X.A (eval iter X.env) (fun v s1=>wpAny (model X.prog X.w) X.A (pyIter v) (PIE X pins σ tg R) X.xe s1) X.xe s
theorem tL{M:Model}{A:Around}{E:Value->Shared->Prop}{s:Shared}{tg:Expr}{it:Addr}{u:Value}{o:Obj}{n:String}{vs:Array Value}{Q:Unit->Shared->Prop}(ho:s.heap.get? it=some o)(hc:o.cls = .type n)(hd:o.data = .fields vs)
  (hn:["enumerate", "zip", "dict_itemiterator", "dict_reverseitemiterator", "odict_iterator", "itertools.zip_longest", "itertools.pairwise"].contains n=false) (hQ:Q () s):wpAny M A (Vb tg (.ref it) u) Q E s:=by
 unfold Vb
 cases tg <;> first
  |exact VY hQ
  | (cases u <;> first
    |exact VY hQ
    | (refine VF (wpAny_load ho ?_)
       rw[hc,hd];show wpAny M A (if (["enumerate", "zip", "dict_itemiterator", "dict_reverseitemiterator", "odict_iterator", "itertools.zip_longest", "itertools.pairwise"].contains n && vs[0]? == some (rawInt _))=true then _ else _) Q E s;rw[if_neg (by intro h;rw[hn,ZQ] at h;cases h)];exact VY hQ))
noncomputable def Itl(K:Wu)(a:Addr):It:=
 ⟨fun i H=>∃xs x,SqL K H a xs/\xs[i]?=some x,fun i H x H'=>H'=H/\∀xs,SqL K H a xs->xs[i]?=some x,fun i H=>∃xs,SqL K H a xs/\xs.length<=i⟩
noncomputable def Itt(K:Wu)(a:Addr):It:=
 ⟨fun i H=>∃xs x,SqT K H a xs/\xs[i]?=some x,fun i H x H'=>H'=H/\∀xs,SqT K H a xs->xs[i]?=some x,fun i H=>∃xs,SqT K H a xs/\xs.length<=i⟩
noncomputable def Itr(lo:Int)(n:Nat):It:=⟨fun i _=>i < n,fun i H x H'=>H'=H/\x = .int (lo+i),fun i _=>n<=i⟩
theorem rB{P:Program}{w:World}{K:Wu}{tg:Expr}(a it:Addr):Turn P w K tg (Itl K a) [it] it (fun i h=>h.IsListIter it a i) where
 mem:=by simp
 obj:=fun i h st b hb=>by
  have e:b=it:=by simpa using hb
  subst e;obtain⟨o,e,c,d⟩:=st;exact⟨o,e,fun v z=>by rw[d] at z;cases z⟩
 keep:=fun i h h' st k=>st.at fun o e=>k it (by simp) o e
 item:=by
  intro X hP hw hK hc i pins s σ H E I hf st hg;subst hP hw hK;obtain⟨xs,x,hq,hx⟩:=hg;obtain⟨its,rv,p,hz⟩:=I.list hq;obtain⟨u,hu,ru⟩:=rv.get hx;obtain⟨f0,f1,f2,f3,f4,f5⟩:=hf it (by simp);refine wpAny_pyNext_list_item st p.isList (x:=u) (by simpa using hu) fun h' st' sb=>?_;have I1:Inv X pins σ H { s with heap:=h' }:=I.turned (t':=s.toks) (fun b o hb e=>(sb.2 b hb).trans e) f0 f1 f3 f4 f5;obtain⟨o,e,c,d⟩:=id st';exact⟨u,rfl,tL (s:={ s with heap:=h' }) e c d (by decide) ⟨x,H,I1,ru,⟨rfl,fun ys hy=>by rw[I.list_inj hy hq];exact hx⟩,st',fun b hb=>(hf b hb).1⟩⟩
 done:=by
  intro X hP hw hK hc i pins s σ H E I hf st hg;subst hP hw hK;obtain⟨xs,hq,hx⟩:=hg;obtain⟨its,rv,p,hz⟩:=I.list hq;obtain⟨f0,f1,f2,f3,f4,f5⟩:=hf it (by simp);have hl:=rv.length;exact wpAny_pyNext_list_end (I.ok.hd hc) st p.isList (by simp;omega) fun h' eb=>⟨rfl,I.turned (t':=s.toks) (fun b o hb e=>eb b o hb e) f0 f1 f3 f4 f5⟩
 self:=fun _ _ _ _ _ st h=>wpAny_pyIter_listiter st h
theorem nT{P:Program}{w:World}{K:Wu}{tg:Expr}(a it:Addr):Turn P w K tg (Itt K a) [it] it (fun i h=>h.IsTupleIter it a i) where
 mem:=by simp
 obj:=fun i h st b hb=>by
  have e:b=it:=by simpa using hb
  subst e;obtain⟨o,e,c,d⟩:=st;exact⟨o,e,fun v z=>by rw[d] at z;cases z⟩
 keep:=fun i h h' st k=>st.at fun o e=>k it (by simp) o e
 item:=by
  intro X hP hw hK hc i pins s σ H E I hf st hg;subst hP hw hK;obtain⟨xs,x,hq,hx⟩:=hg;obtain⟨its,rv,p,hz⟩:=I.tuple hq;obtain⟨u,hu,ru⟩:=rv.get hx;obtain⟨f0,f1,f2,f3,f4,f5⟩:=hf it (by simp);refine wpAny_pyNext_tuple_item st (show s.heap.IsTuple a its.toArray from p) (x:=u) (by simpa using hu) fun h' st' sb=>?_;have I1:Inv X pins σ H { s with heap:=h' }:=I.turned (t':=s.toks) (fun b o hb e=>(sb.2 b hb).trans e) f0 f1 f3 f4 f5;obtain⟨o,e,c,d⟩:=id st';exact⟨u,rfl,tL (s:={ s with heap:=h' }) e c d (by decide) ⟨x,H,I1,ru,⟨rfl,fun ys hy=>by rw[I.tuple_inj hy hq];exact hx⟩,st',fun b hb=>(hf b hb).1⟩⟩
 done:=by
  intro X hP hw hK hc i pins s σ H E I hf st hg;subst hP hw hK;obtain⟨xs,hq,hx⟩:=hg;obtain⟨its,rv,p,hz⟩:=I.tuple hq;obtain⟨f0,f1,f2,f3,f4,f5⟩:=hf it (by simp);have hl:=rv.length;exact wpAny_pyNext_tuple_end (I.ok.hd hc) st (show s.heap.IsTuple a its.toArray from p) (by simp;omega) fun h' eb=>⟨rfl,I.turned (t':=s.toks) (fun b o hb e=>eb b o hb e) f0 f1 f3 f4 f5⟩
 self:=fun _ _ _ _ _ st h=>wpAny_pyIter_tupleiter st h
theorem nU{P:Program}{w:World}{K:Wu}{tg:Expr}(it:Addr)(lo:Int)(n:Nat):Turn P w K tg (Itr lo n) [it] it (fun i h=>IsRangeIter h it (lo+(i:Nat) * 1) ((n:Int) - (i:Nat)) 1) where
 mem:=by simp
 obj:=fun i h st b hb=>by
  have e:b=it:=by simpa using hb
  subst e
  exact⟨_,st,fun v z=>by
   have z':Data.fields _=Data.cell v:=z;cases z'⟩
 keep:=fun i h h' st k=>k it (by simp) _ st
 item:=by
  intro X hP hw hK hc i pins s σ H E I hf st hg;subst hP hw hK;obtain⟨f0,f1,f2,f3,f4,f5⟩:=hf it (by simp);have W:=Walks.range (prog:=X.prog) (w:=X.w) (I.ok.hd hc) it lo 1 n;refine W.item i s _ _ hg st fun v h' tk hv st' kk=>?_;obtain⟨t,rfl⟩:=hv;have I1:Inv X pins σ H { s with heap:=h',toks:=tk }:=I.turned (fun b o hb e=>kk b o (by simpa using hb) e) f0 f1 f3 f4 f5;refine⟨_,rfl,tL (s:={ s with heap:=h',toks:=tk }) (n := "range_iterator") st' rfl rfl (by decide) ⟨.int (lo+i),H,I1,⟨t,?_⟩,⟨rfl,rfl⟩,st',fun b hb=>(hf b hb).1⟩⟩;rw[Int.mul_one]
 done:=by
  intro X hP hw hK hc i pins s σ H E I hf st hg;subst hP hw hK;obtain⟨f0,f1,f2,f3,f4,f5⟩:=hf it (by simp);exact wpAny_pyNext_range_end (I.ok.hd hc) st (by have:n<=i:=hg;omega) fun h' eb=>⟨rfl,I.turned (t':=s.toks) (fun b o hb e=>eb b o hb e) f0 f1 f3 f4 f5⟩
 self:=fun _ _ _ _ _ st h=>wpAny_pyIter_rangeiter st h
section
variable {X:Cx} {tg:Expr}
def tM(K:Wu)(tl:TE):TI:=fun σ H R=>tl σ H fun x H1=>∃a,x = .ref a/\(∃xs,SqL K H1 a xs)/\R (Itl K a) H1
def GY(K:Wu)(tl:TE):TI:=fun σ H R=>tl σ H fun x H1=>∃a,x = .ref a/\(∃xs,SqT K H1 a xs)/\R (Itt K a) H1
theorem pS{l:Expr}{tl:TE}(hl:PE X l tl):PI X tg l (tM X.K tl):=by
 intro pins s σ H R I h;refine thn (hl pins s σ H _ I h) fun v s1 ⟨x,H1,I1,r1,q1⟩=>?_;obtain⟨a,e,⟨xs,hq⟩,q⟩:=q1;subst e;cases r1;obtain⟨its,rv,p,hz⟩:=I1.list hq;refine wpAny_pyIter_list p.isList ?_;refine⟨s1.heap.objs.size,[s1.heap.objs.size],_,_,H1,rfl,I1.kept (t':=s1.toks) fun b o e=>Zl _ e,rB a _,⟨_,ZB _ rfl,rfl,rfl⟩,fun b hb=>?_,q⟩;have e:b=s1.heap.objs.size:=by simpa using hb
 subst e;exact I1.fpOk (Ze _) (I1.hok.fresh (Ze _))
theorem CC{l:Expr}{tl:TE}(hl:PE X l tl):PI X tg l (GY X.K tl):=by
 intro pins s σ H R I h;refine thn (hl pins s σ H _ I h) fun v s1 ⟨x,H1,I1,r1,q1⟩=>?_;obtain⟨a,e,⟨xs,hq⟩,q⟩:=q1;subst e;cases r1;obtain⟨its,rv,p,hz⟩:=I1.tuple hq;refine V0 (show s1.heap.IsTuple a its.toArray from p) ?_;refine⟨s1.heap.objs.size,[s1.heap.objs.size],_,_,H1,rfl,I1.kept (t':=s1.toks) fun b o e=>Zl _ e,nT a _,⟨_,ZB _ rfl,rfl,rfl⟩,fun b hb=>?_,q⟩;have e:b=s1.heap.objs.size:=by simpa using hb
 subst e;exact I1.fpOk (Ze _) (I1.hok.fresh (Ze _))
theorem mr{pins:List (Addr × Obj)}{σ:St}{H:Hp}{s:Shared}{R:It->Hp->Prop}{E:Value->Shared->Prop}{lo hi:Int}{t u v:Tok}{tk:Nat}(I:Inv X pins σ H s)(h1:-(2 ^ 62)<=lo)(h2:lo < 2 ^ 62)(h3:-(2 ^ 62)<=hi)(h4:hi < 2 ^ 62)
  (q:R (Itr lo (hi - lo).toNat) H):wpAny (model X.prog X.w) X.A (pyIter (.ref s.heap.objs.size)) (PIE X pins σ tg R) E { s with heap:=s.heap.push { cls:=.type "range", data:=.fields #[.int lo t,.int hi u,.int 1 v] },toks:=tk }:=by
 refine wpAny_pyIter_range (IsRange.new ..) (small_one h1 h2 h3 h4) ?_;have I1:Inv X pins σ H { s with heap:=s.heap.push { cls:=.type "range", data:=.fields #[.int lo t,.int hi u,.int 1 v] },toks:=tk }:=I.kept fun b o e=>Zl _ e
 refine⟨(s.heap.push { cls:=.type "range", data:=.fields #[.int lo t,.int hi u,.int 1 v] }).objs.size,[(s.heap.push { cls:=.type "range", data:=.fields #[.int lo t,.int hi u,.int 1 v] }).objs.size],_,_,H,rfl,
  I1.kept (t':=tk) fun b o e=>Zl _ e,nU _ lo (hi - lo).toNat,?_,fun b hb=>?_,q⟩
 ·have e1:lo+((0:Nat):Int) * 1=lo:=by simp
  have e2:(((hi - lo).toNat:Nat):Int) - ((0:Nat):Int)=Builtin.Range.rangeSize lo hi 1:=by rw[Vk];split <;> omega
  show IsRangeIter _ _ (lo+((0:Nat):Int) * 1) ((((hi - lo).toNat:Nat):Int) - ((0:Nat):Int)) 1;rw[e1,e2];exact ZB _ rfl
 ·have e:b=(s.heap.push { cls:=.type "range", data:=.fields #[.int lo t,.int hi u,.int 1 v] }).objs.size:=by simpa using hb
  subst e;exact I1.fpOk (Ze _) (I1.hok.fresh (Ze _))
def BB(ta:TA):TI:=fun σ H R=>ta σ H fun vs H1=>∃j:Int,vs=[.int j]/\-(2 ^ 62)<=j/\j < 2 ^ 62/\R (Itr 0 j.toNat) H1
def BC(ta:TA):TI:=fun σ H R=>ta σ H fun vs H1=>∃i j:Int,vs=[.int i,.int j]/\(-(2 ^ 62)<=i/\i < 2 ^ 62/\-(2 ^ 62)<=j/\j < 2 ^ 62)/\R (Itr i (j - i).toNat) H1
theorem rC{a:Expr}{ta:TA}{p pos:Pos}(hg:Gl X "range")(hm:X.mg "range" = none)(ha:PA X [a] ta)(hs:Vr [a] X.env=[(false,eval a X.env)]:=by rfl):PI X tg (.Call (.Name "range" p) [a] [] pos) (BB ta):=by
 intro pins s σ H R I h;refine Call_ (fD I hg hm boot_range (XG (thn (ha pos pins s σ H _ I h) fun us s1 ⟨vs,H1,I1,r1,q1⟩=>?_) hs rfl));obtain⟨j,e,q1,q2,q⟩:=q1;subst e;cases r1 with
 |cons r rr=>
  cases rr;obtain⟨t,rfl⟩:=r;exact call_range_1 (mr I1 (by omega) (by omega) q1 q2 (by simpa using q))
theorem rD{a b:Expr}{ta:TA}{p pos:Pos}(hg:Gl X "range")(hm:X.mg "range" = none)(ha:PA X [a,b] ta)(hs:Vr [a,b] X.env=[(false,eval a X.env),(false,eval b X.env)]:=by rfl)(hs2:Vr [b] X.env=[(false,eval b X.env)]:=by rfl) :
  PI X tg (.Call (.Name "range" p) [a,b] [] pos) (BC ta):=by
 intro pins s σ H R I h;refine Call_ (fD I hg hm boot_range (XG (thn (ha pos pins s σ H _ I h) fun us s1 ⟨vs,H1,I1,r1,q1⟩=>?_) (by rw[hs,hs2]) (by rw[hs2];rfl)));obtain⟨i,j,e,⟨q1,q2,q3,q4⟩,q⟩:=q1;subst e;cases r1 with
 |cons r rr=>
  cases rr with
  |cons r' rr=>
   cases rr;obtain⟨t,rfl⟩:=r;obtain⟨t',rfl⟩:=r';exact call_range_2 (mr I1 q1 q2 q3 q4 q)
def GZ(wi:TI)(g:TG)(tb:TS):TS:=fun D σ H=>wi σ H fun J H1=>∃W:Nat->Nat->St->Hp->Prop,(∃m,W 0 m σ H1)/\∀i m σ H,W i m σ H ->
 (J.stop i H/\D.nx σ H)\/(J.go i H/\∃N:St->Hp->Prop,(∀σ' H',N σ' H'->∃m',m' < m/\W (i+1) m' σ' H')/\∀x H',J.yld i H x H'->g x σ H' fun σ2 H2=>tb { D with nx:=N,ct:=N,bk:=D.nx } σ2 H2)
noncomputable def iA(fp:List Addr)(h:Heap):List (Addr × Obj):=fp.filterMap fun b=>(h.get? b).map fun o=>(b,o)
theorem c9{fp:List Addr}{h:Heap}{b:Addr}{o:Obj}(hb:b ∈ fp)(e:h.get? b=some o):(b,o) ∈ iA fp h:=Yg.mpr ⟨b,hb,by rw[e];rfl⟩
theorem rE{fp:List Addr}{h:Heap}{p:Addr × Obj}(hp:p ∈ iA fp h):p.1 ∈ fp/\h.get? p.1=some p.2:=by
 obtain⟨b,hb,e⟩:=Yg.mp hp;cases q:h.get? b with
 |none=>rw[q] at e;cases e
 |some o=>
  rw[q] at e;have e':(b,o)=p:=Option.some.inj e;subst e';exact⟨hb,q⟩
theorem Inv.pinned{pins:List (Addr × Obj)}{σ:St}{H:Hp}{s:Shared}{fp:List Addr}(I:Inv X pins σ H s)(hf:∀b ∈ fp,fk X pins H b)(ho:∀b ∈ fp,∃o,s.heap.get? b=some o/\∀v,o.data ≠ .cell v):Inv X (pins++iA fp s.heap) σ H s:=
 I.pins_of fun p hp=>(Zu.mp hp).elim (fun z=>I.pin p (Zx _ z)) fun z=>by
  obtain⟨hb,e⟩:=rE z;obtain⟨f0,f1,f2,_⟩:=hf p.1 hb;obtain⟨o,e',d⟩:=ho p.1 hb;rw[e] at e';cases e';exact⟨e,f0,f1,f2,d⟩
theorem Inv.unpinned{pins pl:List (Addr × Obj)}{σ:St}{H:Hp}{s:Shared}(I:Inv X (pins++pl) σ H s):Inv X pins σ H s:=I.pins_of fun p hp=>I.pin p (Zx _ (Z9 _ hp))
theorem CD{iter:Expr}{body:List Stmt}{wi:TI}{g:TG}{tb:TS}{pos:Pos}(hp:PassesOwn (model X.prog X.w) X.A X.env X.xe)(hc:X.calm=true)(hi:PI X tg iter wi)(hg:PG X tg g)(hb:PSs X body tb)
  (hs:∀x,W9 iter X.env x=pure x:=by intro _;rfl):PS X (.For tg iter body [] pos) (GZ wi g tb):=by
 intro pins s σ H D I h;refine wpAny_For (thn (hi pins s σ H _ I h) fun v s1 h1=>thn h1 fun itv s2 h2=>?_) hs;obtain⟨it,fp,tn,J,H2,e,I2,T,st2,f2,W,⟨m0,w0⟩,turn⟩:=h2;subst e;have stat:∀ {H':Hp},(∀b ∈ fp,H' b=none)->∀b ∈ fp,fk X pins H' b:=fun hn b hb=>⟨hn b hb,(f2 b hb).2⟩;refine codeAny_forLoop_any (fun n s'=>∃i σ' H',Inv X pins σ' H' s'/\tn i s'.heap/\(∀b ∈ fp,H' b=none)/\W i n σ' H') ?_ m0 ⟨0,σ,H2,I2,st2,fun b hb=>(f2 b hb).1,w0⟩;rintro n s3 ⟨i,σ3,H3,I3,st3,fr3,w3⟩;rcases turn i n σ3 H3 w3 with ⟨stop,qn⟩ |⟨go,N,hN,step⟩
 ·refine VX hp (thn (T.done X rfl rfl rfl hc i pins s3 σ3 H3 X.xe I3 (stat fr3) st3 stop) fun r s4 ⟨hr,I4⟩=>?_);subst hr;exact VL ⟨σ3,H3,I4,qn⟩
 ·refine VX hp (thn (T.item X rfl rfl rfl hc i pins s3 σ3 H3 X.xe I3 (stat fr3) st3 go) fun r s4 ⟨u,hr,h4⟩=>?_);subst hr;refine VX hp (thn h4 fun _ s5 ⟨x,H5,I5,r5,y5,st5,fr5⟩=>?_);have I5':=I5.pinned (stat fr5) (T.obj _ _ st5);refine VX hp (thn (hg _ s5 σ3 H5 x u _ I5' r5 (step x H5 y5)) fun _ s6 ⟨σ6,H6,I6,q6⟩=>?_);refine VX hp (thn (hb _ s6 σ6 H6 _ I6 q6) fun f s7 q7=>?_)
  have again:∀ {σ7:St} {H7:Hp},Inv X (pins++iA fp s5.heap) σ7 H7 s7->N σ7 H7->∃m,m < n/\∃i σ' H',Inv X pins σ' H' s7/\tn i s7.heap/\(∀b ∈ fp,H' b=none)/\W i m σ' H':=fun {σ7 H7} I7 n7=>by
   obtain⟨m',hm,w7⟩:=hN σ7 H7 n7;refine⟨m',hm,i+1,σ7,H7,I7.unpinned,T.keep _ _ _ st5 fun b hb o e=>(I7.pin (b,o) (Zx _ (Zx _ (c9 hb e)))).1,fun b hb=>?_,w7⟩;obtain⟨o,e,d⟩:=T.obj _ _ st5 b hb;exact(I7.pin (b,o) (Zx _ (Zx _ (c9 hb e)))).2.1
  cases f with
  |next=>obtain⟨σ7,H7,I7,n7⟩:=q7;exact again I7 n7
  |cont=>obtain⟨σ7,H7,I7,n7⟩:=q7;exact again I7 n7
  |brk=>obtain⟨σ7,H7,I7,q7⟩:=q7;exact⟨σ7,H7,I7.unpinned,q7⟩
  |ret v=>obtain⟨x7,σ7,H7,I7,r7,q7⟩:=q7;exact⟨x7,σ7,H7,I7.unpinned,r7,q7⟩
end
abbrev R2:=V->V->Hp->VK->Prop
def OpR(X:Cx)(f:Value->Value->Sem Value)(r:R2):Prop:=
 ∀ (pins:List (Addr × Obj)) (s:Shared) (σ:St) (H:Hp) (x y:V) (v u:Value) (Q:VK),Inv X pins σ H s->av x v->av y u->r x y H Q ->
  wpAny (model X.prog X.w) X.A (f v u) (EP X pins σ Q) X.xe s
def UnR(X:Cx)(f:Value->Sem Value)(r:V->Hp->VK->Prop):Prop:=
 ∀ (pins:List (Addr × Obj)) (s:Shared) (σ:St) (H:Hp) (x:V) (v:Value) (Q:VK),Inv X pins σ H s->av x v->r x H Q ->
  wpAny (model X.prog X.w) X.A (f v) (EP X pins σ Q) X.xe s
def aV(X:Cx)(f:Value)(r:List V->Hp->VK->Prop):Prop:=
 ∀ (pins:List (Addr × Obj)) (s:Shared) (σ:St) (H:Hp) (xs:List V) (us:List Value) (Q:VK),Inv X pins σ H s->aG xs us->r xs H Q ->
  wpAny (model X.prog X.w) X.A (call f us) (EP X pins σ Q) X.xe s
def JS(X:Cx)(r:V->Hp->(Bool->Hp->Prop)->Prop):Prop:=
 ∀ (pins:List (Addr × Obj)) (s:Shared) (σ:St) (H:Hp) (x:V) (v:Value) (Q:Bool->Hp->Prop),Inv X pins σ H s->av x v->r x H Q ->
  wpAny (model X.prog X.w) X.A (truthy v) (TP X pins σ Q) X.xe s
def tOp(r:R2)(ta tb:TE):TE:=fun σ H Q=>ta σ H fun x H1=>tb σ H1 fun y H2=>r x y H2 Q
def tUn(r:V->Hp->VK->Prop)(ta:TE):TE:=fun σ H Q=>ta σ H fun x H1=>r x H1 Q
def rI(C:Int->Int->Prop)(g:Int->Int->V):R2:=fun x y H Q=>∃i j,x = .int i/\y = .int j/\C i j/\Q (g i j) H
def rI0(g:Int->Int->V):R2:=fun x y H Q=>∃i j,x = .int i/\y = .int j/\Q (g i j) H
def rU(g:Int->V):V->Hp->VK->Prop:=fun x H Q=>∃i,x = .int i/\Q (g i) H
section
variable {X:Cx} {a b c:Expr} {ta tb tc:TE} {pos:Pos}
theorem CF(ha:PE X a ta)(hb:PE X b tb){pins:List (Addr × Obj)}{s:Shared}{σ:St}{H:Hp}{R:V->V->Hp->Prop}(I:Inv X pins σ H s)
  (h:ta σ H fun x H1=>tb σ H1 fun y H2=>R x y H2) {Q:Value->Shared->Prop} {f:Value->Value->Sem Value}
  (hf:∀v u s2 x y H2,Inv X pins σ H2 s2->av x v->av y u->R x y H2->wpAny (model X.prog X.w) X.A (f v u) Q X.xe s2) :
  wpAny (model X.prog X.w) X.A (eval a X.env) (fun v s₁=>wpAny (model X.prog X.w) X.A (eval b X.env) (fun u s₂=>wpAny (model X.prog X.w) X.A (f v u) Q X.xe s₂) X.xe s₁) X.xe s:=by
 refine thn (ha pins s σ H _ I h) fun v s1 ⟨x,H1,I1,r1,q1⟩=>?_;refine thn (hb pins s1 σ H1 _ I1 q1) fun u s2 ⟨y,H2,I2,r2,q2⟩=>?_;exact hf v u s2 x y H2 I2 r1 r2 q2
theorem tN{op:Wa}{r:R2}(ho:OpR X (WV op) r)(ha:PE X a ta)(hb:PE X b tb):PE X (.BinOp a op b pos) (tOp r ta tb):=by
 intro pins s σ H Q I h;exact wpAny_BinOp (CF ha hb I h fun v u s2 x y H2 I2 rx ry q=>ho pins s2 σ H2 x y v u Q I2 rx ry q)
theorem G0{op:UnaryOp}{r:V->Hp->VK->Prop}(ho:UnR X (unaryOp op) r)(ha:PE X a ta):PE X (.UnaryOp op a pos) (tUn r ta):=by
 intro pins s σ H Q I h;exact UnaryOp_ (thn (ha pins s σ H _ I h) fun v s1 ⟨x,H1,I1,r1,q1⟩=>ho pins s1 σ H1 x v Q I1 r1 q1)
theorem opI{f:Value->Value->Sem Value}{C:Int->Int->Prop}{g:Int->Int->Int}
  (rule:∀ (i j:Int) (t u:Tok) (s:Shared) (Q:Value->Shared->Prop) (E:Value->Shared->Prop),C i j->Q (.int (g i j) s.toks) { s with toks:=s.toks+1 }->wpAny (model X.prog X.w) X.A (f (.int i t) (.int j u)) Q E s) :
  OpR X f (rI C fun i j=>.int (g i j)):=by
 intro pins s σ H x y v u Q I rx ry h;obtain⟨i,j,rfl,rfl,hc,q⟩:=h;obtain⟨t,rfl⟩:=rx;obtain⟨t',rfl⟩:=ry;exact rule i j t t' s _ _ hc ⟨.int (g i j),H,I.tok _,⟨_,rfl⟩,q⟩
theorem G1{f:Value->Value->Sem Value}{g:Int->Int->Int}
  (rule:∀ (i j:Int) (t u:Tok) (s:Shared) (Q:Value->Shared->Prop) (E:Value->Shared->Prop),Q (.int (g i j) s.toks) { s with toks:=s.toks+1 }->wpAny (model X.prog X.w) X.A (f (.int i t) (.int j u)) Q E s) :
  OpR X f (rI0 fun i j=>.int (g i j)):=by
 intro pins s σ H x y v u Q I rx ry h;obtain⟨i,j,rfl,rfl,q⟩:=h;obtain⟨t,rfl⟩:=rx;obtain⟨t',rfl⟩:=ry;exact rule i j t t' s _ _ ⟨.int (g i j),H,I.tok _,⟨_,rfl⟩,q⟩
theorem xT{f:Value->Value->Sem Value}{g:Int->Int->Bool}
  (rule:∀ (i j:Int) (t u:Tok) (s:Shared) (Q:Value->Shared->Prop) (E:Value->Shared->Prop),Q (.bool (g i j)) s->wpAny (model X.prog X.w) X.A (f (.int i t) (.int j u)) Q E s) :
  OpR X f (rI0 fun i j=>.bl (g i j)):=by
 intro pins s σ H x y v u Q I rx ry h;obtain⟨i,j,rfl,rfl,q⟩:=h;obtain⟨t,rfl⟩:=rx;obtain⟨t',rfl⟩:=ry;exact rule i j t t' s _ _ ⟨.bl (g i j),H,I,rfl,q⟩
def JT(i j:Int):Prop:=0<=j/\j<=1000000/\i.natAbs < 2 ^ 64
def G2(i j:Int):Prop:=(-(2 ^ 64) < i/\i < 2 ^ 64)\/(-(2 ^ 64) < j/\j < 2 ^ 64)
theorem G2.ok{i j:Int}(h:G2 i j):IntMulOk i j:=by
 rcases h with ⟨h1,h2⟩ |⟨h1,h2⟩
 ·exact .of_left (intBits_le_64 h1 h2)
 ·exact .of_right (intBits_le_64 h1 h2)
theorem CG:OpR X (WV .Add) (rI0 fun i j=>.int (i+j)):=G1 fun _ _ _ _ _ _ _ q=>add_int q
theorem CH:OpR X (WV .Sub) (rI0 fun i j=>.int (i - j)):=G1 fun _ _ _ _ _ _ _ q=>sub_int q
theorem CJ:OpR X (WV .Mult) (rI G2 fun i j=>.int (i * j)):=opI fun _ _ _ _ _ _ _ hc q=>mul_int q hc.ok
theorem CK:OpR X (WV .Mod) (rI (fun _ j=>0 < j) fun i j=>.int (i % j)):=opI fun i j _ _ _ _ _ hc q=>by
 have h1:(0:Int) < j:=hc;exact mod_int' (by omega) (by rw[Int.fmod_eq_emod_of_nonneg i (by omega)];exact q)
theorem CL:OpR X (WV .Pow) (rI JT fun i j=>.int (i ^ j.toNat)):=opI fun _ _ _ _ _ _ _ hc q=>pow_int_small hc.1 hc.2.1 hc.2.2 q
theorem unI{f:Value->Sem Value}{g:Int->Int}
  (rule:∀ (i:Int) (t:Tok) (s:Shared) (Q:Value->Shared->Prop) (E:Value->Shared->Prop),Q (.int (g i) s.toks) { s with toks:=s.toks+1 }->wpAny (model X.prog X.w) X.A (f (.int i t)) Q E s) :
  UnR X f (rU fun i=>.int (g i)):=by
 intro pins s σ H x v Q I rx h;obtain⟨i,rfl,q⟩:=h;obtain⟨t,rfl⟩:=rx;exact rule i t s _ _ ⟨.int (g i),H,I.tok _,⟨_,rfl⟩,q⟩
theorem CM:UnR X (unaryOp .USub) (rU fun i=>.int (-i)):=unI fun _ _ _ _ _ q=>neg_int q
end
noncomputable def JU:V->V->Bool
 |.non,.non=>true |.non,.int _=>true |.int _,.non=>true |.non,.bl _=>true |.bl _,.non=>true |.non,.str _=>true |.str _,.non=>true
 |.int _,.int _=>true |.bl _,.bl _=>true |.str _,.str _=>true |.byt _,.byt _=>true
 |.int _,.str _=>true |.str _,.int _=>true |.bl _,.str _=>true |.str _,.bl _=>true
 |_,_=>false
def rNe:R2:=fun x y H Q=>JU x y=true/\Q (.bl (!decide (x=y))) H
theorem xU{i j:Int}:decide (V.int i=V.int j)=(i == j):=by
 rw[ZZ];simp
theorem CN{i j:Bool}:decide (V.bl i=V.bl j)=(i == j):=by
 rw[ZZ];simp
theorem xV{i j:Str}:decide (V.str i=V.str j)=(i == j):=by
 rw[ZZ];simp
theorem xW{i j:Array UInt8}:decide (V.byt i=V.byt j)=(i.toList == j.toList):=by
 rw[ZZ];cases i;cases j;simp
section
variable {X:Cx} {a b c:Expr} {ta tb tc:TE} {pos:Pos}
theorem bu{pins:List (Addr × Obj)}{σ:St}{H:Hp}{s:Shared}{Q:VK}{k k':Bool}(I:Inv X pins σ H s)(q:Q (.bl k) H)(e:k=k'):EP X pins σ Q (.bool k') s:=by
 subst e;exact⟨.bl k,H,I,rfl,q⟩
theorem G3:OpR X (W5 .NotEq) rNe:=by
 intro pins s σ H x y v u Q I rx ry h;obtain⟨hs,q⟩:=h;cases x with
 |non=>
  cases rx;cases y with
  |non=>cases ry;exact PySem.EqNone.ne_none_none (bu I q (by simp))
  |bl j=>cases ry;exact PySem.EqNone.ne_none_bool (bu I q (by simp))
  |int j=>obtain⟨t',rfl⟩:=ry;exact PySem.EqNone.ne_none_int (bu I q (by simp))
  |str j=>obtain⟨t',rfl⟩:=ry;exact PySem.EqNone.ne_none_str (bu I q (by simp))
  |_=>exact absurd (show false=true from hs) Zb
 |bl i=>
  cases rx;cases y with
  |non=>cases ry;exact PySem.EqNone.ne_bool_none (bu I q (by simp))
  |bl j=>cases ry;exact ne_bool (bu I q (congrArg not CN))
  |str j=>obtain⟨t',rfl⟩:=ry;exact PySem.EqMixed.ne_bool_str (bu I q (by simp))
  |_=>exact absurd (show false=true from hs) Zb
 |int i=>
  obtain⟨t,rfl⟩:=rx;cases y with
  |non=>cases ry;exact PySem.EqNone.ne_int_none (bu I q (by simp))
  |int j=>obtain⟨t',rfl⟩:=ry;exact ne_int (bu I q (congrArg not xU))
  |str j=>obtain⟨t',rfl⟩:=ry;exact PySem.EqMixed.ne_int_str (bu I q (by simp))
  |_=>exact absurd (show false=true from hs) Zb
 |str i=>
  obtain⟨t,rfl⟩:=rx;cases y with
  |non=>cases ry;exact PySem.EqNone.ne_str_none (bu I q (by simp))
  |bl j=>cases ry;exact PySem.EqMixed.ne_str_bool (bu I q (by simp))
  |int j=>obtain⟨t',rfl⟩:=ry;exact PySem.EqMixed.ne_str_int (bu I q (by simp))
  |str j=>obtain⟨t',rfl⟩:=ry;exact ne_str (bu I q (congrArg not xV))
  |_=>exact absurd (show false=true from hs) Zb
 |byt i=>
  obtain⟨t,rfl⟩:=rx;cases y with
  |byt j=>obtain⟨t',rfl⟩:=ry;exact PySem.W.ne_bytes (bu I q (congrArg not xW))
  |_=>exact absurd (show false=true from hs) Zb
 |_=>cases y <;> exact absurd (show false=true from hs) Zb
theorem G4:OpR X (W5 .Lt) (rI0 fun i j=>.bl (decide (i < j))):=xT fun _ _ _ _ _ _ _ q=>lt_int q
theorem G5:OpR X (W5 .LtE) (rI0 fun i j=>.bl (decide (i<=j))):=xT fun _ _ _ _ _ _ _ q=>le_int q
theorem G6:OpR X (W5 .Gt) (rI0 fun i j=>.bl (decide (j < i))):=xT fun _ _ _ _ _ _ _ q=>gt_int q
theorem G7:OpR X (W5 .GtE) (rI0 fun i j=>.bl (decide (j<=i))):=xT fun _ _ _ _ _ _ _ q=>ge_int q
theorem CO:OpR X (W5 .Is) (fun x y H Q=>y = .non/\Q (.bl (decide (x = .non))) H):=by
 intro pins s σ H x y v u Q I rx ry h;obtain⟨rfl,q⟩:=h;cases ry;refine is_none_gen (bu I q ?_)
 cases x <;> first
  |(cases rx;rfl)
  |(obtain⟨t,rfl⟩:=rx;rfl)
theorem xX:OpR X (W5 .IsNot) (fun x y H Q=>y = .non/\Q (.bl (!decide (x = .non))) H):=by
 intro pins s σ H x y v u Q I rx ry h;obtain⟨rfl,q⟩:=h;cases ry;refine isnot_none_gen (bu I q ?_)
 cases x <;> first
  |(cases rx;rfl)
  |(obtain⟨t,rfl⟩:=rx;rfl)
theorem xY{op:CmpOp}{r:R2}(ho:OpR X (W5 op) r)(ha:PE X a ta)(hb:PE X b tb)(hm:WU op b=false):PE X (.Compare a [op] [b] pos) (tOp r ta tb):=by
 intro pins s σ H Q I h;exact wpAny_Compare1 (CF ha hb I h fun v u s2 x y H2 I2 rx ry q=>ho pins s2 σ H2 x y v u Q I2 rx ry q) hm
def BD(t:TE):TT:=fun σ H Q=>t σ H fun x H'=>∃k,x = .bl k/\Q k H'
theorem pT{op:CmpOp}{r:R2}(ho:OpR X (W5 op) r)(ha:PE X a ta)(hb:PE X b tb)(hm:WU op b=false):PT X (.Compare a [op] [b] pos) (BD (tOp r ta tb)):=by
 intro pins s σ H Q I h
 refine wpAny_isTrue_Compare1 (thn (ha pins s σ H _ I h) fun v s1 ⟨x,H1,I1,r1,q1⟩=>thn (hb pins s1 σ H1 _ I1 q1) fun u s2 ⟨y,H2,I2,r2,q2⟩=>
  thn (ho pins s2 σ H2 x y v u _ I2 r1 r2 q2) fun c s3 ⟨z,H3,I3,r3,k,e,q3⟩=>?_) hm
 subst e;cases r3;exact V5 ⟨H3,I3,q3⟩
def nV(r r':R2)(ta tb tc:TE):TE:=fun σ H Q=>ta σ H fun x H1=>tb σ H1 fun y H2=>r x y H2 fun z H3=>∃k,z = .bl k ∧
 (if k=true then tc σ H3 fun w' H4=>r' y w' H4 Q else Q (.bl false) H3)
theorem tO{op op':CmpOp}{r r':R2}(ho:OpR X (W5 op) r)(ho':OpR X (W5 op') r')(ha:PE X a ta)(hb:PE X b tb)(hc:PE X c tc)
  (hm:lastMarks [op,op'] [b,c]=false:=by with_unfolding_all rfl):PE X (.Compare a [op,op'] [b,c] pos) (nV r r' ta tb tc):=by
 intro pins s σ H Q I h
 refine Compare_chain (thn (ha pins s σ H _ I h) fun v s1 ⟨x,H1,I1,r1,q1⟩=>chain_link (thn (hb pins s1 σ H1 _ I1 q1) fun u s2 ⟨y,H2,I2,r2,q2⟩=>
  thn (ho pins s2 σ H2 x y v u _ I2 r1 r2 q2) fun d s3 ⟨z,H3,I3,r3,k,e,q3⟩=>?_)) hm
 subst e;cases r3;refine V5 ?_;cases k with
 |false=>exact ite_ff ⟨.bl false,H3,I3,rfl,q3⟩
 |true=>exact ite_tt (chain_last (thn (hc pins s3 σ H3 _ I3 q3) fun w' s4 ⟨z',H4,I4,r4,q4⟩=>ho' pins s4 σ H4 y z' u w' Q I4 r2 r4 q4))
theorem tP{op op':CmpOp}{r r':R2}(ho:OpR X (W5 op) r)(ho':OpR X (W5 op') r')(ha:PE X a ta)(hb:PE X b tb)(hc:PE X c tc)
  (hm:lastMarks [op,op'] [b,c]=false:=by with_unfolding_all rfl):PT X (.Compare a [op,op'] [b,c] pos) (BD (nV r r' ta tb tc)):=by
 intro pins s σ H Q I h
 refine isTrue_chain (thn (ha pins s σ H _ I h) fun v s1 ⟨x,H1,I1,r1,q1⟩=>test_link (thn (hb pins s1 σ H1 _ I1 q1) fun u s2 ⟨y,H2,I2,r2,q2⟩=>
  thn (ho pins s2 σ H2 x y v u _ I2 r1 r2 q2) fun d s3 ⟨z,H3,I3,r3,k,e,q3⟩=>?_)) hm
 subst e;cases r3;refine V5 ?_;cases k with
 |false=>
  obtain⟨k',e',q'⟩:=q3;cases e';exact ite_ff ⟨H3,I3,q'⟩
 |true=>
  refine ite_tt (test_last (thn (hc pins s3 σ H3 _ I3 q3) fun w' s4 ⟨z',H4,I4,r4,q4⟩=>thn (ho' pins s4 σ H4 y z' u w' _ I4 r2 r4 q4) fun d' s5 ⟨z2,H5,I5,r5,k2,e2,q5⟩=>?_));subst e2;cases r5;exact V5 ⟨H5,I5,q5⟩
def xZ(K:Wu)(x:V)(H:Hp)(k:Bool):Prop:=
 match x with
 |.non=>k=false
 |.bl b=>k=b
 |.int i=>k=(i != 0)
 |.str y=>y.length<=sizeLine/\k=((y.length:Int) != 0)
 |.byt y=>y.size<=sizeLine/\k=((y.size:Int) != 0)
 |.ref p=>(∃xs,SqL K H p xs/\k = !xs.isEmpty)\/(∃xs,SqT K H p xs/\k = !xs.isEmpty)\/∃kvs,H p=some (.dK kvs)/\k = !kvs.isEmpty
 |_=>False
theorem nW{κ:Type}{kvs:List (κ × V)}{vs:List (κ × Value)}(r:KV kvs vs):(!vs.isEmpty) = !kvs.isEmpty:=by
 cases r <;> rfl
theorem iB{xs:List V}{its:List Value}(r:aG xs its):(!its.toArray.isEmpty) = !xs.isEmpty:=by
 cases r <;> simp
theorem gA:(sizeLine:Nat) < 2 ^ 63:=by rw[Vp];decide
theorem CP:JS X (fun x H Q=>∃k,xZ X.K x H k/\Q k H):=by
 intro pins s σ H x v Q I rx h;obtain⟨k,e,q⟩:=h;have hl:=gA;have hs:sizeLine=16777216:=Vp;cases x with
 |non=>
  cases rx;have e':k=false:=e;subst e';exact truthy_none ⟨H,I,q⟩
 |bl b=>
  cases rx;have e':k=b:=e;subst e';exact V5 ⟨H,I,q⟩
 |int i=>
  obtain⟨t,rfl⟩:=rx;have e':k=(i != 0):=e;subst e';exact PySem.P.truthy_int ⟨H,I,q⟩
 |str y=>
  obtain⟨t,rfl⟩:=rx;obtain⟨hy,e'⟩:y.length<=sizeLine/\k=((y.length:Int) != 0):=e;subst e';exact PySem.P.truthy_str (by omega) ⟨H,I.tok _,q⟩
 |byt y=>
  obtain⟨t,rfl⟩:=rx;obtain⟨hy,e'⟩:y.size<=sizeLine/\k=((y.size:Int) != 0):=e;subst e';exact PySem.W.truthy_bytes (by omega) ⟨H,I.tok _,q⟩
 |ref p=>
  cases rx;have e':(∃xs,SqL X.K H p xs/\k = !xs.isEmpty)\/(∃xs,SqT X.K H p xs/\k = !xs.isEmpty)\/∃kvs,H p=some (.dK kvs)/\k = !kvs.isEmpty:=e;rcases e' with ⟨xs,hx,e'⟩ |⟨xs,hx,e'⟩ |⟨kvs,hx,e'⟩
  ·subst e';obtain⟨its,r,pl,hz⟩:=I.list hx;have hlen:=r.length;exact wpAny_truthy_list pl.isList (by simp only[Zi];omega) ⟨H,I.tok _,by rw[iB r];exact q⟩
  ·subst e';obtain⟨its,r,pl,hz⟩:=I.tuple hx;have hlen:=r.length;exact truthy_tuple pl (by simp only[Zi];omega) ⟨H,I.tok _,by rw[iB r];exact q⟩
  ·subst e';obtain⟨hz,hS,vs,r,m⟩:kvs.length<=sizeLine/\(p == Vw)=false/\∃vs,KV kvs vs/\s.heap.DictOf (bj X.prog X.w) p vs:=I.hok p _ hx;have hlen:kvs.length=vs.length:=Paired.length r;exact wpAny_truthy_dict hS m (by omega) ⟨H,I.tok _,by rw[nW r];exact q⟩
 |_=>exact(show False from e).elim
theorem tQ(ha:PE X a ta)(he:∀whole,isTrue a X.env whole=(do let v <-whole;standAt a.pos;holding [v] (truthy v))) :
  PT X a (fun σ H Q=>ta σ H fun x H'=>∃k,xZ X.K x H' k/\Q k H'):=by
 intro pins s σ H Q I h;exact isTrue_plain (thn (ha pins s σ H _ I h) fun v s1 ⟨x,H1,I1,r1,q1⟩=>CP pins s1 σ H1 x v Q I1 r1 q1) (he _)
theorem nX:OpR X (WV .Add) (fun x y H Q=>∃i j,x = .str i/\y = .str j/\i.length+j.length<=sizeLine/\Q (.str (i++j)) H):=by
 intro pins s σ H x y v u Q I rx ry h;obtain⟨i,j,rfl,rfl,hz,q⟩:=h;obtain⟨t,rfl⟩:=rx;obtain⟨t',rfl⟩:=ry;exact add_str (fun t' tk=>⟨.str (i++j),H,I.tok _,⟨_,rfl⟩,q⟩) hz
theorem fv{x:V}{us:List Value}(r:aG [x] us):∃u,us=[u]/\av x u:=by
 cases r with
 |cons r1 r2=>cases r2;exact⟨_,rfl,r1⟩
theorem tR{x y:V}{us:List Value}(r:aG [x,y] us):∃u w',us=[u,w']/\av x u/\av y w':=by
 cases r with
 |cons r1 r2=>
  cases r2 with
  |cons r3 r4=>cases r4;exact⟨_,_,rfl,r1,r3⟩
theorem rF(hc:X.calm=true):aV X (.builtin "max") (fun xs H Q=>∃i j,xs=[.int i,.int j]/\Q (.int (if j > i then j else i)) H):=by
 intro pins s σ H xs us Q I r h;obtain⟨i,j,rfl,q⟩:=h;obtain⟨u,w',rfl,⟨t,rfl⟩,⟨t',rfl⟩⟩:=tR r;refine max_two_ints (I.ok.hd hc) fun h' tk k=>⟨_,H,I.kept k,?_,q⟩;by_cases hj:j > i
 ·rw[if_pos hj,if_pos hj];exact⟨_,rfl⟩
 ·rw[if_neg hj,if_neg hj];exact⟨_,rfl⟩
theorem rG(hc:X.calm=true):aV X (.builtin "min") (fun xs H Q=>∃i j,xs=[.int i,.int j]/\Q (.int (if j < i then j else i)) H):=by
 intro pins s σ H xs us Q I r h;obtain⟨i,j,rfl,q⟩:=h;obtain⟨u,w',rfl,⟨t,rfl⟩,⟨t',rfl⟩⟩:=tR r;refine min_two_ints (I.ok.hd hc) fun h' tk k=>⟨_,H,I.kept k,?_,q⟩;by_cases hj:j < i
 ·rw[if_pos hj,if_pos hj];exact⟨_,rfl⟩
 ·rw[if_neg hj,if_neg hj];exact⟨_,rfl⟩
end
structure ObjM(h:Heap)(x dx C:Addr)(mA:Str->Option Value):Prop where
 obj:h.get? x=some (WD C dx)
 ns:h.Ns1 dx mA
 ne:dx ≠ x
theorem rH{h:Heap}{dx:Addr}{mA:Str->Option Value}(n:h.Ns1 dx mA):∃od,h.get? dx=some od/\∀name,WK name od=some (mA name):=by
 obtain⟨o,es,ep,ho,hd,hk,_,hm⟩:=n;refine⟨o,ho,fun name=>?_⟩;have e:=hm name;unfold nsFind findBy at e;rw[<-Array.find?_toList] at e;unfold WK;rw[hd];dsimp only;split
 ·rename_i y q;rw[q] at e;exact congrArg some e
 ·rename_i q;rw[q] at e
  have a:es.toList.any (·.refKey)=false:=by
   rw[List.any_eq_false];intro y hy;obtain⟨z,t,hkey⟩:=hk y (Array.mem_toList_iff.mp hy);simp[DictEntry.refKey,hkey]
  have a':¬ es.toList.any (·.refKey)=true:=by rw[a];exact Zb
  rw[if_neg a'];exact congrArg some e
theorem ObjM.look{h:Heap}{x dx C:Addr}{mA:Str->Option Value}(I:ObjM h x dx C mA):∃od,PySem.W.InstAt h x (WD C dx) C (some od)/\∀name,WK name od=some (mA name):=
 let ⟨od,ho,hl⟩:=rH I.ns
 ⟨od,⟨I.obj,rfl,rfl,ho⟩,hl⟩
section
variable {P:Program} {w:World} {H H':Hp} {h h':Heap} {a C dx:Addr} {fs fs':List (Str × V)}
theorem x8(hok:HOk P w H h)(e:H a=some (.ins C dx fs)):∃mA,ObjM h a dx C mA/\(∀f,Cq (fs.lookup f) (mA f))/\PySem.Within mA (fs.map (·.1))/\fs.length<=1000/\H dx=some (.own a):=by
 obtain⟨d,z,ne,ob,mA,n,r,q⟩:=(show aU P w H h a (.ins C dx fs) from hok a _ e);exact⟨mA,⟨ob,n,ne⟩,r,q,z,d⟩
end
structure Cls(K:Wu)(C:Addr):Prop where
 pg:WO K C Str.empty=true
 hd:PySem.W.hasDictIn K C=true
 po:PySem.W.plainOver K C=true
 sa:WA K (.ref C) "__setattr__" = some (some (.builtin "object.__setattr__"))
theorem Cls.get{K:Wu}{C:Addr}(c:Cls K C)(f:Str):WO K C f=true:=c.pg
section
variable {X:Cx} {pins:List (Addr × Obj)} {σ:St} {H:Hp} {s:Shared} {A:Around} {E:Value->Shared->Prop} {Q:Value->Shared->Prop} {c:Value} {b:Bool}
inductive TyOf(K:Wu)(H:Hp):V->Value->Prop where
 |non:TyOf K H .non (.type "NoneType")
 |bl (x:Bool):TyOf K H (.bl x) (.type "bool")
 |int (i:Int):TyOf K H (.int i) (.type "int")
 |str (x:Str):TyOf K H (.str x) (.type "str")
 |flt (x:UInt64):TyOf K H (.flt x) (.type "float")
 |lst {a:Addr} {xs:List V} (e:H a=some (.lst xs)):TyOf K H (.ref a) (.type "list")
 |frz {a:Addr} {o:Obj} {xs:List V} (e:H a=some (.frz o (.lst xs))):TyOf K H (.ref a) (.type "list")
 |tup {a:Addr} {xs:List V} (e:H a=some (.tup xs)):TyOf K H (.ref a) (.type "tuple")
 |dK {a:Addr} {kvs:List (Key × V)} (e:H a=some (.dK kvs)):TyOf K H (.ref a) (.type "dict")
 |dT {a:Addr} {kvs:List (List Key × V)} (e:H a=some (.dT kvs)):TyOf K H (.ref a) (.type "dict")
 |ins {a C dx:Addr} {fs:List (Str × V)} (e:H a=some (.ins C dx fs)) (cl:Cls K C) (ha:WA K (.ref C) "__class__" = some (some (.builtin "object.__class__")))
   (hn:PySem.W.specialIn K (.builtin "object.__class__") "__get__" = some (some (.builtin "getset_descriptor.__get__"))) (htk:PySem.W.takesIn K (.builtin "object.__class__")=some true)
   (hm:WM K C (.type "object")=some true):TyOf K H (.ref a) (.ref C)
theorem rJ{x:V}{u t:Value}(I:Inv X pins σ H s)(rx:av x u)(ty:TyOf X.K H x t)(e:WH X.K t c=some b)(h:∀tk,Q (.bool b) { s with toks:=tk }) :
  wpAny (model X.prog X.w) A (call (.builtin "isinstance") [u,c]) Q E s:=by
 cases ty with
 |non=>cases (show u=Value.none from rx);exact WF PySem.W.kitx_none I.kIn True.intro e (fun z=>nomatch z) h
 |bl y=>cases (show u=Value.bool y from rx);exact WF PySem.W.kitx_bool I.kIn True.intro e (fun z=>nomatch z) h
 |int i=>obtain⟨t,q⟩:=(show ∃t,u=Value.int i t from rx);cases q;exact WF PySem.W.kitx_int I.kIn True.intro e (fun z=>nomatch z) h
 |str y=>obtain⟨t,q⟩:=(show ∃t,u=Value.str y t from rx);cases q;exact WF PySem.W.kitx_str I.kIn True.intro e (fun z=>nomatch z) h
 |flt y=>obtain⟨t,q⟩:=(show ∃t,u=Value.float y t from rx);cases q;exact WF PySem.W.kitx_float I.kIn True.intro e (fun z=>nomatch z) h
 |@lst a xs ea=>
  cases (show u=Value.ref a from rx);obtain⟨_,_,n,_,h1⟩:=(show aU X.prog X.w H s.heap a (.lst xs) from I.hok a _ ea);exact WF WJ I.kIn ⟨_,h1,rfl⟩ e (fun z=>nomatch z) h
 |@frz a ob xs ea=>
  cases (show u=Value.ref a from rx);obtain⟨_,_,_,n,_,h1⟩:=(show aU X.prog X.w H s.heap a (.frz ob (.lst xs)) from I.hok a _ ea);exact WF WJ I.kIn ⟨_,h1,rfl⟩ e (fun z=>nomatch z) h
 |@tup a xs ea=>
  cases (show u=Value.ref a from rx);obtain⟨_,_,_,p⟩:=(show aU X.prog X.w H s.heap a (.tup xs) from I.hok a _ ea);obtain⟨o,h1,h2,_⟩:=p;exact WF PySem.W.kitx_tuple I.kIn ⟨o,h1,h2⟩ e (fun z=>nomatch z) h
 |@dK a kvs ea=>
  cases (show u=Value.ref a from rx);obtain⟨_,_,vs,_,p⟩:=(show aU X.prog X.w H s.heap a (.dK kvs) from I.hok a _ ea);obtain⟨o,es,ep,h1,h2,_⟩:=p;exact WF WI I.kIn ⟨o,h1,h2.1⟩ e (fun z=>nomatch z) h
 |@dT a kvs ea=>
  cases (show u=Value.ref a from rx);obtain⟨_,_,xs,_,o,es,ep,h1,h2,_⟩:=(show aU X.prog X.w H s.heap a (.dT kvs) from I.hok a _ ea);exact WF WI I.kIn ⟨o,h1,h2.1⟩ e (fun z=>nomatch z) h
 |@ins a C dx fs ea cl ha hn htk hm=>
  cases (show u=Value.ref a from rx);obtain⟨mA,O,_⟩:=x8 I.hok ea;obtain⟨od,J,_⟩:=O.look;exact WF (PySem.W.kitx_own (cl.get _) cl.hd ha hn htk hm) I.kIn J e (fun z=>nomatch z) h
end
structure Room(k:Nat)(A:Around):Prop where
 hd:A.handled=none
 dp:A.depth+3 * k+5 < recursionLimit
 un:A.units+16 * k+200 < cLine
 gd:A.guards=some []
theorem Room.deeper{k:Nat}{A:Around}(r:Room (k+1) A)(env:Env):Room k (A.deeper env):=
 ⟨r.hd,by have:=r.dp;show A.depth+1+3 * k+5 < _;omega,by have:=r.un;show A.units+3+16 * k+200 < _;omega,r.gd⟩
theorem Room.depth{k:Nat}{A:Around}(r:Room k A):A.depth < recursionLimit:=by have:=r.dp;omega
theorem Room.units{k:Nat}{A:Around}(r:Room k A):A.units+64 < cLine:=by have:=r.un;omega
def iC:TA:=fun _ H Q=>Q [] H
def cJ(ta:TE)(tr:TA):TA:=fun σ H Q=>ta σ H fun x H1=>tr σ H1 fun xs H2=>Q (x::xs) H2
section
variable {X:Cx} {e:Expr} {es:List Expr} {te:TE} {t:TA} {pos:Pos}
theorem kI:PA X [] iC:=fun _ _ _ _ H Q I h=>Calls.spliced_nil ⟨[],H,I,.nil,h⟩
theorem x9(ha:PE X e te)(hr:PA X es t)(hs:Vr (e::es) X.env=(false,eval e X.env)::Vr es X.env:=by rfl):PA X (e::es) (cJ te t):=by
 intro pos pins s σ H Q I h;rw[hs];show wpAny _ _ (spliced ((false,eval e X.env)::backTo pos (Vr es X.env))) _ _ s;refine Calls.spliced_cons (thn (ha pins s σ H _ I h) fun u s1 ⟨x,H1,I1,r1,q1⟩=>?_);exact thn (hr pos pins s1 σ H1 _ I1 q1) fun us s2 ⟨xs,H2,I2,r2,q2⟩=>⟨x::xs,H2,I2,.cons r1 r2,q2⟩
def G8(t:TA):TE:=fun σ H Q=>t σ H fun xs H1=>xs.length<=sizeLine/\∀p,H1 p=none->Q (.ref p) (upd H1 p (.tup xs))
def G9(t:TA):TE:=fun σ H Q=>t σ H fun xs H1=>xs.length<=sizeLine/\∀p,H1 p=none->Q (.ref p) (upd H1 p (.lst xs))
theorem CQ{x1}(h:PA X es t):PE X (.Tuple es x1 pos) (G8 t):=by
 intro pins s σ H Q I hq;refine wpAny_Tuple_spliced (thn (h pos pins s σ H _ I hq) fun us s1 ⟨xs,H1,I1,r,z,q⟩=>⟨by rw[<-r.length];exact z,?_⟩);have hf:H1 s1.heap.objs.size=none:=I1.hok.fresh (Ze _);refine⟨.ref s1.heap.objs.size,upd H1 s1.heap.objs.size (.tup xs),I1.laid (t':=s1.toks) (fun b u e=>Zl _ e) (Ze _) ?_,rfl,q _ hf⟩;exact⟨z,us,r,kE.new _ _⟩
theorem iE(h:PA X es t):PE X (.List es pos) (G9 t):=by
 intro pins s σ H Q I hq;refine wpAny_List_spliced (thn (h pos pins s σ H _ I hq) fun us s1 ⟨xs,H1,I1,r,z,q⟩=>⟨by rw[<-r.length];exact z,?_⟩);have hf:H1 s1.heap.objs.size=none:=I1.hok.fresh (Ze _);refine⟨.ref s1.heap.objs.size,upd H1 s1.heap.objs.size (.lst xs),I1.laid (t':=s1.toks) (fun b u e=>Zl _ e) (Ze _) ?_,rfl,q _ hf⟩;exact⟨z,us,0,r,ZB _ rfl⟩
end
abbrev Sp:=List V->Hp->VK->XK->Prop
abbrev CXT:=List Env->Hp->Shared->XK->Value->Shared->Prop
structure Env0(P:Program)(w:World)(K:Wu)(mg:Str->Option Value)(base:Heap)(A:Around)(outer:List Env)(s:Shared)(H:Hp):Prop where
 frames:A.frames=some outer
 mod:Mod K mg base
 bs:∀b o,base.get? b=some o->s.heap.get? b=some o/\H b=none
 bsz:base.objs.size<=s.heap.objs.size
 funs:s.heap.FunFrames base outer
 frf:∀b ∈ frs outer,H b=none
 hok:HOk P w H s.heap
 bare:AllBare s.gens
def CE(outer:List Env)(P:Program)(w:World)(H:Hp)(s:Shared)(Q:VK)(u:Value)(s':Shared):Prop:=
 ∃v H',s'.os=s.os/\AllBare s'.gens/\Un (frs outer) [] H H' s.heap s'.heap/\HOk P w H' s'.heap/\av v u/\Q v H'
def CR(CX:CXT)(outer:List Env)(P:Program)(w:World)(H:Hp)(s:Shared)(Q:VK)(E:XK)(r:Result)(s':Shared):Prop:=
 match r with
 |.ok (.ret u)=>CE outer P w H s Q u s'
 |.ok _=>False
 |.error e=>CX outer H s E e s'
structure FnOk(P:Program)(w:World)(K:Wu)(mg:Str->Option Value)(base:Heap)(CX:CXT)(k:Nat)(f:Addr)(fd:X7)(ps:List Str)(sp:Sp):Prop where
 len:∀vs H Q E,sp vs H Q E->vs.length=ps.length
 run:∀ (A:Around) (outer:List Env) (s:Shared) (H:Hp) (args:Args) (us:List Value) (vs:List V) (Q:VK) (E:XK),Room k A->Env0 P w K mg base A outer s H->BindsTo s fd args (ps.zip us)->aG vs us->sp vs H Q E ->
  codeAny (model P w) A (.call (.ref f) args) (CR CX outer P w H s Q E) s
theorem FnOk.imp{P:Program}{w:World}{K:Wu}{mg:Str->Option Value}{base:Heap}{CX:CXT}{k:Nat}{f:Addr}{fd:X7}{ps:List Str}{sp sp':Sp}(F:FnOk P w K mg base CX k f fd ps sp)
  (h:∀vs H Q E,sp' vs H Q E->sp vs H Q E):FnOk P w K mg base CX k f fd ps sp':=
 ⟨fun vs H Q E q=>F.len vs H Q E (h _ _ _ _ q),fun A outer s H args us vs Q E hr he hb hv hs=>F.run A outer s H args us vs Q E hr he hb hv (h _ _ _ _ hs)⟩
section
variable {X:Cx} {pins:List (Addr × Obj)} {σ:St} {H:Hp} {s s':Shared}
theorem Inv.env0(I:Inv X pins σ H s):Env0 X.prog X.w X.K X.mg X.base X.A X.stack s H:=
 ⟨I.ok.frames,I.ok.mod,I.bs,Zr I.ok.bsz I.sz,I.stack,I.stkFree,I.hok,I.bare⟩
theorem Inv.after{Q:VK}{u:Value}(I:Inv X pins σ H s)(h:CE X.stack X.prog X.w H s Q u s'):EP X pins σ Q u s':=by
 obtain⟨v,H',os,bare,un,hok,r,q⟩:=h;obtain⟨hh,g,d,t,os'⟩:=s';obtain rfl:os'=s.os:=os;exact⟨v,H',I.call (h':=hh) (g':=g) (d':=d) (t':=t) (ch:=[]) un hok bare (fun b z=>absurd z (by simp)),r,q⟩
end
def BE(sp:Sp)(dvs:List V)(E:XK)(t:TA):TE:=fun σ H Q=>t σ H fun vs H1=>sp (vs++dvs) H1 Q E
def dJ(K:Wu)(fd:X7)(ps:List Str)(ds:List Value):Prop:=
 ∀ (s:Shared) (us:List Value),K.In s.heap->(us++ds).length=ps.length->BindsTo s fd ⟨us,[]⟩ (ps.zip (us++ds))
theorem dJ.all{K:Wu}{fd:X7}{ps:List Str}(h:∀us:List Value,us.length=ps.length->bindArgs fd ⟨us,[]⟩=pure (ps.zip us)):dJ K fd ps []:=fun s us _ hl=>by
 rw[ZS] at hl ⊢;exact .of_eq (h us hl)
def iG(CX:CXT)(X:Cx)(E:XK):Prop:=∀ (pins:List (Addr × Obj)) (σ:St) (H:Hp) (s:Shared) (e:Value) (s':Shared),Inv X pins σ H s->CX X.stack H s E e s'->X.xe e s'
section
variable {X:Cx} {CX:CXT} {k:Nat} {f C:Addr} {fd:X7} {ps:List Str} {sp:Sp} {dvs:List V} {ds:List Value} {E:XK} {x m:Str} {p pos apos:Pos} {e o:Expr} {es:List Expr} {ta:TE} {t:TA}
theorem CT{pins:List (Addr × Obj)}{σ:St}{H:Hp}{s:Shared}{Q:VK}{us:List Value}{vs:List V}(F:FnOk X.prog X.w X.K X.mg X.base CX k f fd ps sp)(hr:Room k X.A)(hb:dJ X.K fd ps ds)(hd:aG dvs ds)(hx:iG CX X E)
  (I:Inv X pins σ H s) (r:aG vs us) (h:sp (vs++dvs) H Q E):wpAny (model X.prog X.w) X.A (call (.ref f) us) (EP X pins σ Q) X.xe s:=by
 have r2:aG (vs++dvs) (us++ds):=r.append hd;have hl:(us++ds).length=ps.length:=by rw[<-r2.length];exact F.len _ _ _ _ h
 refine wpAny_call (W4 (F.run X.A X.stack s H ⟨us,[]⟩ (us++ds) (vs++dvs) Q E hr I.env0 (hb s us I.kIn hl) r2 h) fun r s' hq=>?_);cases r with
 |error e=>exact hx pins σ H s e s' I hq
 |ok fl=>
  cases fl with
  |ret u=>exact I.after hq
  |next=>exact False.elim hq
  |brk=>exact False.elim hq
  |cont=>exact False.elim hq
theorem pU(F:FnOk X.prog X.w X.K X.mg X.base CX k f fd ps sp)(hr:Room k X.A)(hg:Gl X x)(hm:X.mg x=some (.ref f))(hk:WE X.K (.ref f)=true)(hb:dJ X.K fd ps ds)(hd:aG dvs ds)(hx:iG CX X E)
  (ha:PA X (e::es) t) (hdb:(x == ("__debug__" : Str))=false:=by decide) (he:Vr (e::es) X.env=(false,eval e X.env)::Vr es X.env:=by rfl) (hpl:(backTo pos (Vr es X.env)).any (·.1)=false:=by rfl) :
  PE X (.Call (.Name x p) (e::es) [] pos) (BE sp dvs E t):=by
 intro pins s σ H Q I h;refine VB (eM I hg hm ?_ hdb);refine Wv (h₀:=X.base) I.ok.mod.kin hk (thn (ha pos pins s σ H _ I h) fun us s1 ⟨vs,H1,I1,r,q⟩=>⟨I1.kIn,?_⟩) he hpl;exact CT F hr hb hd hx I1 r q
end
structure FnScope(N P:List Str)(sc:Scope):Prop where
 kind:sc.kind = .function
 co:sc.isCoroutine=false
 gen:sc.isGenerator=false
 nd:N.Nodup
 pre:N.take P.length=P
 par:∀x ∈ P,sc.names.lookup x=some .local\/sc.names.lookup x=some .cell
 nofree:∀y ∈ sc.names,y.2 ≠ .free
theorem jS{kindOf:Str->Option X9}{x:Str}:∀ {binds:List (Str × Value)} {m:Str->Option Value},(∀v,(x,v) ∉ binds)->bindL kindOf binds m x=m x
 |[],_,_=>rfl
 |(n,v)::r,m,h=>by
  unfold bindL;rw[jS fun w hw=>h w (Zd _ hw)];split
  ·have:x ≠ n:=by rintro rfl;exact h v Zf
   simp[this]
  ·rfl
theorem jT{kindOf:Str->Option X9}{x:Str}:∀ {binds:List (Str × Value)} {m:Str->Option Value},(∀v,(x,v) ∉ binds)->bindC kindOf binds m x=m x
 |[],_,_=>rfl
 |(n,v)::r,m,h=>by
  unfold bindC;rw[jT fun w hw=>h w (Zd _ hw)];split
  ·rfl
  ·have:x ≠ n:=by rintro rfl;exact h v Zf
   simp[this]
theorem jU{kindOf:Str->Option X9}{x:Str}{v:Value}:∀ {P:List Str} {vs:List Value} {i:Nat} {m:Str->Option Value},P.Nodup->P[i]?=some x->vs[i]?=some v->kindOf x=some .local ->
  bindL kindOf (P.zip vs) m x=some v
 |[],_,_,_,_,h,_,_=>by simp at h
 |_::_,[],_,_,_,_,h,_=>by simp at h
 |p::P,w::vs,0,m,nd,h1,h2,hk=>by
  simp at h1 h2;subst h1;subst h2;show bindL kindOf ((p,w)::P.zip vs) m p=_;unfold bindL;rw[jS fun v hv=>(Z4.mp nd).1 (Yu hv).1,if_pos hk];simp
 |p::P,w::vs,i+1,m,nd,h1,h2,hk=>by
  show bindL kindOf ((p,w)::P.zip vs) m x=_;unfold bindL;exact jU (i:=i) (Z4.mp nd).2 (by simpa using h1) (by simpa using h2) hk
theorem jV{kindOf:Str->Option X9}{x:Str}{v:Value}:∀ {P:List Str} {vs:List Value} {i:Nat} {m:Str->Option Value},P.Nodup->P[i]?=some x->vs[i]?=some v->kindOf x ≠ some .local ->
  bindC kindOf (P.zip vs) m x=some v
 |[],_,_,_,_,h,_,_=>by simp at h
 |_::_,[],_,_,_,_,h,_=>by simp at h
 |p::P,w::vs,0,m,nd,h1,h2,hk=>by
  simp at h1 h2;subst h1;subst h2;show bindC kindOf ((p,w)::P.zip vs) m p=_;unfold bindC;rw[jT fun v hv=>(Z4.mp nd).1 (Yu hv).1,if_neg hk];simp
 |p::P,w::vs,i+1,m,nd,h1,h2,hk=>by
  show bindC kindOf ((p,w)::P.zip vs) m x=_;unfold bindC;exact jV (i:=i) (Z4.mp nd).2 (by simpa using h1) (by simpa using h2) hk
noncomputable def cK(N:List Str)(vs:List V):St:=vs.map some++Zj (N.length - vs.length) none
noncomputable def jF(CX:CXT)(P:Program)(w:World)(K:Wu)(mg:Str->Option Value)(base:Heap)(N:List Str)(qual:Str)(scope:Scope)(f:Addr)(cd:Value)(A:Around)(outer:List Env)(s:Shared)(H:Hp)(E:XK):Cx where
 prog:=P
 w:=w
 K:=K
 mg:=mg
 base:=base
 A:=A.deeper (envOfC qual scope s.heap.objs.size f cd)
 N:=N
 s₀:=s
 H₀:=H
 env:=envOfC qual scope s.heap.objs.size f cd
 outer:=outer
 stack:=envOfC qual scope s.heap.objs.size f cd::outer
 ex:=[]
 calm:=true
 fn:=fun _=>true
 pn:=[]
 xe:=fun e s'=>wpAny (model P w) (A.deeper (envOfC qual scope s.heap.objs.size f cd)) (leaving (envOfC qual scope s.heap.objs.size f cd) e) (fun _ s''=>CX outer H s E e s'') (fun e' s''=>CX outer H s E e' s'') s'
theorem ms{sc:Scope}{n:Nat}{x:Str}(h:sc.names.lookup x=some .cell):∃c,(W1 n sc.names []).lookup x=some c:=by
 have q:=Ww sc.names n [] (.inl h);exact ZL.mp q
theorem jW{CX:CXT}{P:Program}{w:World}{K:Wu}{mg:Str->Option Value}{base:Heap}{N ps:List Str}{qual:Str}{scope:Scope}{f:Addr}{cd:Value}{A:Around}{outer:List Env}{s s1:Shared}{H:Hp}{E:XK}{us:List Value}{vs:List V}
  (S:FnScope N ps scope) (hd:A.handled=none) (e0:Env0 P w K mg base A outer s H) (hl:vs.length=ps.length) (r:aG vs us)
  (x:InCallC s s.heap.objs.size (bindL (envOfC qual scope s.heap.objs.size f cd).kindOf (ps.zip us) fun _=>none) (W1 (s.heap.objs.size+1) scope.names []) (bindC (envOfC qual scope s.heap.objs.size f cd).kindOf (ps.zip us) fun _=>none) s1) :
  Inv (jF CX P w K mg base N qual scope f cd A outer s H E) [] (cK N vs) H s1:=by
 have hpl:ps.length<=N.length:=by have:=congrArg Zv S.pre;rw[Zw] at this;omega
 obtain⟨h1,tk,rfl,hk⟩:=x.done;have noA:∀b:Addr,b ∉ (jF CX P w K mg base N qual scope f cd A outer s H E).ex:=fun b z=>absurd (show b ∈ ([]:List Addr) from z) (by simp)
 refine⟨⟨e0.mod,S.kind,rfl,rfl,Ze _,fun y z c h1 h2=>?_,fun y hy=>?_,fun y c _ h=>?_,fun _=>hd,Around.frames_deeper e0.frames,.inr ⟨rfl,rfl⟩,fun b z=>absurd z (noA b),e0.bs,e0.bsz,fun b _ _=>noA b,fun b z=>absurd z (noA b),e0.funs,e0.frf⟩,
  rfl,e0.bare,Un.kept hk,⟨_,x.toInCall.ns,fun i y v h1 h2 h3=>?_⟩,fun y c h=>⟨_,x.cell y c h⟩,e0.hok.fresh (Ze _),fun y c h=>?_,fun p hp=>absurd (show p ∈ ([]:List (Addr × Obj)) from hp) (by simp),e0.hok.kept hk,?_⟩
 ·exact name_of_addr x.apart (Ve h1) (Ve h2)
 ·have hy:scope.names.lookup y=some .cell\/scope.names.lookup y=some .free:=hy;rcases hy with hy |hy
  ·exact ms hy
  ·exact absurd rfl (S.nofree _ (Ve hy))
 ·exact YA (x.above y c (Ve h))
 ·have hi:i < vs.length:=by
   unfold cK at h2;by_cases hi:i < vs.length
   ·exact hi
   ·rw[Zg (by simpa using hi)] at h2;rw[Ye] at h2;split at h2 <;> cases h2
  have ha:vs[i]?=some v:=by
   unfold cK at h2;rw[Zo (by simpa using hi),Zt] at h2;cases e:vs[i]? with
   |none=>rw[e] at h2;cases h2
   |some a=>rw[e] at h2;cases h2;rfl
  obtain⟨u,hu,rv⟩:=r.get ha
  have hp:ps[i]?=some y:=by
   rw[<-S.pre,YI (by omega)];exact h1
  have ndP:ps.Nodup:=by rw[<-S.pre];exact S.nd.sublist (Y7 _ _)
  refine⟨u,rv,?_⟩;rcases S.par y (Zp hp) with k |k
  ·exact .inl ⟨k,jU ndP hp hu k⟩
  ·obtain⟨c,e⟩:=ms (n:=s.heap.objs.size+1) k;refine .inr ⟨.inl k,c,e,?_⟩;have q:=x.cell y c e;rw[jV ndP hp hu (by show scope.names.lookup y ≠ _;rw[k];decide)] at q;exact q
 ·exact e0.hok.fresh (YA (x.above y c (Ve h)))
 ·unfold cK;show _=N.length;rw[Zh,Zc,Yq];omega
theorem Ha{CX:CXT}{P:Program}{w:World}{K:Wu}{mg:Str->Option Value}{base:Heap}{k:Nat}{f:Addr}{name qual:Str}{params:Arguments}{body:List Stmt}{scope:Scope}{dV kV doc pm cdv ct oc:Value}{an od:Option Addr}
  {osl:Array (Option Value)} {N ps:List Str} {sp:Sp} (lk:K.lookup f=some ⟨oc,od,.func (WB name qual params body scope dV kV doc pm an cdv ct),osl⟩) (hcd:Wy K cdv qual=true) (S:FnScope N ps scope)
  (len:∀vs H Q E,sp vs H Q E->vs.length=ps.length)
  (hbody:∀ (A:Around) (outer:List Env) (s:Shared) (H:Hp) (vs:List V) (Q:VK) (E:XK),Room k (A.deeper (envOfC qual scope s.heap.objs.size f cdv))->sp vs H Q E ->
   ∃t,PSs (jF CX P w K mg base N qual scope f cdv A outer s H E) body t/\t { nx:=fun _ H'=>Q .non H',rt:=Q } (cK N vs) H) :
  FnOk P w K mg base CX (k+1) f (WB name qual params body scope dV kV doc pm an cdv ct) ps sp:=by
 refine⟨len,fun A outer s H args us vs Q E hr e0 hb r hsp=>?_⟩;have hl:=len _ _ _ _ hsp;have KX:K.In s.heap:=e0.mod.kin.keeps fun b o e=>(e0.bs b o e).1;have lim:s.heap.NoLimit:=e0.mod.nolimit.keeps fun b o e=>(e0.bs b o e).1
 have hkind:∀y ∈ ps.zip us,scope.names.lookup y.1=some .local\/(scope.names.lookup y.1=some .cell/\((W1 (s.heap.objs.size+1) scope.names []).lookup y.1).isSome=true):=fun⟨n,v⟩ hy=>by
  rcases S.par n (Yu hy).1 with q |q
  ·exact .inl q
  ·exact .inr ⟨q,Ww _ _ _ (.inl q)⟩
 refine W3 hr.depth (KX _ _ lk) rfl S.co S.gen rfl (Wz KX hcd) (hb _ _ _ _ ?_);refine VU S.kind hkind fun env he s1 x=>?_;subst he;refine⟨lim.keeps x.toInCall.keep,codeAny_func ?_⟩;obtain⟨t,ht,hq⟩:=hbody A outer s H vs Q E (hr.deeper _) hsp;have I:Inv (jF CX P w K mg base N qual scope f cdv A outer s H E) [] (cK N vs) H s1:=jW S hr.hd e0 hl r x;refine VT (ht [] s1 (cK N vs) H _ I hq) (fun fl s' hs=>?_) fun e s' hs=>hs
 have fin:∀ {σ':St} {H':Hp} {v:V} {u:Value},Inv (jF CX P w K mg base N qual scope f cdv A outer s H E) [] σ' H' s'->av v u->Q v H'->CE outer P w H s Q u s':=
  fun {σ' H' v u} J rv q=>⟨v,H',J.os,J.bare,J.base,J.hok,rv,q⟩
 cases fl with
 |ret u=>
  obtain⟨v,σ',H',J,rv,q⟩:=hs;exact fin J rv q
 |next=>
  obtain⟨σ',H',J,q⟩:=hs;exact fin (v:=V.non) (u:=Value.none) J rfl q
 |brk=>
  obtain⟨_,_,_,q⟩:=hs;exact False.elim q
 |cont=>
  obtain⟨_,_,_,q⟩:=hs;exact False.elim q
section
variable {X:Cx} {x:Str} {p pos:Pos} {e:Expr} {es:List Expr} {t:TA} {id T:String} {r:List V->Hp->VK->Prop}
def tCB(r:List V->Hp->VK->Prop)(t:TA):TE:=fun σ H Q=>t σ H fun vs H1=>r vs H1 Q
theorem cV(hc:aV X (.builtin id) r)(hg:Gl X x)(hm:X.mg x=none)(hv:WX x=some (.builtin id))(ha:PA X (e::es) t)(hn:x ≠ "__name__" := by decide)(hdb:(x == ("__debug__" : Str))=false:=by decide)
  (he:Vr (e::es) X.env=(false,eval e X.env)::Vr es X.env:=by rfl) (hpl:(backTo pos (Vr es X.env)).any (·.1)=false:=by rfl):PE X (.Call (.Name x p) (e::es) [] pos) (tCB r t):=by
 intro pins s σ H Q I h;refine VB (fD I hg hm hv ?_ hn hdb);exact PyProof.Rows.callWith_builtin1 (thn (ha pos pins s σ H _ I h) fun us s1 ⟨vs,H1,I1,r1,q1⟩=>hc pins s1 σ H1 vs us Q I1 r1 q1) he hpl
theorem cX(hc:aV X (.type T) r)(hg:Gl X x)(hm:X.mg x=none)(hv:WX x=some (.type T))(ha:PA X (e::es) t)(hn:x ≠ "__name__" := by decide)(hdb:(x == ("__debug__" : Str))=false:=by decide)
  (he:Vr (e::es) X.env=(false,eval e X.env)::Vr es X.env:=by rfl) (hpl:(backTo pos (Vr es X.env)).any (·.1)=false:=by rfl):PE X (.Call (.Name x p) (e::es) [] pos) (tCB r t):=by
 intro pins s σ H Q I h;refine VB (fD I hg hm hv ?_ hn hdb);exact XG (thn (ha pos pins s σ H _ I h) fun us s1 ⟨vs,H1,I1,r1,q1⟩=>hc pins s1 σ H1 vs us Q I1 r1 q1) he hpl
end
end L2
namespace HT
open PySem PyProof.Rows
section
open PySem.SeqAt
open PySem.AutoSeq1 (wpAny_loadPart')
open PySem.MeetsSeq PySem.MeetsSeq2 PySem.MeetsSeq3
end
section
variable {prog:Program} {w:World} {A:Around} {E:Value->Shared->Prop} {s:Shared}
theorem ya{t b:Addr}{vs ws:List Value}{Q:Value->Shared->Prop}(ht:IsTup s.heap t vs.toArray)(hb:IsTup s.heap b ws.toArray)(hv:vs ≠ [])
  (h1:ws=[]->Q (.ref t) s) (h2:ws ≠ []->Q (.ref s.heap.objs.size) { s with heap:=s.heap.push { cls:=.type "tuple", data:=.seq (vs++ws).toArray } })
  (hsz:vs.length+ws.length<=sizeLine):wpAny (model prog w) A (WV .Add (.ref t) (.ref b)) Q E s:=by
 obtain⟨⟨cls,dd,data,sl⟩,ho,hc,n,hd⟩:=id ht;obtain⟨⟨cls2,dd2,data2,sl2⟩,ho2,hc2,n2,hd2⟩:=id hb;simp only at hc hd hc2 hd2;subst hc hd hc2 hd2;have e:vs.toArray++ws.toArray=(vs++ws).toArray:=by simp
 by_cases hw:ws=[]
 ·exact W6 ⟨_,ho,rfl⟩ ⟨_,ho2,rfl⟩ Vg Vo X3 XV (XR _ _)
   (tuple_addW1 t b vs.toArray ws.toArray n n2 dd dd2 sl sl2 (by simpa using hv) (by simp[hw])) ⟨ho,ho2,h1 hw⟩
 ·refine W6 ⟨_,ho,rfl⟩ ⟨_,ho2,rfl⟩ Vg Vo X3 XV (XR _ _)
   (tuple_addW2 t b vs.toArray ws.toArray n n2 dd dd2 sl sl2 (by simpa using hv) (by simpa using hw) (by rw[Zi,Zi];exact hsz)) ⟨ho,ho2,?_⟩
  rw[e];exact h2 hw
noncomputable def sIx(n d:Nat):Option Int->Nat
 |none=>d
 |some v=>if v < 0 then (v+(n:Int)).toNat else min v.toNat n
theorem CU(n d:Nat)(hd:d<=n)(o:Option Int):sIx n d o<=n:=by
 cases o with
 |none=>exact hd
 |some v=>
  show(if v < 0 then (v+(n:Int)).toNat else min v.toNat n)<=n;by_cases hv:v < 0
  ·rw[if_pos hv];omega
  ·rw[if_neg hv];exact Nat.min_le_right _ _
theorem pV(v:Int)(n d:Nat):(if v < 0 then max (v+(n:Int)) 0 else min v (n:Int))=((sIx n d (some v):Nat):Int):=by
 show(if v < 0 then max (v+(n:Int)) 0 else min v (n:Int))=(((if v < 0 then (v+(n:Int)).toNat else min v.toNat n):Nat):Int);by_cases hv:v < 0
 ·simp only[if_pos hv];omega
 ·simp only[if_neg hv];omega
theorem nY(lo hi:Option Int)(n:Nat):Builtin.Slice.sliceAdjust lo hi 1 (n:Int)=(((sIx n 0 lo:Nat):Int),((sIx n n hi:Nat):Int)):=by
 have h1:¬ ((1:Int) < 0):=by omega
 unfold Builtin.Slice.sliceAdjust;simp only[h1,if_false];refine Prod.ext ?_ ?_
 ·cases lo with
  |none=>rfl
  |some v=>exact pV v n 0
 ·cases hi with
  |none=>rfl
  |some v=>exact pV v n n
theorem nZ(i j:Nat):Builtin.Slice.slicePlaces (i:Int) (j:Int) 1=j - i:=by
 unfold Builtin.Slice.slicePlaces;have h1:(1:Int) > 0:=by omega
 simp only[h1,if_true,Int.ediv_one];split <;> omega
theorem iH{v:Value}{o:Option Int}{Q:Option Int->Shared->Prop}(p:IsPart v o)(h:Q o s):wpAny (model prog w) A (Builtin.Slice.slicePartIndex v) Q E s:=by
 cases p with
 |none=>exact slicePart_none h
 |int i t=>exact slicePart_int h
theorem cY{sl:Addr}{vl vu:Value}{lo hi:Option Int}{n:Nat}{Q:Int × Int × Nat->Shared->Prop}(hs:s.heap.IsSliceOf sl vl vu .none)(pl:IsPart vl lo)(pu:IsPart vu hi)
  (h:Q (((sIx n 0 lo:Nat):Int),1,sIx n n hi - sIx n 0 lo) s):wpAny (model prog w) A (Builtin.Slice.sliceApplied (.ref sl) (pure (n:Int))) Q E s:=by
 obtain⟨os,hos,hcs,hds⟩:=id hs;unfold Builtin.Slice.sliceApplied Builtin.Slice.sliceFields;refine VF (VF (VM hos hds (x:=vl) rfl (VF (VM hos hds (x:=vu) rfl (VF (VM hos hds (x:=.none) rfl (VY ?_)))))));refine VF (slicePart_none ?_);show wpAny _ _ (if ((1:Int) == 0)=true then _ else _) _ _ s;rw[if_neg (by decide)];refine VF (iH pl (VF (iH pu (VF (VY ?_)))));show wpAny _ _ (match Builtin.Slice.sliceAdjust lo hi 1 (n:Int) with |(lo,hi)=>pure (lo,(1:Int),Builtin.Slice.slicePlaces lo hi 1)) _ _ s;rw[nY lo hi n];show wpAny _ _ (pure (((sIx n 0 lo:Nat):Int),(1:Int),Builtin.Slice.slicePlaces ((sIx n 0 lo:Nat):Int) ((sIx n n hi:Nat):Int) 1)) _ _ s;rw[nZ];exact VY h
theorem tS(xs:Array Value)(i k:Nat):((Zm k).filterMap fun(m:Nat)=>xs[((i:Int)+(m:Int) * 1).toNat]?).toArray=((xs.toList.drop i).take k).toArray:=by
 have e:(fun(m:Nat)=>xs[((i:Int)+(m:Int) * 1).toNat]?)=fun m=>xs[i+m]?:=by
  funext m
  have:((i:Int)+(m:Int) * 1).toNat=i+m:=by omega
  rw[this]
 rw[e];have:=pick_run xs i k;rw[List.filterMap_map] at this;have e2:((fun x=>xs[x]?) ∘ fun x=>i+x)=fun m=>xs[i+m]?:=rfl;rw[e2] at this;rw[this]
theorem fT{t sl:Addr}{items:Array Value}{vl vu:Value}{lo hi:Option Int}{Q:Value->Shared->Prop}(ht:IsTup s.heap t items)(hs:s.heap.IsSliceOf sl vl vu .none)(pl:IsPart vl lo)(pu:IsPart vu hi)
  (hw:¬ (sIx items.size 0 lo=0/\sIx items.size items.size hi=items.size))
  (h:Q (.ref s.heap.objs.size) { s with heap:=s.heap.push { cls:=.type "tuple", data:=.seq ((items.toList.drop (sIx items.size 0 lo)).take (sIx items.size items.size hi - sIx items.size 0 lo)).toArray } })
  (hsz:items.size<=sizeLine):wpAny (model prog w) A (getItem (.ref t) (.ref sl)) Q E s:=by
 have htake:sizeOk (.seq ((items.toList.drop (sIx items.size 0 lo)).take (sIx items.size items.size hi - sIx items.size 0 lo)).toArray):=by
  show((items.toList.drop (sIx items.size 0 lo)).take (sIx items.size items.size hi - sIx items.size 0 lo)).toArray.size<=sizeLine;rw[Zi,Zw,ZV,Yy];omega
 have hj:sIx items.size items.size hi<=items.size:=CU _ _ (Ze _) hi;obtain⟨os,hos,hcs,hds⟩:=id hs;have hTs:s.TypeIs (.ref sl) "slice" := ⟨os,hos,hcs⟩;unfold getItem
 try with_reducible refine VN ?_
 first |refine VF (VY ?_) |skip
 refine VF (wpAny_sequenceKey ht.typeIs (by decide) ?_)
 refine VF (wpAny_callSpecial?_slot (name:=Str.ofString "__getitem__") ht.typeIs XH
  (VH XH ht.typeIs entry_tuple_getitem ?_ (args_tuple_getitem _ _)))
 show wpAny _ _ (Builtin.Tuple.tupleItemsOf (.ref t) >>= _) _ _ s;refine VF (tupleItemsOf_ ht ?_);refine VF (V6 hTs ?_);rw[if_pos (by decide)];refine VF (cY hs pl pu ?_)
 have hno:¬ ((((sIx items.size 0 lo:Nat):Int) == 0 && (1:Int) == 1 && (sIx items.size items.size hi - sIx items.size 0 lo) == items.size)=true):=by
  intro q;rw[bAE,bAE] at q;have q1:((sIx items.size 0 lo:Nat):Int)=0:=eq_of_beq q.1.1;have q2:sIx items.size items.size hi - sIx items.size 0 lo=items.size:=eq_of_beq q.2;exact hw ⟨by omega,by omega⟩
 show wpAny _ _ (if (((sIx items.size 0 lo:Nat):Int) == 0 && (1:Int) == 1 && (sIx items.size items.size hi - sIx items.size 0 lo) == items.size)=true then _ else _) _ _ s;rw[if_neg hno,tS]
 first
  |exact VF (m:=Builtin.Tuple.tupleExact _) (VW (VY ⟨_,rfl,VY h⟩) htake)
  |exact VF (m:=Builtin.Tuple.tupleExact _) (VW (VF (VY (VY ⟨_,rfl,VY h⟩))) htake)
  |exact VF (VF (m:=Builtin.Tuple.tupleExact _) (VW (VY (VY ⟨_,rfl,VY h⟩)) htake))
  |exact VF (VF (m:=Builtin.Tuple.tupleExact _) (VW (VY ⟨_,rfl,VY h⟩) htake))
end
end HT
namespace L2
open PySem PySem.Spec PyProof.Rows
abbrev TO:=St->Hp->(Option Int->Hp->Prop)->Prop
def PO(X:Cx)(e:Option Expr)(t:TO):Prop:=
 ∀ (pins:List (Addr × Obj)) (s:Shared) (σ:St) (H:Hp) (Q:Option Int->Hp->Prop),Inv X pins σ H s->t σ H Q ->
  wpAny (model X.prog X.w) X.A (evalPart e X.env) (fun u s'=>∃o H',Inv X pins σ H' s'/\IsPart u o/\Q o H') X.xe s
def pW:TO:=fun _ H Q=>Q none H
def BF(t:TE):TO:=fun σ H Q=>t σ H fun x H1=>∃i,x = .int i/\Q (some i) H1
section
variable {X:Cx} {e:Expr} {te:TE} {lo hi:Option Expr} {tl th:TO} {pos p2:Pos}
theorem yb:PO X none pW:=by
 intro pins s σ H Q I h;rw[evalPart_none];exact VY ⟨none,H,I,.none,h⟩
theorem yc(h:PE X e te):PO X (some e) (BF te):=by
 intro pins s σ H Q I hw;rw[evalPart_some];refine thn (h pins s σ H _ I hw) fun u s1 ⟨x,H1,I1,r1,q1⟩=>?_;obtain⟨i,rfl,q⟩:=q1;obtain⟨t,rfl⟩:=r1;exact⟨some i,H1,I1,.int i t,q⟩
def SlR(X:Cx)(r:V->Option Int->Option Int->Hp->VK->Prop):Prop:=
 ∀ (pins:List (Addr × Obj)) (s:Shared) (σ:St) (H:Hp) (x:V) (v vl vu:Value) (lo hi:Option Int) (sl:Addr) (Q:VK),Inv X pins σ H s->av x v->s.heap.IsSliceOf sl vl vu .none->IsPart vl lo->IsPart vu hi->r x lo hi H Q ->
  ∃T id,VA (.type T) "__getitem__" = pure (some (.builtin id))/\s.TypeIs v T/\wpAny (model X.prog X.w) X.A (getItem v (.ref sl)) (EP X pins σ Q) X.xe s
theorem SlR.or{r r':V->Option Int->Option Int->Hp->VK->Prop}(h:SlR X r)(h':SlR X r'):SlR X (fun x lo hi H Q=>r x lo hi H Q\/r' x lo hi H Q):=by
 intro pins s σ H x v vl vu lo hi sl Q I rx hs pl pu q;rcases q with q |q
 ·exact h pins s σ H x v vl vu lo hi sl Q I rx hs pl pu q
 ·exact h' pins s σ H x v vl vu lo hi sl Q I rx hs pl pu q
def tSl(r:V->Option Int->Option Int->Hp->VK->Prop)(te:TE)(tl th:TO):TE:=fun σ H Q=>te σ H fun x H1=>tl σ H1 fun l H2=>th σ H2 fun u H3=>r x l u H3 Q
theorem tU{r:V->Option Int->Option Int->Hp->VK->Prop}(hr:SlR X r)(he:PE X e te)(hl:PO X lo tl)(hu:PO X hi th):PE X (.Subscript e (.Slice lo hi none p2) pos) (tSl r te tl th):=by
 intro pins s σ H Q I h;refine Subscript_ (thn (he pins s σ H _ I h) fun v s1 ⟨x,H1,I1,r1,q1⟩=>?_);refine wpAny_Slice (thn (hl pins s1 σ H1 _ I1 q1) fun vl s2 ⟨l,H2,I2,pl,q2⟩=>thn (hu pins s2 σ H2 _ I2 q2) fun vu s3 ⟨u,H3,I3,pu,q3⟩=>?_);rw[evalPart_none];refine VY ?_;have I4:Inv X pins σ H3 { s3 with heap:=s3.heap.push { cls:=.type "slice", data:=.fields #[vl,vu,.none] } }:=I3.kept (t':=s3.toks) fun b ob q=>Zl _ q;obtain⟨T,id,hT,ht,hg⟩:=hr pins { s3 with heap:=s3.heap.push { cls:=.type "slice", data:=.fields #[vl,vu,.none] } } σ H3 x v vl vu l u s3.heap.objs.size Q I4 r1 (Heap.IsSliceOf.new ..) pl pu q3;show wpAny (model X.prog X.w) X.A (subscriptTail e (.Slice lo hi none p2) v (.ref s3.heap.objs.size)) (EP X pins σ Q) X.xe { s3 with heap:=s3.heap.push { cls:=.type "slice", data:=.fields #[vl,vu,.none] } };exact tail_any (ops:=[.ref s3.heap.objs.size,v]) ht hT hg (by with_unfolding_all rfl)
noncomputable def iI(xs:List V)(lo hi:Option Int):List V:=(xs.drop (HT.sIx xs.length 0 lo)).take (HT.sIx xs.length xs.length hi - HT.sIx xs.length 0 lo)
theorem gX(xs:List V)(lo hi:Option Int):(iI xs lo hi).length<=xs.length:=by
 unfold iI;rw[Zw,ZV];omega
def JV(K:Wu):V->Option Int->Option Int->Hp->VK->Prop:=fun x lo hi H Q=>∃a xs,x = .ref a/\SqT K H a xs ∧
 ¬ (HT.sIx xs.length 0 lo=0/\HT.sIx xs.length xs.length hi=xs.length)/\∀p,H p=none->Q (.ref p) (upd H p (.tup (iI xs lo hi)))
theorem CV:SlR X (JV X.K):=by
 intro pins s σ H x v vl vu lo hi sl Q I rx hs pl pu h;obtain⟨a,xs,rfl,hx,hw,q⟩:=h;cases rx;obtain⟨its,r,ht,hz⟩:=I.tuple hx;have hlen:its.toArray.size=xs.length:=by rw[Zi];exact r.length.symm
 refine⟨"tuple", _,PyProof.Rows.slot_tuple_getitem.lookup,ht.typeIs,?_⟩;refine HT.fT ht hs pl pu (by rw[hlen];exact hw) ?_ (by rw[hlen];exact hz);rw[hlen];refine⟨.ref s.heap.objs.size,_,I.laid (t':=s.toks) (o:=.tup (iI xs lo hi)) (fun b ob q=>Zl _ q) (Ze _) ?_,rfl,q _ (I.hok.fresh (Ze _))⟩;exact⟨Zr (gX xs lo hi) hz,_,(r.drop (HT.sIx xs.length 0 lo)).take (HT.sIx xs.length xs.length hi - HT.sIx xs.length 0 lo),kE.new _ _⟩
def Hb(K:Wu):R2:=fun x y H Q=>∃a b xs ys,x = .ref a/\y = .ref b/\SqT K H a xs/\SqT K H b ys/\xs ≠ []/\xs.length+ys.length<=sizeLine ∧
 (ys=[]->Q (.ref a) H)/\(ys ≠ []->∀p,H p=none->Q (.ref p) (upd H p (.tup (xs++ys))))
theorem aG.nil_iff{xs:List V}{us:List Value}(r:aG xs us):us=[] ↔ xs=[]:=by
 cases r with
 |nil=>simp
 |cons _ _=>simp
theorem yd:OpR X (WV .Add) (Hb X.K):=by
 intro pins s σ H x y v u Q I rx ry h;obtain⟨a,b,xs,ys,rfl,rfl,ha,hb,hx,hz,q1,q2⟩:=h;cases rx;cases ry;obtain⟨its,r1,p1,_⟩:=I.tuple ha;obtain⟨its2,r2,p2,_⟩:=I.tuple hb;refine HT.ya p1 p2 (fun z=>hx (r1.nil_iff.mp z)) (fun z=>⟨.ref a,H,I,rfl,q1 (r2.nil_iff.mp z)⟩) (fun z=>?_) (by rw[<-r1.length,<-r2.length];exact hz);refine⟨.ref s.heap.objs.size,_,I.laid (t':=s.toks) (o:=.tup (xs++ys)) (fun b ob q=>Zl _ q) (Ze _) ?_,rfl,q2 (fun w=>z (r2.nil_iff.mpr w)) _ (I.hok.fresh (Ze _))⟩;exact⟨by rw[Zh];exact hz,_,r1.append r2,kE.new _ _⟩
end
noncomputable def ixN(n:Nat)(i:Int):Option Nat:=if 0<=i then (if i < n then some i.toNat else none) else if -(n:Int)<=i then some (i+n).toNat else none
noncomputable def atI{α:Type}(xs:List α)(i:Int):Option α:=(ixN xs.length i).bind fun j=>xs[j]?
theorem pX{n:Nat}{i:Int}{j:Nat}(h:ixN n i=some j):seqIndex? i n=some j/\j < n/\-(n:Int)<=i/\i < n:=by
 unfold ixN at h;by_cases h0:0<=i
 ·rw[if_pos h0] at h;by_cases h1:i < n
  ·rw[if_pos h1] at h;have e:i.toNat=j:=Option.some.inj h;exact⟨by rw[Vm h0 h1,e],by omega,by omega,h1⟩
  ·rw[if_neg h1] at h;cases h
 ·rw[if_neg h0] at h;by_cases h1:-(n:Int)<=i
  ·rw[if_pos h1] at h;have e:(i+n).toNat=j:=Option.some.inj h;exact⟨by rw[Vl (by omega) h1,e],by omega,h1,by omega⟩
  ·rw[if_neg h1] at h;cases h
theorem kJ{α:Type}{xs:List α}{i:Int}{v:α}(h:atI xs i=some v):∃j,seqIndex? i xs.length=some j/\xs[j]?=some v/\j < xs.length/\-(xs.length:Int)<=i/\i < xs.length:=by
 unfold atI at h;cases e:ixN xs.length i with
 |none=>rw[e] at h;cases h
 |some j=>
  rw[e] at h;obtain⟨h1,h2,h3,h4⟩:=pX e;exact⟨j,h1,h,h2,h3,h4⟩
theorem pY{α:Type}{xs:List α}{j:Nat}{v:α}(h:xs[j]?=some v):atI xs (j:Int)=some v:=by
 have hj:j < xs.length:=(Za.mp h).1
 have e:ixN xs.length (j:Int)=some j:=by
  unfold ixN;rw[if_pos (by omega),if_pos (by omega)];simp
 unfold atI;rw[e];exact h
def pZ(b:Expr):Prop:=∀o i,subscripted b false o i=operate [o,i] (getItem o i)
def IxR(X:Cx)(r:R2):Prop:=
 ∀ (value slice:Expr) (pins:List (Addr × Obj)) (s:Shared) (σ:St) (H:Hp) (x y:V) (v u:Value) (Q:VK),Inv X pins σ H s->av x v->av y u->r x y H Q ->
  subscripted slice false v u=operate [v,u] (getItem v u)->wpAny (model X.prog X.w) X.A (subscriptTail value slice v u) (EP X pins σ Q) X.xe s
def MtR(X:Cx)(id:String)(r:V->List V->Hp->VK->Prop):Prop:=
 ∀ (pins:List (Addr × Obj)) (s:Shared) (σ:St) (H:Hp) (x:V) (xs:List V) (v:Value) (us:List Value) (Q:VK),Inv X pins σ H s->av x v->aG xs us->r x xs H Q ->
  wpAny (model X.prog X.w) X.A (call (.builtin id) (v::us)) (EP X pins σ Q) X.xe s
section
variable {X:Cx} {a b:Expr} {ta tb:TE} {pos:Pos}
theorem IxR.or{r r':R2}(h:IxR X r)(h':IxR X r'):IxR X (fun x y H Q=>r x y H Q\/r' x y H Q):=by
 intro value slice pins s σ H x y v u Q I rx ry q hs;rcases q with q |q
 ·exact h value slice pins s σ H x y v u Q I rx ry q hs
 ·exact h' value slice pins s σ H x y v u Q I rx ry q hs
theorem tV{r:R2}(hr:IxR X r)(ha:PE X a ta)(hb:PE X b tb)(hs:pZ b):PE X (.Subscript a b pos) (tOp r ta tb):=by
 intro pins s σ H Q I h;exact Subscript_ (CF ha hb I h fun v u s2 x y H2 I2 rx ry q=>hr a b pins s2 σ H2 x y v u Q I2 rx ry q (hs _ _))
def Hc(K:Wu):R2:=fun x y H Q=>∃p xs i v,x = .ref p/\y = .int i/\SqL K H p xs/\atI xs i=some v/\Q v H
def Hd(K:Wu):R2:=fun x y H Q=>∃p xs i v,x = .ref p/\y = .int i/\SqT K H p xs/\atI xs i=some v/\Q v H
def He:R2:=fun x y H Q=>∃z i c,x = .str z/\y = .int i/\z.length<=sizeLine/\atI z.cps.toList i=some c/\Q (.str ⟨#[c]⟩) H
theorem ye:IxR X (Hc X.K):=by
 intro value slice pins s σ H x y v u Q I rx ry h hs;obtain⟨p,xs,i,z,rfl,rfl,hq,he,q⟩:=h;cases rx;obtain⟨t,rfl⟩:=ry;obtain⟨its,r,pl,hz⟩:=I.list hq;obtain⟨j,h1,h2,h3,h4,h5⟩:=kJ he;obtain⟨w,ew,rw'⟩:=r.get h2;have hl:=r.length;have hn:=gA;have fin:EP X pins σ Q w s:=⟨z,H,I,rw',q⟩;by_cases h0:0<=i
 ·have hj:i.toNat=j:=by
   rw[Vm h0 h5] at h1;exact Option.some.inj h1
  exact item_listR pl.isList h0 (by omega) (by rw[hj];simpa using ew) fin hs
 ·have hj:(i+(its.toArray.size:Int)).toNat=j:=by
   rw[Vl (by omega) h4] at h1;rw[Zi,<-hl];exact Option.some.inj h1
  exact subscriptTail_builtinR (x:=w) pl.isList.typeIs slot_list_getitem.lookup
   (wpAny_getItem_list_neg (Q:=fun r s'=>r=w/\EP X pins σ Q r s') pl.isList (by omega) (by rw[Zi] <;> omega) (by omega) (by rw[hj];simpa using ew) ⟨rfl,fin⟩) hs
theorem JW:IxR X (Hd X.K):=by
 intro value slice pins s σ H x y v u Q I rx ry h hs;obtain⟨p,xs,i,z,rfl,rfl,hq,he,q⟩:=h;cases rx;obtain⟨t,rfl⟩:=ry;obtain⟨its,r,pl,hz⟩:=I.tuple hq;obtain⟨j,h1,h2,h3,h4,h5⟩:=kJ he;obtain⟨w,ew,rw'⟩:=r.get h2;have hl:=r.length;have hn:=gA;have fin:EP X pins σ Q w s:=⟨z,H,I,rw',q⟩
 exact subscriptTail_builtinR (x:=w) pl.typeIs slot_tuple_getitem.lookup
  (getItem_tuple (j:=j) (Q:=fun r s'=>r=w/\EP X pins σ Q r s') pl (by omega) (by omega) (by rw[Zi,<-hl];exact h1) (by simpa using ew) ⟨rfl,fin⟩) hs
theorem CW:IxR X He:=by
 intro value slice pins s σ H x y v u Q I rx ry h hs;obtain⟨z,i,c,rfl,rfl,hz,he,q⟩:=h;obtain⟨t,rfl⟩:=rx;obtain⟨t',rfl⟩:=ry;obtain⟨j,h1,h2,h3,h4,h5⟩:=kJ he;have hl:z.cps.toList.length=z.length:=by simp[Str.length]
 rw[hl] at h1 h4 h5;have hn:=gA
 exact tail_any (typeIs_str s z t) slot_str_getitem.lookup (getItem_str (c:=c) (by
  have e1:decide (i < -(2 ^ 63:Int))=false:=decide_eq_false (by omega);have e2:decide (i ≥ 2 ^ 63)=false:=decide_eq_false (by omega);rw[e1,e2,Xq]) (by rw[h1];simpa using h2) ⟨.str ⟨#[c]⟩,H,I.tok _,⟨_,rfl⟩,q⟩) hs
def rIx(K:Wu):R2:=fun x y H Q=>Hc K x y H Q\/Hd K x y H Q\/He x y H Q
theorem tW:IxR X (rIx X.K):=ye.or (JW.or CW)
theorem n6(its:List Value)(n j:Nat)(u:Value):Obj.mapSeq (·.setIfInBounds j u) { cls:=.type "list", data:=.seq its.toArray n }={ cls:=.type "list", data:=.seq (its.set j u).toArray n }:=by
 simp[Obj.mapSeq]
theorem Inv.lst{pins:List (Addr × Obj)}{σ:St}{H:Hp}{s:Shared}{p:Addr}{xs:List V}(I:Inv X pins σ H s)(h:H p=some (.lst xs)) :
  ∃ (its:List Value) (n:Nat),aG xs its/\s.heap.get? p=some { cls:=.type "list", data:=.seq its.toArray n }/\xs.length<=sizeLine:=by
 obtain⟨z,its,n,r,e⟩:=I.hok p _ h;exact⟨its,n,r,e,z⟩
theorem Inv.lstUpd{pins:List (Addr × Obj)}{σ:St}{H:Hp}{s:Shared}{p:Addr}{xs ys:List V}{its its':List Value}{n n':Nat}{f:Obj->Obj}(I:Inv X pins σ H s)(h:H p=some (.lst xs))
  (ho:s.heap.get? p=some { cls:=.type "list", data:=.seq its.toArray n }) (hf:f { cls:=.type "list", data:=.seq its.toArray n }={ cls:=.type "list", data:=.seq its'.toArray n' }) (r:aG ys its') (hz:ys.length<=sizeLine) (t:Nat) :
  Inv X pins σ (upd H p (.lst ys)) { s with heap:=s.heap.update p f,toks:=t }:=by
 have e:(s.heap.update p f).get? p=some { cls:=.type "list", data:=.seq its'.toArray n' }:=by
  rw[YU f ho (by rw[hf] <;> rfl),hf]
 refine I.write (x:=p) (e:=p) (by rw[h];trivial) (.inl rfl) (fun b u hb q=>(YQ _ _ (Ne.symm hb)).trans q) ⟨_,e⟩ ?_;exact⟨hz,its',n',r,e⟩
def Hf:V->V->V->Hp->(Hp->Prop)->Prop:=fun o i v H Q=>∃p xs k j,o = .ref p/\i = .int k/\H p=some (.lst xs)/\ixN xs.length k=some j/\Q (upd H p (.lst (xs.set j v)))
theorem tX:Cw X Hf:=by
 intro pins s σ H o i v ov iv u Q I ro ri rv h;obtain⟨p,xs,k,j,rfl,rfl,hp,hj,q⟩:=h;cases ro;obtain⟨t,rfl⟩:=ri;obtain⟨its,n,r,ho,hz⟩:=I.lst hp;obtain⟨h1,h2,h3,h4⟩:=pX hj;have hl:=r.length;have hn:=gA
 have I':Inv X pins σ (upd H p (.lst (xs.set j v))) { s with heap:=s.heap.update p (Obj.mapSeq (·.setIfInBounds j u)) }:=
  I.lstUpd hp ho (n6 its n j u) (r.set rv j) (by rw[YR];exact hz) s.toks
 by_cases h0:0<=k
 ·have hk:k.toNat=j:=by
   rw[Vm h0 h4] at h1;exact Option.some.inj h1
  exact PySem.W.ki_setAt ho h0 (by omega) (by rw[Zi,<-hl];exact h4) (by rw[hk];exact⟨_,I',q⟩)
 ·have hk:(k+(its.toArray.size:Int)).toNat=j:=by
   rw[Vl (by omega) h3] at h1;rw[Zi,<-hl];exact Option.some.inj h1
  exact PySem.W.ki_setBack ho (by omega) (by rw[Zi,<-hl];exact h3) (by omega) (by rw[hk];exact⟨_,I',q⟩)
theorem kK(lo hi:Option Int)(n:Nat):(Vq lo hi none n).1=((HT.sIx n 0 lo:Nat):Int)/\(Vq lo hi none n).2.1=((HT.sIx n n hi:Nat):Int)/\(Vq lo hi none n).2.2=1:=by
 refine⟨?_,?_,rfl⟩
 ·cases lo with
  |none=>simp[Vq,HT.sIx]
  |some i=>
   simp only[Vq,HT.sIx,Xc,show(1:Int) > 0 by decide,if_true];by_cases h:i < 0
   ·simp only[h,if_true] <;> omega
   ·simp only[h,if_false] <;> omega
 ·cases hi with
  |none=>simp[Vq,HT.sIx]
  |some i=>
   simp only[Vq,HT.sIx,Xc,show(1:Int) > 0 by decide,if_true];by_cases h:i < 0
   ·simp only[h,if_true] <;> omega
   ·simp only[h,if_false] <;> omega
theorem jG(its:List Value)(lo hi:Option Int):slicePick its.toArray lo hi none=((its.drop (HT.sIx its.length 0 lo)).take (HT.sIx its.length its.length hi - HT.sIx its.length 0 lo)).toArray:=by
 obtain⟨h1,h2,h3⟩:=kK lo hi its.toArray.size;unfold slicePick;rw[h1,h2,h3];simp only[sliceRange_one,pick_run,Zi] <;> rfl
def JX(K:Wu):V->Option Int->Option Int->Hp->VK->Prop:=fun x lo hi H Q=>∃a xs,x = .ref a/\SqL K H a xs/\∀p,H p=none->Q (.ref p) (upd H p (.lst (iI xs lo hi)))
theorem yf:SlR X (JX X.K):=by
 intro pins s σ H x v vl vu lo hi sl Q I rx hs pl pu h;obtain⟨a,xs,rfl,hx,q⟩:=h;cases rx;obtain⟨its,r,ht,hz⟩:=I.list hx;have hlen:=r.length;refine⟨"list", _,slot_list_getitem.lookup,ht.isList.typeIs,?_⟩;refine wpAny_getItem_list_slice ht.isList hs pl pu .none (by simp) ?_ (by rw[Zi] <;> omega);rw[jG,<-hlen];refine⟨.ref s.heap.objs.size,_,I.laid (t':=s.toks) (o:=.lst (iI xs lo hi)) (fun b ob q=>Zl _ q) (Ze _) ?_,rfl,q _ (I.hok.fresh (Ze _))⟩;exact⟨Zr (gX xs lo hi) hz,_,0,(r.drop (HT.sIx xs.length 0 lo)).take (HT.sIx xs.length xs.length hi - HT.sIx xs.length 0 lo),ZB _ rfl⟩
noncomputable def bC:V->Bool
 |.non=>true
 |.bl _=>true
 |.int _=>true
 |.str _=>true
 |_=>false
noncomputable def eqV:V->V->Bool
 |.non,.non=>true
 |.bl a,.bl b=>a == b
 |.bl a,.int b=>(if a then 1 else 0) == b
 |.int a,.bl b=>a == (if b then 1 else 0)
 |.int a,.int b=>a == b
 |.str a,.str b=>a == b
 |_,_=>false
theorem CY{A:Around}{s:Shared}{y x:V}{u v:Value}(ry:av y u)(rx:av x v)(fy:bC y=true)(fx:bC x=true):Wm A s u v (eqV y x):=by
 cases y with
 |non=>
  cases ry;cases x with
  |non=>cases rx;exact SeqAt.EqAt.same _
  |bl b=>cases rx;exact SeqAt.EqAt.none_bool b
  |int b=>obtain⟨t,rfl⟩:=rx;exact SeqAt.EqAt.none_int b t
  |str b=>obtain⟨t,rfl⟩:=rx;exact SeqAt.EqAt.none_str b t
  |_=>exact absurd (show false=true from fx) Zb
 |bl a=>
  cases ry;cases x with
  |non=>cases rx;exact SeqAt.EqAt.bool_none a
  |bl b=>cases rx;exact SeqAt.EqAt.bool_bool a b
  |int b=>obtain⟨t,rfl⟩:=rx;exact SeqAt.EqAt.bool_int a b t
  |str b=>obtain⟨t,rfl⟩:=rx;exact SeqAt.EqAt.bool_str a b t
  |_=>exact absurd (show false=true from fx) Zb
 |int a=>
  obtain⟨t',rfl⟩:=ry;cases x with
  |non=>cases rx;exact SeqAt.EqAt.int_none a t'
  |bl b=>cases rx;exact SeqAt.EqAt.int_bool a t' b
  |int b=>obtain⟨t,rfl⟩:=rx;exact SeqAt.EqAt.int_int a t' b t
  |str b=>obtain⟨t,rfl⟩:=rx;exact SeqAt.EqAt.int_str a t' b t
  |_=>exact absurd (show false=true from fx) Zb
 |str a=>
  obtain⟨t',rfl⟩:=ry;cases x with
  |non=>cases rx;exact SeqAt.EqAt.str_none a t'
  |bl b=>cases rx;exact SeqAt.EqAt.str_bool a t' b
  |int b=>obtain⟨t,rfl⟩:=rx;exact SeqAt.EqAt.str_int a t' b t
  |str b=>obtain⟨t,rfl⟩:=rx;exact SeqAt.EqAt.str_str a t' b t
  |_=>exact absurd (show false=true from fx) Zb
 |_=>exact absurd (show false=true from fy) Zb
noncomputable def eqU(x:V)(u:Value):Bool:=match u with
 |.none=>eqV .non x
 |.bool b=>eqV (.bl b) x
 |.int i _=>eqV (.int i) x
 |.str z _=>eqV (.str z) x
 |_=>false
theorem kL{x y:V}{u:Value}(r:av y u)(f:bC y=true):eqU x u=eqV y x:=by
 cases y with
 |non=>cases r;rfl
 |bl b=>cases r;rfl
 |int i=>obtain⟨t,rfl⟩:=r;rfl
 |str z=>obtain⟨t,rfl⟩:=r;rfl
 |_=>exact absurd (show false=true from f) Zb
theorem fU{x:V}:∀ {xs:List V} {us:List Value},aG xs us->xs.all bC=true->us.any (eqU x)=xs.any fun y=>eqV y x
 |_,_,.nil,_=>rfl
 |y::xs,u::us,.cons r t,f=>by
  rw[Z5,bAE] at f;rw[Yn,Yn,kL r f.1,fU t f.2]
theorem b8{A:Around}{s:Shared}{x:V}{v:Value}(rx:av x v)(fx:bC x=true):∀ {xs:List V} {us:List Value},aG xs us->xs.all bC=true->∀u ∈ us,Wm A s u v (eqU x u)
 |_,_,.nil,_=>fun u hu=>by cases hu
 |y::xs,u::us,.cons r t,f=>fun u' hu=>by
  rw[Z5,bAE] at f;rcases Zq.mp hu with rfl |hu
  ·rw[kL r f.1];exact CY r rx f.1 fx
  ·exact b8 rx fx t f.2 u' hu
noncomputable def inV(x:V)(xs:List V):Bool:=xs.any fun y=>eqV y x
def rIn(K:Wu)(neg:Bool):R2:=fun x y H Q=>∃p xs,y = .ref p/\(SqL K H p xs\/SqT K H p xs)/\bC x=true/\xs.all bC=true/\Q (.bl (if neg then !inV x xs else inV x xs)) H
theorem rK:OpR X (W5 .In) (rIn X.K false):=by
 intro pins s σ H x y v u Q I rx ry h;obtain⟨p,xs,rfl,hq,fx,fs,q⟩:=h;cases ry;rcases hq with hq |hq
 ·obtain⟨its,r,pl,hz⟩:=I.list hq;refine Wp (eqU x) pl.isList (fun w hw=>b8 rx fx r fs w (by simpa using hw)) ⟨.bl _,H,I,rfl,?_⟩;rw[show its.toArray.any (eqU x)=its.any (eqU x) by simp,fU r fs];exact q
 ·obtain⟨its,r,pl,hz⟩:=I.tuple hq;refine Wq (eqU x) pl (fun w hw=>b8 rx fx r fs w (by simpa using hw)) ⟨.bl _,H,I,rfl,?_⟩;rw[show its.toArray.any (eqU x)=its.any (eqU x) by simp,fU r fs];exact q
theorem kM:OpR X (W5 .NotIn) (rIn X.K true):=by
 intro pins s σ H x y v u Q I rx ry h;obtain⟨p,xs,rfl,hq,fx,fs,q⟩:=h;cases ry;rcases hq with hq |hq
 ·obtain⟨its,r,pl,hz⟩:=I.list hq;refine Wr (eqU x) pl.isList (fun w hw=>b8 rx fx r fs w (by simpa using hw)) ⟨.bl _,H,I,rfl,?_⟩;rw[show its.toArray.any (eqU x)=its.any (eqU x) by simp,fU r fs];exact q
 ·obtain⟨its,r,pl,hz⟩:=I.tuple hq;refine Ws (eqU x) pl (fun w hw=>b8 rx fx r fs w (by simpa using hw)) ⟨.bl _,H,I,rfl,?_⟩;rw[show its.toArray.any (eqU x)=its.any (eqU x) by simp,fU r fs];exact q
theorem kN:aV X (.builtin "len") (fun xs H Q=>∃p ys,xs=[.ref p]/\(SqL X.K H p ys\/SqT X.K H p ys)/\Q (.int ys.length) H):=by
 intro pins s σ H xs us Q I r h;obtain⟨p,ys,rfl,hq,q⟩:=h;obtain⟨u,rfl,rx⟩:=fv r;cases rx;have hn:=gA;rcases hq with hq |hq
 ·obtain⟨its,r',pl,hz⟩:=I.list hq;have hlen:=r'.length;exact Calls.call_len_list pl.isList (by simp only[Zi] <;> omega) ⟨.int ys.length,H,I.tok _,⟨s.toks+1,by rw[Zi,hlen]⟩,q⟩
 ·obtain⟨its,r',pl,hz⟩:=I.tuple hq;have hlen:=r'.length;exact len_tuple pl (by simp only[Zi] <;> omega) ⟨.int ys.length,H,I.tok _,⟨s.toks+1,by rw[Zi,hlen]⟩,q⟩
theorem kO:aV X (.type "list") (fun xs H Q=>∃p ys,xs=[.ref p]/\(SqL X.K H p ys\/SqT X.K H p ys)/\∀l,H l=none->Q (.ref l) (upd H l (.lst ys))):=by
 intro pins s σ H xs us Q I r h;obtain⟨p,ys,rfl,hq,q⟩:=h;obtain⟨u,rfl,rx⟩:=fv r;cases rx
 have fin:∀ (its:List Value),aG ys its->ys.length<=sizeLine->∀ (h':Heap) (c':Nat),(∀b o',s.heap.get? b=some o'->h'.get? b=some o') ->
   h'.get? s.heap.objs.size=some { cls:=.type "list", dict:=none,data:=.seq its.toArray c',slots:=#[] }->EP X pins σ Q (.ref s.heap.objs.size) { s with heap:=h' }:=fun its r' hz h' c' kp e=>
  ⟨.ref s.heap.objs.size,_,I.laid (t':=s.toks) kp (Ze _) (show aU X.prog X.w _ h' _ (.lst ys) from ⟨hz,its,c',r',e⟩),rfl,q _ (I.hok.fresh (Ze _))⟩
 rcases hq with hq |hq
 ·obtain⟨its,r',pl,hz⟩:=I.list hq;have hlen:=r'.length;obtain⟨o,ho,hc,n,hd⟩:=pl.isList;exact call_list_seq p (.inl rfl) ho hc hd (fun h' c' kp e=>fin its r' hz h' c' kp e) (by simp only[Zi] <;> omega)
 ·obtain⟨its,r',pl,hz⟩:=I.tuple hq;have hlen:=r'.length;obtain⟨o,ho,hc,n,hd⟩:=pl;exact call_list_seq p (.inr rfl) ho hc hd (fun h' c' kp e=>fin its r' hz h' c' kp e) (by simp only[Zi] <;> omega)
theorem jH:aV X (.type "tuple") (fun xs H Q=>∃p ys,xs=[.ref p]/\((SqL X.K H p ys/\∀l,H l=none->Q (.ref l) (upd H l (.tup ys)))\/(SqT X.K H p ys/\Q (.ref p) H))):=by
 intro pins s σ H xs us Q I r h;obtain⟨p,ys,rfl,h⟩:=h;obtain⟨u,rfl,rx⟩:=fv r;cases rx;rcases h with ⟨hq,q⟩ |⟨hq,q⟩
 ·obtain⟨its,r',pl,hz⟩:=I.list hq;have hlen:=r'.length;refine call_tuple_list pl.isList (fun h' kp=>?_) (by simp only[Zi] <;> omega);have I1:Inv X pins σ H { s with heap:=h' }:=I.kept (t':=s.toks) kp
  have I2:Inv X pins σ (upd H h'.objs.size (.tup ys)) { s with heap:=h'.push { cls:=.type "tuple", data:=.seq its.toArray } }:=
   I1.laid (t':=s.toks) (fun b o e=>Zl _ e) (Ze _) (show aU X.prog X.w _ _ _ (.tup ys) from ⟨hz,its,r',kE.new _ _⟩)
  exact⟨.ref h'.objs.size,_,I2,rfl,q _ (I1.hok.fresh (Ze _))⟩
 ·obtain⟨its,r',pl,hz⟩:=I.tuple hq;exact call_tuple_same pl ⟨.ref p,H,I,rfl,q⟩
def tyV(K:Wu)(T:String)(x:V)(H:Hp):Prop:=match x with
 |.str _=>T = "str"
 |.int _=>T = "int"
 |.ref p=>(T = "list"/\∃xs,SqL K H p xs)\/(T = "tuple"/\((∃o,K.lookup p=some o/\o.cls = .type "tuple"/\o.dict=none)\/∃xs,H p=some (.tup xs))) ∨
   (T = "dict"/\((∃kvs,H p=some (.dK kvs))\/∃kvs,H p=some (.dT kvs)))\/(T = "set"/\∃S n,H p=some (.set S n))
 |_=>False
theorem CZ{pins:List (Addr × Obj)}{σ:St}{H:Hp}{s:Shared}{T:String}{x:V}{v:Value}(I:Inv X pins σ H s)(r:av x v)(ty:tyV X.K T x H) :
  s.TypeIs v T/\∀a,v = .ref a->∃ob,s.heap.get? a=some ob/\ob.dict=none:=by
 cases x with
 |str z=>
  obtain⟨t,rfl⟩:=r;cases (show T = "str" from ty);exact⟨typeIs_str s z t,fun _ e=>nomatch e⟩
 |int i=>
  obtain⟨t,rfl⟩:=r;cases (show T = "int" from ty);exact⟨Vz s i t,fun _ e=>nomatch e⟩
 |ref p=>
  cases r;rcases ty with ⟨rfl,xs,hq⟩ |⟨rfl,⟨o,hk,hc,hd⟩ |⟨xs,hk⟩⟩ |⟨rfl,hk⟩ |⟨rfl,S,n,hk⟩
  ·obtain⟨its,_,pl,_⟩:=I.list hq;refine⟨pl.isList.typeIs,fun a e=>?_⟩;cases e;obtain⟨o,n,e,c,hd,_⟩:=pl;exact⟨o,e,hd⟩
  ·refine⟨⟨o,I.kIn p o hk,hc⟩,fun a e=>?_⟩;cases e;exact⟨o,I.kIn _ o hk,hd⟩
  ·obtain⟨_,its,_,o,e,hc,_,_,hd⟩:=I.hok p _ hk;refine⟨⟨o,e,hc⟩,fun a e2=>?_⟩;cases e2;exact⟨o,e,hd⟩
  ·have z:∃o,s.heap.get? p=some o/\o.ExactDict:=by
    rcases hk with ⟨kvs,hk⟩ |⟨kvs,hk⟩
    ·obtain⟨_,_,_,_,o,_,_,e,ex,_⟩:=I.hok p _ hk;exact⟨o,e,ex⟩
    ·obtain⟨_,_,_,_,o,_,_,e,ex,_⟩:=I.hok p _ hk;exact⟨o,e,ex⟩
   obtain⟨o,e,ex⟩:=z;refine⟨⟨o,e,ex.1⟩,fun a e2=>?_⟩;cases e2;exact⟨o,e,ex.2.1⟩
  ·obtain⟨o,_,_,_,e,ex,_⟩:=I.hok p _ hk;refine⟨⟨o,e,ex.1⟩,fun a e2=>?_⟩;cases e2;exact⟨o,e,ex.2.1⟩
 |_=>exact False.elim ty
def tBM(K:Wu)(T:String)(r:V->List V->Hp->VK->Prop)(to:TE)(t:TA):TE:=fun σ H Q=>to σ H fun x H1=>tyV K T x H1/\t σ H1 fun xs H2=>r x xs H2 Q
variable {o e:Expr} {es:List Expr} {to:TE} {t:TA} {name:Str} {apos cpos:Pos} {T id:String} {r:V->List V->Hp->VK->Prop}
theorem p0(pa:PlainAttrs T)(slot:Slot T name id)(hty:typeOf (.builtin id)=pure (.type "method_descriptor"))(hm:MtR X id r)(ho:PE X o to)(ha:PA X (e::es) t)
  (hbase:attributeBase o name X.env (eval o X.env)=eval o X.env:=by rfl)
  (hfew:((backTo cpos (Vr (e::es) X.env)).all (fun x=>!x.1) && (backToKw cpos (keywordEach [] X.env)).all (fun x=>x.1.isSome)
   && decide ((e::es).length+([]:List Keyword).length+(if ([]:List Keyword).isEmpty then 0 else 1) < 30))=true:=by rfl)
  (hline:(apos.endLine == cpos.line)=true:=by rfl) (hs:Vr (e::es) X.env=(false,eval e X.env)::Vr es X.env:=by rfl) (hplain:(backTo cpos (Vr es X.env)).any (·.1)=false:=by rfl) :
  PE X (.Call (.Attribute o name apos) (e::es) [] cpos) (tBM X.K T r to t):=by
 intro pins s σ H Q I h;refine wpAny_Call_method_late hbase hfew hline rfl (thn (ho pins s σ H _ I h) fun v s1 ⟨x,H1,I1,r1,ty,q1⟩=>?_);obtain⟨h1,h2⟩:=CZ I1 r1 ty;refine⟨T,id,pa,slot,hty,h1,h2,?_⟩;have hA:=ha cpos pins s1 σ H1 _ I1 q1;rw[hs] at hA ⊢;refine Calls.callWith_builtin (by show(false || (backTo cpos (Vr es X.env)).any (·.1))=false;rw[hplain] <;> rfl) (XM ?_);exact thn hA fun us s2 ⟨vs,H2,I2,r2,q2⟩=>hm pins s2 σ H2 x vs v us Q I2 r1 r2 q2
end
def MtM(X:Cx)(id:String)(r:V->List V->Hp->VK->Prop):Prop:=
 ∀ (pins:List (Addr × Obj)) (s:Shared) (σ:St) (H:Hp) (x:V) (xs:List V) (v:Value) (us:List Value) (Q:VK),Inv X pins σ H s->av x v->aG xs us->r x xs H Q ->
  wpAny (model X.prog X.w) X.A (call (.builtin id) (v::us)) (EP X pins σ Q) X.xe s
theorem aG.one:∀ {x:V} {us:List Value},aG [x] us->∃u,us=[u]/\av x u
 |_,_,.cons r .nil=>⟨_,rfl,r⟩
theorem aG.rep{xs:List V}{us:List Value}(h:aG xs us):∀k:Nat,aG (Zj k xs).flatten (Zj k us).flatten
 |0=>.nil
 |k+1=>by
  rw[ZY,ZY,Yb,Yb];exact aG.append h (aG.rep h k)
theorem eO(its:List Value):∀ (k:Nat) (acc:List Value),
  YB (fun x1 x2=>x1++x2) acc.toArray (Zj k its.toArray)=(acc++(Zj k its).flatten).toArray
 |0,acc=>by simp
 |k+1,acc=>by
  have e:acc.toArray++its.toArray=(acc++its).toArray:=by simp
  have e2:(acc++its)++(Zj k its).flatten=acc++(Zj (k+1) its).flatten:=by
   rw[ZY,Yb,Yj]
  rw[<-e2,<-eO its k (acc++its),<-e,ZY,List.foldl_cons]
section
variable {X:Cx} {pins:List (Addr × Obj)} {σ:St} {H:Hp} {s:Shared} {l b:Addr} {xs ys zs:List V}
theorem Inv.lset{its its':List Value}{n:Nat}{f:Array Value->Array Value}{t':Nat}(I:Inv X pins σ H s)(hH:H l=some (.lst xs))
  (e:s.heap.get? l=some { cls:=.type "list", data:=.seq its.toArray n }) (hf:f its.toArray=its'.toArray) (hv:aG ys its') (hz:ys.length<=sizeLine) :
  Inv X pins σ (upd H l (.lst ys)) { s with heap:=s.heap.update l (Obj.mapSeq f),toks:=t' }:=by
 have q:=PySem.IsL.update e f;rw[hf] at q;refine I.write (x:=l) (e:=l) (by rw[hH];exact trivial) (.inl rfl) (fun b' u hb hu=>(YQ s.heap (Obj.mapSeq f) (Ne.symm hb)).trans hu) ⟨_,q⟩ ?_;exact⟨hz,its',_,hv,q⟩
theorem Inv.lnew{its:List Value}{t':Nat}(I:Inv X pins σ H s)(hv:aG ys its)(hz:ys.length<=sizeLine) :
  Inv X pins σ (upd H s.heap.objs.size (.lst ys)) { s with heap:=s.heap.push { cls:=.type "list", data:=.seq its.toArray },toks:=t' }:=
 I.laid (fun _ _ q=>Zl _ q) (Ze _) ⟨hz,its,0,hv,ZB _ rfl⟩
theorem Inv.fresh(I:Inv X pins σ H s):H s.heap.objs.size=none:=I.hok.fresh (Ze _)
theorem Inv.lstM(I:Inv X pins σ H s)(hH:H l=some (.lst xs)):xs.length<=sizeLine/\∃ (its:List Value) (n:Nat),aG xs its/\xs.length=its.length/\s.heap.get? l=some { cls:=.type "list", data:=.seq its.toArray n }:=by
 obtain⟨z,its,n,r,e⟩:=I.hok l _ hH;exact⟨z,its,n,r,r.length,e⟩
theorem tY{n:Nat}(h:n<=sizeLine):Builtin.List.listTooLong n=false:=by
 unfold Builtin.List.listTooLong;exact decide_eq_false (by omega)
end
section
variable {X:Cx}
def yg:V->List V->Hp->VK->Prop:=fun x vs H Q=>∃l xs y,x = .ref l/\vs=[y]/\H l=some (.lst xs)/\xs.length < sizeLine/\Q .non (upd H l (.lst (xs++[y])))
theorem jX:MtM X "list.append" yg:=by
 intro pins s σ H x vs v us Q I rx rv h;obtain⟨l,xs,y,rfl,rfl,hH,hz,q⟩:=h;cases rx;obtain⟨u,rfl,ru⟩:=rv.one;obtain⟨z,its,n,r,hl,e⟩:=I.lstM hH;refine WZ XZ ⟨_,e,rfl⟩ F.entry_list_append (F.args_list_append_2 _ _) (PySem.list_append l its.toArray n u (by rw[Zi];omega)) ⟨e,?_⟩;refine⟨.non,_,I.lset (its':=its++[u]) hH e (by simp) (r.append (.cons ru .nil)) ?_,rfl,q⟩;rw[Zh,ZE];omega
def JY:R2:=fun x y H Q=>∃l b xs zs,x = .ref l/\y = .ref b/\H l=some (.lst xs)/\H b=some (.lst zs)/\xs.length+zs.length<=sizeLine/\∀p,H p=none->Q (.ref p) (upd H p (.lst (xs++zs)))
theorem n8:OpR X (WV .Add) JY:=by
 intro pins s σ H x y v u Q I rx ry h;obtain⟨l,b,xs,zs,rfl,rfl,hH,hB,hz,q⟩:=h;cases rx;cases ry;obtain⟨z,its,n,r,hl,e⟩:=I.lstM hH;obtain⟨z2,its2,n2,r2,hl2,e2⟩:=I.lstM hB;refine PySem.P.add_list e e2 ?_ (by rw[Zi,Zi];omega);have ea:its.toArray++its2.toArray=(its++its2).toArray:=by simp
 rw[ea];exact⟨.ref _,_,I.lnew (t':=s.toks) (r.append r2) (by rw[Zh];omega),rfl,q _ I.fresh⟩
def JZ:R2:=fun x y H Q=>∃l k xs,x = .ref l/\y = .int k/\H l=some (.lst xs)/\-(2 ^ 63)<=k/\k < 2 ^ 63/\xs.length * k.toNat<=sizeLine ∧
 ∀p,H p=none->Q (.ref p) (upd H p (.lst (Zj k.toNat xs).flatten))
theorem kP{α:Type}(xs:List α)(k:Nat):(Zj k xs).flatten.length=k * xs.length:=by
 induction k with
 |zero=>simp
 |succ k ih=>rw[ZY,Yb,Zh,ih,Y8,Nat.add_comm]
theorem C0:OpR X (WV .Mult) JZ:=by
 intro pins s σ H x y v u Q I rx ry h;obtain⟨l,k,xs,rfl,rfl,hH,h1,h2,hz,q⟩:=h;cases rx;obtain⟨t,rfl⟩:=ry;obtain⟨z,its,n,r,hl,e⟩:=I.lstM hH;have hlen:its.toArray.size * k.toNat<=sizeLine:=by rw[Zi,<-hl];exact hz
 have hcap:¬ its.toArray.size * k.toNat > (2 ^ 63 - 1) / 8:=by
  have:(sizeLine:Nat)<=(2 ^ 63 - 1) / 8:=by decide
  omega
 have hfit:¬ (!Builtin.List.listFitsIndex k)=true:=by
  rw[fitsIndex_both h1 h2];exact Zb
 have hlong:¬ Builtin.List.listTooLong (its.toArray.size * k.toNat)=true:=by
  rw[tY hlen];exact Zb
 have hnew:YB (fun x1 x2=>x1++x2) #[] (Zj (if its.toArray.isEmpty=true then 0 else k.toNat) its.toArray)=(Zj k.toNat its).flatten.toArray:=by
  have f0:∀m:Nat,YB (fun x1 x2=>x1++x2) #[] (Zj m its.toArray)=(Zj m its).flatten.toArray:=fun m=>by
   have:=eO its m [];rw[Yv] at this;exact this
  rw[f0];cases its with
  |nil=>simp
  |cons a r'=>rw[if_neg (by simp)]
 refine VE (T := "list") (U := "int") (by decide) ⟨_,e,rfl⟩ (fun s'=>Vz s' k t) noFill_list_mul F.fills_int_mul XY repeat_list F.slot_int_index.lookup
  (WZ XY (Vz s k t) F.entry_int_rmul (F.args_int_rmul_2 _ _) (int___rmul___int_list k t l its.toArray n)
   ⟨e,rfl,⟨_,e,rfl⟩,WZ F.slot_list_mul ⟨_,e,rfl⟩ F.entry_list_mul (F.args_list_mul_2 _ _) (AutoListH.list___mul___list_int_3 l its.toArray n k t hfit hcap hlong) ⟨e,?_⟩⟩)
 rw[hnew];exact⟨.ref _,_,I.lnew (t':=s.toks) (r.rep k.toNat) (by rw[kP,Y9];exact hz),rfl,q _ I.fresh⟩
end
end L2
namespace Att
open PySem PySem.W PySem.Calls PyProof.Rows
theorem hZ{P:Params}{h:Heap}:∀ (ns:List Int) (vs:List Value),WellAll P h vs (ns.map WData.int)->IntsAre vs ns:=by
 intro ns
 induction ns with
 |nil=>
  intro vs w;rw[Yc] at w;cases w;exact .nil
 |cons n ns ih=>
  intro vs w;rw[Zy] at w;cases w with
  |cons a b=>
   cases a;exact .cons _ _ (ih _ b)
theorem rL{l:OpenLaw}{n:Nat}(hn:l.most=some n){P:Params}{h:Heap}{args:List WData}{vals:List Value}
  (hpre:l.row.toRowW.claim.pre args=true) (hwl:WellAll P h vals args) :
  ∃a vs ns,vals=[Value.ref a]/\args=[WData.list (ns.map WData.int)]/\h.get? a=some { cls:=.type "list", data:=.seq vs.toArray }/\IntsAre vs ns/\ns.length<=n:=by
 have hsh:WShape.hasAll [] args [.list .int]=true:=(pre_splitW hpre).1;have hc:l.pre.holds [] { args:=args }=true:=(pre_splitW hpre).2;obtain⟨d,r,rfl,h1,h2⟩:=hasAllW_cons hsh;obtain rfl:=hasAllW_nil h2;obtain⟨xs,rfl,h3⟩:=hasW_list h1;obtain⟨ns,rfl⟩:=items_int h3
 have hlen:ns.length<=n:=by
  unfold OpenLaw.pre at hc
  have h4:(WTm.not (.lt (.lit (.int (n:Int))) (.len (.arg 0)))).holds [] { args:=[.list (ns.map .int)] }=true:=by
   have h4:=(holds_andW hc).1;rw[hn] at h4;exact h4
  have h5:=condW_of h4 (w_not (w_lt w_lit (w_len_list (w_arg rfl))));rw[Zc] at h5;refine Nat.le_of_not_lt fun q=>?_;have q':(n:Int) < ((ns.length:Nat):Int):=by omega
  first
   |(rw[decide_eq_true q'] at h5;exact absurd h5 (by decide))
   |(simp at h5;omega)
 cases hwl with
 |cons w1 w2=>
  cases w2;cases w1 with
  |list ho hall=>exact⟨_,_,ns,rfl,rfl,ho,hZ ns _ hall,hlen⟩
theorem rN(l:OpenLaw)(args:List WData):l.row.toRowW.claim.post args (.bool true) args=true:=
 postW_of (r:=l.row.toRowW) (X:=(true == true))
  (show WShape.has [] (.bool true) .bool=true by first |rfl |decide |simp[WShape.has,WShape.arms,WShape.armsAll])
  (show(WTm.eq .res (.lit (.bool true))).value [] { args:=args,res:=some (.bool true),after:=args }=some (.bool (true == true)) from w_eq_bool (w_res rfl) w_lit) rfl
theorem attach_call{l:OpenLaw}{n:Nat}{q:Program}{loose:List Str}{XP:(Str->Option Value)->Heap->Prop}{YP:World->Heap->Prop}{d:DefRec}
  (hn:l.most=some n) (hdf:d.params.defaults=[])
  (call:∀ (w:World) (s₀ s₁:Shared) (mg mb:Str->Option Value) (fa:Addr) (o:Obj) (pm cd doc:Value) (a:Addr) (vs:List Value) (ns:List Int),
   Ground q loose [] XP w s₀ mg mb s₁.heap->YP w s₁.heap ->
   s₁.heap.get? fa=some o->o.data = .func (docDef d.name d.params d.body d.scope pm cd doc)->s₁.heap.CodeRec cd d.name->mg d.name=some (.ref fa) ->
   s₁.heap.get? a=some { cls:=.type "list", data:=.seq vs.toArray }->IntsAre vs ns->ns.length<=n->s₁.gens=#[] ->
   codeAny (model l.prog w) callerA (.call (.ref fa) ⟨[.ref a],[]⟩) (fun r s'=>r = .ok (.ret (.bool true))/\OldK s₁.heap s'.heap/\s'.os=s₁.os/\AllBare s'.gens) s₁) :
  WalkO q loose XP YP l.row.toRowW d [] (fun f vs=>PySem.call f vs):=by
 intro w s₀ s₁ mg mb G Y fa o pm cd doc dV kV ho hd hcd hD hmg hg args vals as hpre hlay hrd hwl hlo;obtain rfl:dV = .none:=Dflts.none hD hdf;obtain rfl:kV = .none:=Dflts.noKw hD;obtain⟨a,vs,ns,rfl,rfl,hobj,hints,hlen⟩:=rL hn hpre hwl;refine enter_call (W4 (call w s₀ s₁ mg mb fa o pm cd doc a vs ns G Y ho (fd_plain hd) hcd hmg hobj hints hlen hg) fun r s' hq=>?_);obtain⟨rfl,h2,h3,h4⟩:=hq;exact⟨.inl ⟨.bool true,.bool true,[],rfl,fun _=>rfl,.bool true,rN l _,fun _=>⟨List.Pairwise.nil,fun _ hm=>(nomatch hm)⟩⟩,h2,h3,h4⟩
end Att
namespace L2
open PySem PySem.Spec PyProof.Rows
theorem jY:∀ {vs:List Value} {ns:List Int},IntsAre vs ns->aG (ns.map V.int) vs
 |_,_,.nil=>.nil
 |_,_,.cons n t h=>.cons ⟨t,rfl⟩ (jY h)
def Hg(H:Hp):Prop:=∀b,H b=none\/∃o xs,H b=some (.frz o (.lst xs))
theorem tZ{P:Program}{w:World}{K:Wu}{mg mb:Str->Option Value}{CX:CXT}{k:Nat}{fa a:Addr}{fd:X7}{x:Str}{sp:Sp}{s₁:Shared}{vs:List Value}{ns:List Int}
  (KX:K.In s₁.heap) (hns:s₁.heap.Ns Vd mg) (hb:s₁.heap.Ns WY mb) (hbb:∀x:Str,x ≠ "__name__"->mb x=WX x) (hlim:s₁.heap.NoLimit) (hg:s₁.gens=#[])
  (ha:s₁.heap.get? a=some { cls:=.type "list", data:=.seq vs.toArray }) (hi:IntsAre vs ns) (hl:ns.length<=sizeLine) (hr:Room k callerA)
  (F:∀base:Heap,K.In base->base.Ns Vd mg->FnOk P w K mg base CX k fa fd [x] sp) (hbind:∀ (s:Shared) (u:Value),BindsTo s fd ⟨[u],[]⟩ [(x,u)])
  (hsp:∀H:Hp,Hg H->SqL K H a (ns.map V.int)->sp [.ref a] H (fun v _=>v = .bl true) fun _ _ _=>False)
  (hCX:∀H e s',CX [] H s₁ (fun _ _ _=>False) e s'->False) :
  codeAny (model P w) callerA (.call (.ref fa) ⟨[.ref a],[]⟩) (fun r s'=>r = .ok (.ret (.bool true))/\OldK s₁.heap s'.heap/\s'.os=s₁.os/\AllBare s'.gens) s₁:=by
 have rv:=jY hi;have lenV:=hi.length
 have core:∀H:Hp,Hg H->SqL K H a (ns.map V.int)->HOk P w H s₁.heap->(∀b,H b ≠ none->b=a)->(H a ≠ none->K.lookup a=none) ->
   codeAny (model P w) callerA (.call (.ref fa) ⟨[.ref a],[]⟩) (fun r s'=>r = .ok (.ret (.bool true))/\OldK s₁.heap s'.heap/\s'.os=s₁.os/\AllBare s'.gens) s₁:=by
  intro H hO hS hok hA hK;have base_of:∀ {b:Addr} {o:Obj},s₁.heap.get? b=some o->H b=none->(kF s₁.heap H).get? b=some o:=fun e n=>sZ e n
  have noA:∀ {b:Addr} {o:Obj} {es:Array XQ} {ep:Nat},s₁.heap.get? b=some o->o.data = .dict es ep->H b=none:=fun {b o es ep} e d=>by
   cases q:H b with
   |none=>rfl
   |some u=>
    have e':b=a:=hA b (by rw[q];simp);subst e';rw[ha] at e;cases e;have d':Data.seq vs.toArray _=Data.dict es ep:=d;cases d'
  have nsK:∀ {b:Addr} {m:Str->Option Value},s₁.heap.Ns b m->(kF s₁.heap H).Ns b m:=fun {b m} ⟨o,es,ep,e,d,r⟩=>⟨o,es,ep,base_of e (noA e d),d,r⟩
  have hKb:K.In (kF s₁.heap H):=fun b o e=>base_of (KX b o e) (by
   cases q:H b with
   |none=>rfl
   |some u=>
    have e':b=a:=hA b (by rw[q];simp);subst e';rw[hK (by rw[q];simp)] at e;cases e)
  have hM:Mod K mg (kF s₁.heap H):=⟨hKb,nsK hns,⟨mb,nsK hb,hbb⟩,let ⟨mc,h1,h2⟩:=hlim;⟨mc,nsK h1,h2⟩⟩;have e0:Env0 P w K mg (kF s₁.heap H) callerA [] s₁ H:=⟨rfl,hM,fun b o e=>xP e,Nat.le_of_eq (rA _ _),trivial,fun b hb=>absurd (show b ∈ ([]:List Addr) from hb) (by simp),hok,.of_eq hg⟩;refine W4 ((F _ hKb (nsK hns)).run callerA [] s₁ H ⟨[.ref a],[]⟩ [.ref a] [.ref a] _ _ hr e0 (hbind s₁ (.ref a)) (.cons rfl .nil) (hsp H hO hS)) fun r s' h=>?_;cases r with
  |error e=>exact(hCX H e s' h).elim
  |ok fl=>
   cases fl with
   |next=>exact False.elim h
   |brk=>exact False.elim h
   |cont=>exact False.elim h
   |ret u=>
    obtain⟨v,H',os,bare,un,hok',r',q⟩:=h;have q':v = .bl true:=q;subst q';obtain rfl:u=Value.bool true:=r';refine⟨rfl,OldK.of_keep fun b o e=>?_,os,bare⟩;cases q:H b with
    |none=>exact un.keep b o e q (by intro z;exact absurd (show b ∈ ([]:List Addr) from z) (by simp)) (by simp)
    |some u=>
     rcases hO b with z |⟨ob,xs,z⟩
     ·rw[q] at z;cases z
     ·have z2:=un.frzs b ob _ z;obtain⟨e1,_⟩:=hok b _ z;obtain⟨e2,_⟩:=hok' b _ z2;rw[e] at e1;cases e1;exact e2
 cases hk:K.lookup a with
 |some o=>
  have e:=KX a o hk;rw[ha] at e;cases e;refine core (fun _=>none) (fun _=>.inl rfl) (.inr ⟨_,vs.toArray,_,hk,rfl,rfl,rfl,by rw[Zi,lenV];exact hl,by simpa using rv⟩) (fun b u z=>by have z':(none:Option HO)=some u:=z;cases z') (fun b z=>absurd rfl z) fun z=>absurd rfl z
 |none=>
  refine core (fun b=>if b=a then some (.frz { cls:=.type "list", data:=.seq vs.toArray } (.lst (ns.map V.int))) else none) (fun b=>?_) (.inl (.inr ⟨{ cls:=.type "list", data:=.seq vs.toArray },if_pos rfl⟩)) (fun b u z=>?_) (fun b z=>?_) fun _=>hk
  ·by_cases hb:b=a
   ·exact .inr ⟨_,_,if_pos hb⟩
   ·exact .inl (if_neg hb)
  ·by_cases hb:b=a
   ·have z':=(if_pos hb).symm.trans z;cases z';subst hb;exact⟨ha,by rw[Zc];exact hl,vs,_,rv,ha⟩
   ·have z':=(if_neg hb).symm.trans z;cases z'
  ·by_cases hb:b=a
   ·exact hb
   ·exact absurd (if_neg hb) z
noncomputable def df(s:Stmt):Arguments:=match s with
 |.FunctionDef _ a _ _ _ _ _ _ _ _=>a
 |_=>{ posonlyargs:=[],args:=[],vararg:=none,kwonlyargs:=[],kw_defaults:=[],kwarg:=none,defaults:=[] }
noncomputable def aX(s:Stmt):List Stmt:=match s with
 |.FunctionDef _ _ b _ _ _ _ _ _ _=>b
 |_=>[]
noncomputable def ai(s:Stmt):Scope:=match s with
 |.FunctionDef _ _ _ _ _ _ sc _ _ _=>sc
 |_=>{ kind:=.function,names:=[],isGenerator:=false,isCoroutine:=false }
abbrev CX0:CXT:=fun _ _ _ _ _ _=>False
abbrev E0:XK:=fun _ _ _=>False
structure Fun(K:Wu)(x qual:Str)(st:Stmt)(f:Addr)(fd:X7):Prop where
 ex:∃ (oc:Value) (od:Option Addr) (kV doc pm:Value) (an:Option Addr) (cdv ct:Value) (osl:Array (Option Value)),
  fd=WB x qual (df st) (aX st) (ai st) .none kV doc pm an cdv ct/\K.lookup f=some ⟨oc,od,.func fd,osl⟩/\Wy K cdv qual=true
 kp:WE K (.ref f)=true
section
variable {P:Program} {w:World} {K:Wu} {mg:Str->Option Value} {base:Heap}
theorem Fun.binds{x qual:Str}{st:Stmt}{f:Addr}{fd:X7}{ps:List Str}(F:Fun K x qual st f fd)
  (h:∀ (kV doc pm:Value) (an:Option Addr) (cdv ct:Value) (us:List Value),us.length=ps.length->bindArgs (WB x qual (df st) (aX st) (ai st) .none kV doc pm an cdv ct) ⟨us,[]⟩=pure (ps.zip us)):dJ K fd ps []:=by
 obtain⟨oc,od,kV,doc,pm,an,cdv,ct,osl,rfl,lk,hcd⟩:=F.ex;exact .all (h kV doc pm an cdv ct)
theorem C1{x qual:Str}{st:Stmt}{f:Addr}{oc:Value}{od an:Option Addr}{osl:Array (Option Value)}{kV doc pm cdv ct:Value}(l:K.lookup f=some ⟨oc,od,.func (WB x qual (df st) (aX st) (ai st) .none kV doc pm an cdv ct),osl⟩)
  (c:Wy K cdv qual=true) (k:WE K (.ref f)=true):Fun K x qual st f (WB x qual (df st) (aX st) (ai st) .none kV doc pm an cdv ct):=⟨⟨oc,od,kV,doc,pm,an,cdv,ct,osl,rfl,l,c⟩,k⟩
end
theorem jZ{n:Nat}(h:n<=1000):n < sizeLine:=Nat.lt_of_le_of_lt h (by decide)
noncomputable def kQ(ifs:List Expr)(env:Env):Sem Bool:=
 forIn ifs true fun c r=>if r=true then do let ok <-isTrue c env (eval c env);pure (ForInStep.yield ok) else pure (ForInStep.yield r)
theorem yh{M:Model}{A:Around}{E:Value->Shared->Prop}{s:Shared}{elt tg iter:Expr}{ifs:List Expr}{gens:List XN}{scope:Scope}{pos:Pos}{d:Nat}{it acc:Value}{env:Env}{Q:Fin->Shared->Prop}
  (hg:gens[d]?=some ⟨tg,iter,ifs,0⟩)
  (h:wpAny M A (pyNext it) (fun r s1=>match r with
   |none=>Q (.done .next) s1
   | some v=>wpAny M A (Vb tg it v) (fun _ s2=>wpAny M A (assign tg env v) (fun _ s3=>wpAny M A (kQ ifs env) (fun ok s4=>if ok=true then (match gens[d+1]? with
     |none=>wpAny M A (eval elt env) (fun x s5=>wpAny M A (call (.builtin "list.append") [acc,x]) (fun _ s6=>Q (.again (.compLoop (.ListComp elt gens scope pos) d it acc env)) s6) E s5) E s4
     | some g'=>g'.is_async=0/\wpAny M A (eval g'.iter env) (fun x s5=>wpAny M A (W9 g'.iter env x) (fun x' s6=>wpAny M A (pyIter x') (fun it' s7=>
       wpAny M A (runOwn (.compStart (.ListComp elt gens scope pos) (d+1) it' acc env) env) (fun _ s8=>Q (.again (.compLoop (.ListComp elt gens scope pos) d it acc env)) s8) E s7) E s6) E s5) E s4)
    else Q (.again (.compLoop (.ListComp elt gens scope pos) d it acc env)) s4) E s3) E s2) E s1) E s) :
  wpAny M A (compTurn (.ListComp elt gens scope pos) d it acc env) Q E s:=by
 unfold compTurn;simp only[hg];refine VF (V4 ?_);show wpAny M A (pyNext it >>= _) Q E s;refine VF (VT h (fun r s1 h1=>?_) fun _ _ x=>x);cases r with
 |none=>exact VY h1
 |some v=>
  refine VF (VT h1 (fun _ s2 h2=>?_) fun _ _ x=>x);refine VF (VT h2 (fun _ s3 h3=>?_) fun _ _ x=>x);refine VF (VT h3 (fun ok s4 h4=>?_) fun _ _ x=>x);cases ok with
  |false=>exact VY h4
  |true=>
   simp only[if_true] at h4 ⊢;cases hn:gens[d+1]? with
   |none=>
    rw[hn] at h4;refine VF (VF (VT h4 (fun x s5 h5=>?_) fun _ _ x=>x));exact VF (VT h5 (fun _ s6 h6=>VY (VY h6)) fun _ _ x=>x)
   |some g'=>
    rw[hn] at h4;obtain⟨ha,h4⟩:=h4;refine VF (VT h4 (fun x s5 h5=>VF (V4 ?_)) fun _ _ x=>x);rw[ha];show wpAny M A (W9 g'.iter env x >>= _) Q E s5;refine VF (VT h5 (fun x' s6 h6=>?_) fun _ _ x=>x);refine VF (VN (VT h6 (fun it' s7 h7=>?_) fun _ _ x=>x));exact VF (VT h7 (fun _ s8 h8=>VY h8) fun _ _ x=>x)
noncomputable def bK(cells:List (Str × Addr)):List (Str × X9)->List (Str × Addr)->List (Str × Addr)
 |[],acc=>acc
 |(n,k)::r,acc=>if k == .free then bK cells r ((n,(cells.lookup n).getD 0)::acc) else bK cells r acc
theorem fE{env:Env}:∀ (names:List (Str × X9)) (acc:List (Str × Addr)),(∀y ∈ names,y.2 = .free->∃c,env.cells.lookup y.1=some c) ->
  (forIn names acc fun(x:Str × X9) (cs:List (Str × Addr))=>(match x with |(name,kind)=>if kind == .free then (do let a <-cellOf env name;pure (ForInStep.yield ((name,a)::cs))) else pure (ForInStep.yield cs):Sem (ForInStep (List (Str × Addr)))))
   = (pure (bK env.cells names acc):Sem (List (Str × Addr)))
 |[],acc,_=>by rw[YC];rfl
 |(n,k)::r,acc,h=>by
  rw[Xl];have hr:∀y ∈ r,y.2 = .free->∃c,env.cells.lookup y.1=some c:=fun y hy=>h y (Zd _ hy);cases hk:(k == NameKind.free) with
  |true=>
   obtain⟨c,hc⟩:=h (n,k) Zf (by simpa using hk);have e:cellOf env n=pure c:=by unfold cellOf;rw[show env.cells.lookup n=some c from hc]
   simp only[hk,if_true,e,pure_bind];rw[fE r _ hr]
   conv=>rhs;rw[bK]
   simp only[hk,if_true];rw[show env.cells.lookup n=some c from hc];rfl
  |false=>
   simp only[hk,YD,if_false,pure_bind];rw[fE r _ hr]
   conv=>rhs;rw[bK]
   simp only[hk,YD,if_false]
theorem p9{env:Env}{scope:Scope}(h:∀y ∈ scope.names,y.2 = .free->∃c,env.cells.lookup y.1=some c):closureFor scope env=pure (bK env.cells scope.names []):=by
 have e:=fE (env:=env) scope.names [] h;unfold closureFor;refine Eq.trans ?_ e
 first
  |rfl
  |(rw[bind_pure])
  |(simp only[bind_pure])
theorem gB{cells:List (Str × Addr)}:∀ {names:List (Str × X9)} {acc:List (Str × Addr)} {x:Str} {c:Addr},(x,c) ∈ bK cells names acc->(x,c) ∈ acc\/((x,NameKind.free) ∈ names/\c=(cells.lookup x).getD 0)
 |[],_,_,_,h=>.inl h
 |(n,k)::r,acc,x,c,h=>by
  unfold bK at h;split at h
  ·rename_i hk;have hk':k = .free:=by simpa using hk
   rcases gB h with e |⟨e,q⟩
   ·rcases Zq.mp e with e |e
    ·cases e;exact .inr ⟨by rw[hk'];exact Zf,rfl⟩
    ·exact .inl e
   ·exact .inr ⟨Zd _ e,q⟩
  ·rcases gB h with e |⟨e,q⟩
   ·exact .inl e
   ·exact .inr ⟨Zd _ e,q⟩
theorem dQ{x:Str}:∀ {l:List (Str × Addr)},(∃c,(x,c) ∈ l)->∃c,l.lookup x=some c
 |[],⟨_,h⟩=>nomatch h
 |(n,c)::r,⟨c',h⟩=>by
  rw[ZI];cases hb:x == n with
  |true=>exact⟨c,rfl⟩
  |false=>
   rcases Zq.mp h with e |e
   ·cases e;simp at hb
   ·exact dQ ⟨c',e⟩
theorem eP{cells:List (Str × Addr)}{x:Str}:∀ {names:List (Str × X9)} {acc:List (Str × Addr)},(x,NameKind.free) ∈ names\/(∃c,(x,c) ∈ acc)->∃c,(x,c) ∈ bK cells names acc
 |[],_,h=>h.elim (fun e=>nomatch e) id
 |(n,k)::r,acc,h=>by
  unfold bK;split
  ·rename_i hk;refine eP ?_;rcases h with h |⟨c,h⟩
   ·rcases Zq.mp h with e |e
    ·cases e;exact .inr ⟨_,Zf⟩
    ·exact .inl e
   ·exact .inr ⟨c,Zd _ h⟩
  ·rename_i hk;refine eP ?_;rcases h with h |⟨c,h⟩
   ·rcases Zq.mp h with e |e
    ·cases e;exact absurd rfl hk
    ·exact .inl e
   ·exact .inr ⟨c,h⟩
theorem bX:∀ (names:List (Str × X9)) (n:Nat) (acc:List (Str × Addr)),W1 n names acc=W1 n names []++acc
 |[],_,_=>rfl
 |(y,k)::r,n,acc=>by
  unfold W1;split
  ·rw[bX r (n+1) ((y,n)::acc),bX r (n+1) [(y,n)],Yj];rfl
  ·exact bX r n acc
theorem cQ:∀ (names:List (Str × X9)) (n:Nat) (acc:List (Str × Addr)) (x:Str) (c:Addr),(x,c) ∈ W1 n names acc->(x,c) ∈ acc\/(x,NameKind.cell) ∈ names
 |[],_,_,_,_,h=>.inl h
 |(y,k)::r,n,acc,x,c,h=>by
  unfold W1 at h;split at h
  ·rename_i hk;have hk':k = .cell:=by simpa using hk
   rcases cQ r _ _ x c h with e |e
   ·rcases Zq.mp e with e |e
    ·cases e;exact .inr (by rw[hk'];exact Zf)
    ·exact .inl e
   ·exact .inr (Zd _ e)
  ·rcases cQ r _ _ x c h with e |e
   ·exact .inl e
   ·exact .inr (Zd _ e)
noncomputable def jI(sc:Scope)(n:Str)(k:X9):X9:=if (k == .free && sc.kind == .function && sc.names.lookup n == some .cell) then .cell else k
noncomputable def dR(scope sc:Scope):Scope:={ scope with names:=scope.names.map fun y=>(y.1,jI sc y.1 y.2) }
theorem yi(scope:Scope)(env:Env):relabel scope env=dR scope env.scope:=by
 unfold relabel dR
 congr 1
 refine List.map_congr_left fun y _=>?_;obtain⟨n,k⟩:=y;unfold jI;dsimp only;show(if (k == NameKind.free && env.scope.kind == ScopeKind.function && YW n env.scope.names == some NameKind.cell)=true then (n,NameKind.cell) else (n,k))=_;split <;> rfl
theorem dU(sc:Scope)(x:Str):∀names:List (Str × X9),(names.map fun y=>(y.1,jI sc y.1 y.2)).lookup x=(names.lookup x).map (jI sc x)
 |[]=>rfl
 |(n,k)::r=>by
  rw[Zy,ZI,ZI];dsimp only;cases hb:x == n with
  |true=>
   have q:x=n:=by simpa using hb
   subst q;rfl
  |false=>exact dU sc x r
noncomputable def n9(scope:Scope)(C:Addr)(env:Env):Env:=
 { scope:=dR scope env.scope,locals:=C,globals:=env.globals,cells:=W1 (C+1) scope.names (bK env.cells scope.names []),qual:=env.qual,func:=none,code:=env.code,frame:=env.frame,builtins:=env.builtins }
theorem rO{M:Model}{A:Around}{E:Value->Shared->Prop}{s:Shared}{scope:Scope}{cl:List (Str × Addr)}{env:Env}{Q:Env->Shared->Prop}
  (h:Q { scope:=scope,locals:=s.heap.objs.size,globals:=env.globals,cells:=W1 (s.heap.objs.size+1) scope.names cl,qual:=env.qual,func:=none,code:=env.code,frame:=env.frame,builtins:=env.builtins }
   { s with heap:=Vi (s.heap.push { cls:=.type "dict", data:=.dict #[] }) scope.names }) :
  wpAny M A (Vf scope env.globals cl [] env.qual none .none (some env)) Q E s:=by
 simp only[Vf,Option.isSome_some,if_true];refine VF (wpAny_alloc ?_);refine VF (wpAny_layCells _ (fun name kind cells=>by cases hkc:kind == NameKind.cell <;> simp[hkc]) _ _ _ _ ?_);rw[show({ s with heap:=s.heap.push { cls:=.type "dict", data:=.dict #[] } }:Shared).heap.objs.size=s.heap.objs.size+1 from Yo ..];simp only[YC]
 first
  |exact VF (VY (VY h))
  |exact VY h
noncomputable def t0(i:Nat):Str:=⟨#[i]⟩
noncomputable def cp:List Nat->List Str->List Str
 |[],N=>N
 |i::hs,N=>cp hs (N.set i (t0 i))
theorem gC:∀ (hs:List Nat) (N:List Str),(cp hs N).length=N.length
 |[],_=>rfl
 |i::hs,N=>by rw[cp,gC hs,YR]
theorem j0:∀ (hs:List Nat) (N:List Str) {i:Nat} {x:Str},(cp hs N)[i]?=some x->N[i]?=some x\/∃j ∈ hs,x=t0 j
 |[],_,_,_,h=>.inl h
 |k::hs,N,i,x,h=>by
  rw[cp] at h;rcases j0 hs (N.set k (t0 k)) h with e |⟨j,hj,e⟩
  ·rw[Yk] at e;split at e
   ·split at e
    ·exact .inr ⟨k,Zf,(Option.some.inj e).symm⟩
    ·cases e
   ·exact .inl e
  ·exact .inr ⟨j,Zd _ hj,e⟩
structure CmScope(own:List Str)(hs:List Nat)(N:List Str)(scope sc:Scope):Prop where
 kind:scope.kind = .function
 nd:(cp hs N++own).Nodup
 uniq:(scope.names.map (·.1)).Nodup
 dis:∀x ∈ cp hs N,scope.names.lookup x ≠ some .local/\scope.names.lookup x ≠ some .cell
 fr:∀y ∈ scope.names,y.2 = .free->sc.names.lookup y.1=some .cell\/sc.names.lookup y.1=some .free
 hd:∀i ∈ hs,scope.names.lookup (t0 i)=none
theorem cj:∀ {l:List (Str × X9)} {x:Str} {k:X9},(l.map (·.1)).Nodup->(x,k) ∈ l->l.lookup x=some k
 |(n,k')::r,x,k,nd,h=>by
  rw[Zy,Z4] at nd;rw[ZI];rcases Zq.mp h with e |e
  ·cases e;simp
  ·have ne:(x == n)=false:=by
    cases hb:x == n with
    |false=>rfl
    |true=>
     have q:x=n:=by simpa using hb
     subst q;exact absurd (ZW.mpr ⟨(x,k),e,rfl⟩) nd.1
   rw[ne];exact cj nd.2 e
noncomputable def cxC(X:Cx)(own:List Str)(hs:List Nat)(scope:Scope)(C:Addr)(ex:List Addr)(s:Shared)(H:Hp):Cx where
 prog:=X.prog
 w:=X.w
 K:=X.K
 mg:=X.mg
 base:=X.base
 A:=X.A
 N:=cp hs X.N++own
 s₀:=s
 H₀:=H
 env:=n9 scope C X.env
 outer:=X.stack
 stack:=X.stack
 ex:=ex
 fn:=fun x=>scope.names.lookup x == some .cell
 calm:=X.calm
 pn:=[]
 xe:=fun _ _=>False
section
variable {X:Cx} {pins:List (Addr × Obj)} {σ:St} {H:Hp} {s:Shared} {own:List Str} {hs:List Nat} {scope:Scope} {fp:List Addr}
theorem Inv.compStart(I:Inv X pins σ H s)(S:CmScope own hs X.N scope X.env.scope)(hf:∀b ∈ fp,fk X pins H b)(hfo:∀b ∈ fp,b < s.heap.objs.size) :
  Inv (cxC X own hs scope s.heap.objs.size fp s H) [] (σ++Zj own.length none) H { s with heap:=Vi (s.heap.push { cls:=.type "dict", data:=.dict #[] }) scope.names }:=by
 have keep:∀b o,s.heap.get? b=some o->(Vi (s.heap.push { cls:=.type "dict", data:=.dict #[] }) scope.names).get? b=some o:=fun b o e=>Vj _ _ b o (Zl _ e);have ok:=cellsFrom_ok scope.names (s.heap.push { cls:=.type "dict", data:=.dict #[] }) (s.heap.objs.size+1) [] ⟨fun _ _ hm=>(nomatch hm),List.Pairwise.nil⟩ (by rw[Yo];exact Ze _);rw[Yo] at ok;have cells:(n9 scope s.heap.objs.size X.env).cells=W1 (s.heap.objs.size+1) scope.names []++bK X.env.cells scope.names []:=bX _ _ _;have hasX:∀x,(x,NameKind.free) ∈ scope.names->∃c,X.env.cells.lookup x=some c:=fun x h=>I.ok.has x (S.fr (x,.free) h rfl)
 have old:∀x c,(x,c) ∈ bK X.env.cells scope.names []->X.env.cells.lookup x=some c/\(x,NameKind.free) ∈ scope.names:=fun x c h=>by
  rcases gB h with e |⟨e,q⟩
  ·exact nomatch e
  ·obtain⟨c',hc⟩:=hasX x e;rw[hc] at q;exact⟨by rw[hc,q];rfl,e⟩
 have oldlt:∀x c,X.env.cells.lookup x=some c->c < s.heap.objs.size:=fun x c h=>let ⟨_,z⟩:=I.cell x c h;z.lt
 have which:∀x c,(n9 scope s.heap.objs.size X.env).cells.lookup x=some c->((x,c) ∈ W1 (s.heap.objs.size+1) scope.names [])\/(X.env.cells.lookup x=some c/\(x,NameKind.free) ∈ scope.names):=fun x c h=>by
  have m:=Ve h;rw[cells] at m;rcases Zu.mp m with e |e
  ·exact .inl e
  ·exact .inr (old x c e)
 have neu:∀x c,(x,c) ∈ W1 (s.heap.objs.size+1) scope.names []->s.heap.objs.size+1<=c:=fun x c h=>(ok.empty x c h).2
 have noFs:∀b ∈ fp,b ∉ frs X.stack:=fun b hb z=>by
  rcases Zq.mp (I.stkSub b z) with e |e
  ·exact(hf b hb).2.1 e
  ·exact(hf b hb).2.2.1 e
 have xok:(cxC X own hs scope s.heap.objs.size fp s H).Ok:=by
  refine⟨I.ok.mod,S.kind,I.ok.glob,I.ok.blt,Ze _,?_,?_,?_,I.ok.hd,I.ok.frames,.inl rfl,?_,I.bs,Zr I.ok.bsz I.sz,?_,noFs,I.stack,I.stkFree⟩
  ·intro x y c h1 h2;rcases which x c h1 with a |⟨a,_⟩ <;> rcases which y c h2 with b |⟨b,_⟩
   ·exact name_of_addr ok.apart a b
   ·exact absurd (Zs (oldlt y c b) (YE (neu x c a))) (ZK _)
   ·exact absurd (Zs (oldlt x c a) (YE (neu y c b))) (ZK _)
   ·exact I.ok.inj x y c a b
  ·intro x hx;have hx':(dR scope X.env.scope).names.lookup x=some .cell\/(dR scope X.env.scope).names.lookup x=some .free:=hx;have e:=dU X.env.scope x scope.names
   have key:(x,NameKind.cell) ∈ scope.names\/(x,NameKind.free) ∈ scope.names:=by
    cases hl:scope.names.lookup x with
    |none=>rw[hl] at e;rcases hx' with z |z <;> (rw[show(dR scope X.env.scope).names.lookup x=none from e] at z;cases z)
    |some k=>
     have m:=Ve hl;rw[hl] at e;cases k with
     |cell=>exact .inl m
     |free=>exact .inr m
     |_=>rcases hx' with z |z <;> (rw[show(dR scope X.env.scope).names.lookup x=_ from e] at z;simp[jI] at z)
   rcases key with h |h
   ·have q:=Ww scope.names (s.heap.objs.size+1) (bK X.env.cells scope.names []) (x:=x) (.inl (cj S.uniq h));exact ZL.mp q
   ·obtain⟨c,hc⟩:=eP (cells:=X.env.cells) (acc:=[]) (.inl h);have q:∃c,(x,c) ∈ (n9 scope s.heap.objs.size X.env).cells:=⟨c,by rw[cells];exact Zx _ hc⟩;exact dQ q
  ·intro x c hfn hl
   have hfn':scope.names.lookup x=some .cell:=by
    have z:(scope.names.lookup x == some NameKind.cell)=true:=hfn
    simpa using z
   rcases which x c hl with a |⟨_,b⟩
   ·exact Zr (YX _) (neu x c a)
   ·rw[cj S.uniq b] at hfn';cases hfn'
  ·intro b hb;refine⟨ZA (hfo b hb),fun x c h z=>?_⟩;rcases which x c h with a |⟨a,_⟩
   ·exact absurd (Zs (z ▸ hfo b hb) (YE (neu x c a))) (ZK _)
   ·exact(hf b hb).2.2.2.2.1 x c a z
  ·intro b o e hb;rcases (hf b hb).2.2.2.1 with z |z
   ·exact I.ok.noex b o e z
   ·have h1:=Zn e;exact absurd (Zs h1 (Zr I.ok.bsz z)) (ZK _)
 have m0:(Vi (s.heap.push { cls:=.type "dict", data:=.dict #[] }) scope.names).Ns s.heap.objs.size (fun _=>none):=(Heap.Ns.new s.heap (.type "dict")).keeps (Vj _ _);refine⟨xok,rfl,I.bare,Un.kept keep,⟨_,m0,?_⟩,?_,I.hok.fresh (Ze _),?_,fun p hp=>absurd (show p ∈ ([]:List (Addr × Obj)) from hp) (by simp),I.hok.kept keep,?_⟩
 ·intro i x v h1 h2 h3
  have hi:i < σ.length:=by
   by_cases hi:i < σ.length
   ·exact hi
   ·rw[Zg (by omega),Ye] at h2;split at h2 <;> cases h2
  rw[Zo hi] at h2;have hN:i < X.N.length:=by rw[<-I.len];exact hi
  have h1h:(cp hs X.N)[i]?=some x:=by
   have h1:(cp hs X.N++own)[i]?=some x:=h1
   rwa [Zo (by rw[gC];exact hN)] at h1
  have dx:=S.dis x (Zp h1h);have e:=dU X.env.scope x scope.names;have h3':(dR scope X.env.scope).names.lookup x=some .local\/(dR scope X.env.scope).names.lookup x=some .cell\/(dR scope X.env.scope).names.lookup x=some .free:=h3
  have hfree:scope.names.lookup x=some .free:=by
   cases hl:scope.names.lookup x with
   |none=>rw[hl] at e;rcases h3' with z |z |z <;> (rw[show(dR scope X.env.scope).names.lookup x=none from e] at z;cases z)
   |some k=>
    rw[hl] at e dx;cases k with
    |free=>rfl
    |«local»=>exact absurd rfl dx.1
    |cell=>exact absurd rfl dx.2
    |_=>rcases h3' with z |z |z <;> (rw[show(dR scope X.env.scope).names.lookup x=_ from e] at z;simp[jI] at z)
  have h1':X.N[i]?=some x:=by
   rcases j0 hs X.N h1h with z |⟨j,hj,z⟩
   ·exact z
   ·rw[z,S.hd j hj] at hfree;cases hfree
  have mfree:=Ve hfree;have kX:=S.fr (x,.free) mfree rfl;obtain⟨m,hn,hl⟩:=I.loc;obtain⟨u,r,l⟩:=hl i x v h1' h2 (kX.elim (fun z=>.inr (.inl z)) fun z=>.inr (.inr z));refine⟨u,r,.inr ⟨?_,?_⟩⟩
  ·have k3:(dR scope X.env.scope).names.lookup x=some (jI X.env.scope x .free):=by rw[hfree] at e;exact e
   have k4:jI X.env.scope x .free = .cell\/jI X.env.scope x .free = .free:=by unfold jI;split <;> simp
   rcases k4 with z |z
   ·exact .inl (by show(dR scope X.env.scope).names.lookup x=_;rw[k3,z])
   ·exact .inr (by show(dR scope X.env.scope).names.lookup x=_;rw[k3,z])
  ·rcases l with ⟨lk,_⟩ |⟨_,c,hc,z⟩
   ·have lk':X.env.scope.names.lookup x=some .local:=lk;rcases kX with q |q <;> (rw[q] at lk';cases lk')
   ·refine⟨c,?_,z.keeps keep⟩;obtain⟨c',hc'⟩:=eP (cells:=X.env.cells) (acc:=[]) (.inl mfree);obtain⟨c2,hl2⟩:=dQ (l:=(n9 scope s.heap.objs.size X.env).cells) ⟨c',by rw[cells];exact Zx _ hc'⟩;rcases which x c2 hl2 with a |⟨a,_⟩
    ·rcases cQ _ _ _ _ _ a with q |q
     ·exact nomatch q
     ·rw[cj S.uniq q] at hfree;cases hfree
    ·rw[hc] at a;cases a;exact hl2
 ·intro x c h;rcases which x c h with a |⟨a,_⟩
  ·exact⟨_,(ok.empty x c a).1⟩
  ·obtain⟨v,z⟩:=I.cell x c a;exact⟨v,z.keeps keep⟩
 ·intro x c h;rcases which x c h with a |⟨a,_⟩
  ·exact I.hok.fresh (Zr (YX _) (neu x c a))
  ·exact I.freeC x c a
 ·show(σ++Zj own.length none).length=(cp hs X.N++own).length;rw[Zh,Zh,Yq,gC,I.len]
end
def mt(J:It)(g:TG)(tb:TS)(D:Ends)(σ:St)(H:Hp):Prop:=∃W:Nat->Nat->St->Hp->Prop,(∃m,W 0 m σ H)/\∀i m σ H,W i m σ H ->
 (J.stop i H/\D.nx σ H)\/(J.go i H/\∃N:St->Hp->Prop,(∀σ' H',N σ' H'->∃m',m' < m/\W (i+1) m' σ' H')/\∀x H',J.yld i H x H'->g x σ H' fun σ2 H2=>tb { D with nx:=N,ct:=N,bk:=D.nx } σ2 H2)
def PTs(Y:Cx)(ifs:List Expr)(t:TT):Prop:=
 ∀ (pins:List (Addr × Obj)) (s:Shared) (σ:St) (H:Hp) (Q:Bool->Hp->Prop),Inv Y pins σ H s->t σ H Q->wpAny (model Y.prog Y.w) Y.A (kQ ifs Y.env) (TP Y pins σ Q) Y.xe s
def yj:TT:=fun _ H Q=>Q true H
theorem yk{Y:Cx}:PTs Y [] yj:=fun _ _ _ H _ I h=>by
 unfold kQ;rw[YC];exact VY ⟨H,I,h⟩
theorem ym{Y:Cx}{c:Expr}{t:TT}(hc:PT Y c t):PTs Y [c] t:=fun pins s σ H Q I h=>by
 unfold kQ;rw[Xl];simp only[if_true,YC];refine VF (VF (thn (hc pins s σ H Q I h) fun b s1 q=>VY ?_));exact VY q
def PTl(Y:Cx)(elt:Expr)(gens:List XN)(scope:Scope)(pos:Pos)(acc:Addr)(d:Nat)(t:TS):Prop:=
 ∀ (pins:List (Addr × Obj)) (s:Shared) (σ:St) (H:Hp) (D:Ends),Inv Y pins σ H s->t D σ H ->
  match gens[d+1]? with
  |none=>wpAny (model Y.prog Y.w) Y.A (eval elt Y.env) (fun x s5=>wpAny (model Y.prog Y.w) Y.A (call (.builtin "list.append") [.ref acc,x]) (fun _ s6=>∃σ' H',Inv Y pins σ' H' s6/\D.nx σ' H') (fun _ _=>False) s5) (fun _ _=>False) s
  | some g'=>g'.is_async=0/\wpAny (model Y.prog Y.w) Y.A (eval g'.iter Y.env) (fun x s5=>wpAny (model Y.prog Y.w) Y.A (W9 g'.iter Y.env x) (fun x' s6=>wpAny (model Y.prog Y.w) Y.A (pyIter x') (fun it' s7=>
    wpAny (model Y.prog Y.w) Y.A (runOwn (.compStart (.ListComp elt gens scope pos) (d+1) it' (.ref acc) Y.env) Y.env) (fun _ s8=>∃σ' H',Inv Y pins σ' H' s8/\D.nx σ' H') (fun _ _=>False) s7) (fun _ _=>False) s6) (fun _ _=>False) s5) (fun _ _=>False) s
def dL(ti:TT)(t:TS):TS:=fun D σ H=>ti σ H fun c H'=>if c=true then t D σ H' else D.nx σ H'
def BG(acc:Addr)(te:TE):TS:=fun D σ H=>te σ H fun x H1=>∃xs,H1 acc=some (.lst xs)/\xs.length < sizeLine/\D.nx σ (upd H1 acc (.lst (xs++[x])))
section
variable {Y:Cx} {elt:Expr} {gens:List XN} {scope:Scope} {pos:Pos} {acc:Addr} {d:Nat}
theorem t5{te:TE}(hx:Y.xe=fun _ _=>False)(hn:gens[d+1]?=none)(he:PE Y elt te):PTl Y elt gens scope pos acc d (BG acc te):=by
 intro pins s σ H D I h;rw[hn];have hE:=he pins s σ H _ I h;rw[hx] at hE;refine thn hE fun x s5 ⟨v,H5,I5,r5,xs,h1,h2,q⟩=>?_;have z:=jX pins s5 σ H5 (.ref acc) [v] (.ref acc) [x] (fun y H'=>y = .non/\D.nx σ H') I5 rfl (.cons r5 .nil) ⟨acc,xs,v,rfl,rfl,h1,h2,rfl,q⟩;rw[hx] at z;exact thn z fun y s6 ⟨v6,H6,I6,r6,e6,q6⟩=>⟨σ,H6,I6,q6⟩
theorem iJ{A:Around}{R:Result->Shared->Prop}{prog:Program}{w:World}{s:Shared}{tg iter:Expr}{ifs:List Expr}{it acc:Value}{env:Env}(hg:gens[d]?=some ⟨tg,iter,ifs,0⟩)
  (h0:codeAny (model prog w) A (.compLoop (.ListComp elt gens scope pos) d it acc env) R s)
  (h:wpAny (model prog w) A (pyIter it) (fun it' s'=>codeAny (model prog w) A (.compLoop (.ListComp elt gens scope pos) d it' acc env) R s') (notedBy (model prog w) A env fun x s'=>R (.error x) s') s) :
  codeAny (model prog w) A (.compStart (.ListComp elt gens scope pos) d it acc env) R s:=by
 refine codeAny_of_tree ?_;show wpAny _ _ ((compStart (.ListComp elt gens scope pos) d it acc env).onRaise (fun x=>do noteFrame x env;standAt theWindowsPlace)) _ _ s;refine wpAny_notedAt ?_;unfold compStart;have hcl:(clausesOf (.ListComp elt gens scope pos))[d]?=some ⟨tg,iter,ifs,0⟩:=hg;simp only[hcl,Option.elim];show wpAny _ _ (ask >>= _) _ _ s;refine VF (wpAny_askSetting (wpAny_ite ?_));split
 ·first
   |exact VF (VY (VY (And.intro rfl h0)))
   |exact VY (And.intro rfl h0)
 ·first
   |exact VF (V3 (VF (V4 (VF (VT h (fun it' s' h'=>VY (And.intro rfl h')) fun _ _ x=>x)))))
   |(refine VF (V3 ?_);show wpAny _ _ (standAt iter.pos >>= _) _ _ s;exact VF (V4 (VF (VT h (fun it' s' h'=>VY (And.intro rfl h')) fun _ _ x=>x))))
theorem j3{tg iter:Expr}{ifs:List Expr}{J:It}{fp:List Addr}{it:Addr}{tn:Nat->Heap->Prop}{pins:List (Addr × Obj)}{σ:St}{H:Hp}{s:Shared}{g:TG}{ti:TT}{t:TS}{D:Ends}
  (hx:Y.xe=fun _ _=>False) (hc:Y.calm=true) (hg:gens[d]?=some ⟨tg,iter,ifs,0⟩) (T:Turn Y.prog Y.w Y.K tg J fp it tn) (I2:Inv Y pins σ H s) (st2:tn 0 s.heap) (f2:∀b ∈ fp,fk Y pins H b)
  (hgt:PG Y tg g) (hts:PTs Y ifs ti) (htl:PTl Y elt gens scope pos acc d t) (hW:mt J g (dL ti t) D σ H) :
  codeAny (model Y.prog Y.w) Y.A (.compLoop (.ListComp elt gens scope pos) d (.ref it) (.ref acc) Y.env) (fun r s'=>r = .ok .next/\∃σ' H',Inv Y pins σ' H' s'/\D.nx σ' H') s:=by
 obtain⟨W,⟨m0,w0⟩,turn⟩:=hW;have stat:∀ {H':Hp},(∀b ∈ fp,H' b=none)->∀b ∈ fp,fk Y pins H' b:=fun hn b hb=>⟨hn b hb,(f2 b hb).2⟩;refine codeAny_loop rfl (fun n s'=>∃i σ' H',Inv Y pins σ' H' s'/\tn i s'.heap/\(∀b ∈ fp,H' b=none)/\W i n σ' H') (fun n s3 hI=>?_) m0 ⟨0,σ,H,I2,st2,fun b hb=>(f2 b hb).1,w0⟩;obtain⟨i,σ3,H3,I3,st3,fr3,w3⟩:=hI;show wpAny _ _ ((compTurn (.ListComp elt gens scope pos) d (.ref it) (.ref acc) Y.env).onRaise (fun x=>do noteFrame x Y.env;theTreesLotGoes x)) _ _ s3;refine wpAny_noted (VT (E:=fun _ _=>False) ?_ (fun _ _ q=>q) fun _ _ z=>z.elim);refine yh hg ?_;rcases turn i n σ3 H3 w3 with ⟨stop,qn⟩ |⟨go,N,hN,step⟩
 ·refine thn (T.done Y rfl rfl rfl hc i pins s3 σ3 H3 _ I3 (stat fr3) st3 stop) fun r s4 ⟨hr,I4⟩=>?_;subst hr;exact⟨rfl,σ3,H3,I4,qn⟩
 ·refine thn (T.item Y rfl rfl rfl hc i pins s3 σ3 H3 _ I3 (stat fr3) st3 go) fun r s4 ⟨u,hr,h4⟩=>?_;subst hr;refine thn h4 fun _ s5 ⟨x,H5,I5,r5,y5,st5,fr5⟩=>?_;have I5':=I5.pinned (stat fr5) (T.obj _ _ st5)
  have again:∀ {σ7:St} {H7:Hp} {s7:Shared},Inv Y (pins++iA fp s5.heap) σ7 H7 s7->N σ7 H7->∃m,m < n/\∃i σ' H',Inv Y pins σ' H' s7/\tn i s7.heap/\(∀b ∈ fp,H' b=none)/\W i m σ' H':=fun {σ7 H7 s7} I7 n7=>by
   obtain⟨m',hm,w7⟩:=hN σ7 H7 n7;refine⟨m',hm,i+1,σ7,H7,I7.unpinned,T.keep _ _ _ st5 fun b hb o e=>(I7.pin (b,o) (Zx _ (Zx _ (c9 hb e)))).1,fun b hb=>?_,w7⟩;obtain⟨o,e,dd⟩:=T.obj _ _ st5 b hb;exact(I7.pin (b,o) (Zx _ (Zx _ (c9 hb e)))).2.1
  have hG:=hgt _ s5 σ3 H5 x u _ I5' r5 (step x H5 y5);rw[hx] at hG;refine thn hG fun _ s6 ⟨σ6,H6,I6,q6⟩=>?_;have hT:=hts _ s6 σ6 H6 _ I6 q6;rw[hx] at hT;refine thn hT fun ok s7 ⟨H7,I7,q7⟩=>?_;cases ok with
  |false=>
   simp only[YD,if_false] at q7 ⊢;exact⟨by trivial,again I7 q7⟩
  |true=>
   simp only[if_true] at q7 ⊢;have hL:=htl _ s7 σ6 H7 _ I7 q7;cases hn:gens[d+1]? with
   |none=>
    rw[hn] at hL;exact thn hL fun x s8 h8=>thn h8 fun _ s9 ⟨σ9,H9,I9,q9⟩=>⟨by trivial,again I9 q9⟩
   |some g'=>
    rw[hn] at hL;obtain⟨ha,hL⟩:=hL;exact⟨ha,thn hL fun x s8 h8=>thn h8 fun x' s9 h9=>thn h9 fun it' s10 h10=>thn h10 fun _ s11 ⟨σ9,H9,I9,q9⟩=>⟨by trivial,again I9 q9⟩⟩
def t6(wi:TI)(g:TG)(ti:TT)(t:TS):TS:=fun D σ H=>wi σ H fun J H1=>mt J g (dL ti t) D σ H1
theorem yn{tg iter:Expr}{ifs:List Expr}{wi:TI}{g:TG}{ti:TT}{t:TS}(hn:gens[d+1]?=some ⟨tg,iter,ifs,0⟩)
  (hi:PI Y tg iter wi) (hgt:PG Y tg g) (hts:PTs Y ifs ti) (htl:PTl Y elt gens scope pos acc (d+1) t) (hx:Y.xe=fun _ _=>False:=by rfl) (hc:Y.calm=true:=by rfl) (hs:∀x,W9 iter Y.env x=pure x:=by intro _;rfl) :
  PTl Y elt gens scope pos acc d (t6 wi g ti t):=by
 intro pins s σ H D I h;rw[hn];refine⟨rfl,?_⟩;have hI:=hi pins s σ H _ I h;rw[hx] at hI;refine thn hI fun v s5 h5=>wpAny_of_eq (hs v) (thn h5 fun itv s6 h6=>?_);obtain⟨it,fp,tn,J,H6,e,I6,T,st6,f6,W⟩:=h6;subst e;have L:=j3 (elt:=elt) (gens:=gens) (scope:=scope) (pos:=pos) (acc:=acc) hx hc hn T I6 st6 f6 hgt hts htl W;refine wpAny_runOwn (W4 (iJ hn L (T.self _ 0 s6 _ _ st6 L)) fun r s8 hr=>?_);obtain⟨rfl,q⟩:=hr;exact q
end
def t7(own:Nat)(wi:TI)(g:TG)(tb:Addr->TS):TE:=fun σ H Q=>wi σ H fun J H1=>∀acc,H1 acc=none ->
 mt J g (tb acc) { nx:=fun _ H'=>Q (.ref acc) H',rt:=fun _ _=>False } (σ++Zj own none) (upd H1 acc (.lst []))
section
variable {X:Cx} {elt tg iter:Expr} {ifs:List Expr} {rest:List XN} {scope:Scope} {pos:Pos} {own:List Str} {hs:List Nat} {wi:TI} {g:TG} {ti:TT} {t:Addr->TS}
theorem iK{pins:List (Addr × Obj)}{σ:St}{Q:VK}{itv:Value}{s2:Shared}{E:Value->Shared->Prop}(hc:X.calm=true)(S:CmScope own hs X.N scope X.env.scope)
  (hgt:∀C ex s H,PG (cxC X own hs scope C ex s H) tg g) (hts:∀C ex s H,PTs (cxC X own hs scope C ex s H) ifs ti)
  (htl:∀C ex s H acc,PTl (cxC X own hs scope C ex s H) elt (⟨tg,iter,ifs,0⟩::rest) scope pos acc 0 (t acc))
  (h2:PIE X pins σ tg (fun J H1=>∀acc,H1 acc=none->mt J g (dL ti (t acc)) { nx:=fun _ H'=>Q (.ref acc) H',rt:=fun _ _=>False } (σ++Zj own.length none) (upd H1 acc (.lst []))) itv s2)
  {RR:Value->Addr->Result->Shared->Prop} (hRR:∀acc C H' s',Inv X pins σ H' s'->fk X pins H' C->(∃m,s'.heap.Ns C m)->Q (.ref acc) H'->RR (.ref acc) C (.ok .next) s') :
  wpAny (model X.prog X.w) X.A (newList []) (fun acc s3=>wpAny (model X.prog X.w) X.A (Vf scope X.env.globals (bK X.env.cells scope.names []) [] X.env.qual none .none (some X.env)) (fun cenv s4=>
   codeAny (model X.prog X.w) X.A (.compStart (.ListComp elt (⟨tg,iter,ifs,0⟩::rest) scope pos) 0 itv acc { cenv with scope:=relabel scope X.env }) (RR acc cenv.locals) s4) E s3) E s2:=by
 obtain⟨it,fp,tn,J,H2,e,I2,T,st2,f2,R⟩:=h2;subst e;refine VW ?_;have I3:Inv X pins σ (upd H2 s2.heap.objs.size (.lst [])) { s2 with heap:=s2.heap.push { cls:=.type "list", dict:=none,data:=.seq ([]:List Value).toArray } }:=I2.lnew (its:=[]) (t':=s2.toks) .nil (Xj _);have W:=R s2.heap.objs.size (I2.hok.fresh (Ze _));generalize hs3:({ s2 with heap:=s2.heap.push { cls:=.type "list", dict:=none,data:=.seq ([]:List Value).toArray } }:Shared)=s3 at I3 ⊢;have e3:s3.heap=s2.heap.push { cls:=.type "list", dict:=none,data:=.seq ([]:List Value).toArray }:=by rw[<-hs3]
 have k3:∀b o,s2.heap.get? b=some o->s3.heap.get? b=some o:=fun b o e=>by rw[e3];exact Zl _ e
 have st3:tn 0 s3.heap:=T.keep _ _ _ st2 fun b _ o e=>k3 b o e;have fne:∀b ∈ fp,b < s2.heap.objs.size:=fun b hb=>let ⟨o,e,_⟩:=T.obj _ _ st2 b hb;Zn e;have f3:∀b ∈ fp,fk X pins (upd H2 s2.heap.objs.size (.lst [])) b:=fun b hb=>⟨by rw[ak (ZA (fne b hb))];exact(f2 b hb).1,(f2 b hb).2⟩;have fo3:∀b ∈ fp,b < s3.heap.objs.size:=fun b hb=>let ⟨o,e,_⟩:=T.obj _ _ st3 b hb;Zn e;refine rO ?_;have I4:=I3.compStart S f3 fo3;generalize hH3:upd H2 s2.heap.objs.size (.lst [])=H3 at I3 I4 f3 W
 have eE:({ scope:=relabel scope X.env,locals:=s3.heap.objs.size,globals:=X.env.globals,cells:=W1 (s3.heap.objs.size+1) scope.names (bK X.env.cells scope.names []),qual:=X.env.qual,func:=none,code:=X.env.code,frame:=X.env.frame,builtins:=X.env.builtins }:Env)=n9 scope s3.heap.objs.size X.env:=by
  unfold n9;rw[yi]
 generalize hs4:({ s3 with heap:=Vi (s3.heap.push { cls:=.type "dict", data:=.dict #[] }) scope.names }:Shared)=s4 at I4 ⊢;have k4:∀b o,s3.heap.get? b=some o->s4.heap.get? b=some o:=fun b o e=>by rw[<-hs4];exact Vj _ _ b o (Zl _ e)
 have st4:tn 0 s4.heap:=T.keep _ _ _ st3 fun b _ o e=>k4 b o e
 have f4:∀b ∈ fp,fk (cxC X own hs scope s3.heap.objs.size fp s3 H3) [] H3 b:=fun b hb=>by
  refine⟨(f3 b hb).1,ZA (fo3 b hb),I4.ok.exfs b hb,.inl hb,fun x c hl=>(I4.ok.exf b hb).2 x c hl,fun p hp=>absurd (show p ∈ ([]:List (Addr × Obj)) from hp) (by simp)⟩
 have L:=j3 (Y:=cxC X own hs scope s3.heap.objs.size fp s3 H3) (elt:=elt) (gens:=⟨tg,iter,ifs,0⟩::rest) (d:=0) (scope:=scope) (pos:=pos) (acc:=s2.heap.objs.size) rfl hc rfl T I4 st4 f4 (hgt _ _ _ _) (hts _ _ _ _) (htl _ _ _ _ _) W;have C:=iJ (elt:=elt) (gens:=⟨tg,iter,ifs,0⟩::rest) (d:=0) (scope:=scope) (pos:=pos) rfl L (T.self _ 0 s4 _ _ st4 L);show codeAny (model X.prog X.w) X.A (.compStart (.ListComp elt (⟨tg,iter,ifs,0⟩::rest) scope pos) 0 (.ref it) (.ref s2.heap.objs.size) { scope:=relabel scope X.env,locals:=s3.heap.objs.size,globals:=X.env.globals,cells:=W1 (s3.heap.objs.size+1) scope.names (bK X.env.cells scope.names []),qual:=X.env.qual,func:=none,code:=X.env.code,frame:=X.env.frame,builtins:=X.env.builtins }) (RR (.ref s2.heap.objs.size) s3.heap.objs.size) s4;rw[eE];refine W4 C fun r s' hr=>?_;obtain⟨rfl,σ',H',I',q⟩:=hr;obtain⟨mC,nC,_⟩:=id I'.loc;have freeC:H' s3.heap.objs.size=none:=I'.free;refine hRR _ _ H' s' ?_ (I3.fpOk (Ze _) freeC) ⟨mC,nC⟩ q;exact I3.call' (ch:=fp) I'.os I'.base I'.hok I'.bare fun b hb=>⟨(f3 b hb).2.2.2.1,(f3 b hb).2.1,(f3 b hb).2.2.2.2.1,(f3 b hb).2.2.2.2.2⟩
theorem yo(hc:X.calm=true)(S:CmScope own hs X.N scope X.env.scope)(hi:PI X tg iter wi)
  (hgt:∀C ex s H,PG (cxC X own hs scope C ex s H) tg g) (hts:∀C ex s H,PTs (cxC X own hs scope C ex s H) ifs ti)
  (htl:∀C ex s H acc,PTl (cxC X own hs scope C ex s H) elt (⟨tg,iter,ifs,0⟩::rest) scope pos acc 0 (t acc))
  (hs:∀x,W9 iter X.env x=pure x:=by intro _;rfl) :
  PE X (.ListComp elt (⟨tg,iter,ifs,0⟩::rest) scope pos) (t7 own.length wi g fun acc=>dL ti (t acc)):=by
 intro pins s σ H Q I h;rw[eval_ListComp];refine VI (use:=none) (cl:=bK X.env.cells scope.names []) rfl hs (p9 fun y hy hk=>I.ok.has y.1 (S.fr y hy hk)) S.kind (fun y hy hk=>cj S.uniq (by rw[<-hk];exact hy)) ?_;refine thn (hi pins s σ H _ I h) fun v s1 h1=>thn h1 fun itv s2 h2=>?_;refine iK hc S hgt hts htl h2 (RR:=fun acc C=>compPost (model X.prog X.w) X.A X.xe none (EP X pins σ Q) acc C) fun acc C H' s' I' f' m' q=>?_;obtain⟨m,nm⟩:=m';refine⟨m,nm,fun h' sb=>⟨.ref acc,H',?_,rfl,q⟩⟩;exact I'.turned (t':=s'.toks) (fun b o hb e=>(sb.2 b hb).trans e) f'.1 f'.2.1 f'.2.2.2.1 f'.2.2.2.2.1 f'.2.2.2.2.2
theorem yp{i:Nat}{x:Str}{pos' spos:Pos}(hc:X.calm=true)(S:CmScope own hs X.N scope X.env.scope)(hN:X.N.Nodup)(hix:X.N[i]?=some x)(hx:X.env.scope.names.lookup x=some .local)(hi:PI X tg iter wi)
  (hgt:∀C ex s H,PG (cxC X own hs scope C ex s H) tg g) (hts:∀C ex s H,PTs (cxC X own hs scope C ex s H) ifs ti)
  (htl:∀C ex s H acc,PTl (cxC X own hs scope C ex s H) elt (⟨tg,iter,ifs,0⟩::rest) scope pos acc 0 (t acc))
  (hsw:Vu (.ListComp elt (⟨tg,iter,ifs,0⟩::rest) scope pos) (some (.Name x pos')) spos.line X.env=pure true:=by rfl)
  (hs:∀x,W9 iter X.env x=pure x:=by intro _;rfl) :
  PS X (.Assign [.Name x pos'] (.ListComp elt (⟨tg,iter,ifs,0⟩::rest) scope pos) spos) (tI (t7 own.length wi g fun acc=>dL ti (t acc)) (jR i)):=by
 intro pins s σ H D I h;rw[exec_Assign_Name_used _ _ _ _ hsw];refine VF (V4 (VF ?_));show wpAny _ X.A (do let _ <-comprehension (.ListComp elt (⟨tg,iter,ifs,0⟩::rest) scope pos) scope X.env _ (newList []) false (eval iter X.env) (some (assign (.Name x pos') X.env))) _ _ s
 refine VF (VT (VI (use:=some (assign (.Name x pos') X.env)) (Q:=fun _ s'=>SP X pins D .next s') (cl:=bK X.env.cells scope.names []) rfl hs (p9 fun y hy hk=>I.ok.has y.1 (S.fr y hy hk)) S.kind (fun y hy hk=>cj S.uniq (by rw[<-hk];exact hy))
  ?_) (fun _ s' hq=>VY (VY hq)) fun _ _ e=>e)
 refine thn (hi pins s σ H _ I h) fun v s1 h1=>thn h1 fun itv s2 h2=>?_;refine iK (Q:=fun y H'=>jR i y σ H' D.nx) hc S hgt hts htl h2 (RR:=fun acc C=>compPost (model X.prog X.w) X.A X.xe (some (assign (.Name x pos') X.env)) (fun _ s'=>SP X pins D .next s') acc C) fun acc C H' s' I' f' m' q=>?_;obtain⟨m,nm⟩:=m';show wpAny _ X.A (assign (.Name x pos') X.env (.ref acc)) _ _ _;refine wpAny_assign_Name (jQ (v:=.ref acc) I' hN hix (.inl hx) rfl (fun s'' I'' hch=>?_) (.inr hx));obtain⟨a,sb1,ha⟩:=hch
 have ne:C ≠ a:=by
  rcases ha with e |e
  ·rw[e];exact f'.2.1
  ·exact fun z=>f'.2.2.2.2.1 x a e z.symm
 refine⟨m,nm.sameBut sb1 ne,fun h' sb=>⟨_,H',?_,q⟩⟩;exact I''.turned (t':=s''.toks) (fun b o hb e=>(sb.2 b hb).trans e) f'.1 f'.2.1 f'.2.2.2.1 f'.2.2.2.2.1 f'.2.2.2.2.2
end
end L2
namespace HT
open PySem PyProof.Rows
section
variable {prog:Program} {w:World} {A:Around} {E:Value->Shared->Prop} {s:Shared}
theorem t8{t b:Addr}{ws:List Value}{Q:Value->Shared->Prop}(ht:IsTup s.heap t ([]:List Value).toArray)(hb:IsTup s.heap b ws.toArray)(h:Q (.ref b) s):wpAny (model prog w) A (WV .Add (.ref t) (.ref b)) Q E s:=by
 obtain⟨⟨cls,dd,data,sl⟩,ho,hc,n,hd⟩:=id ht;obtain⟨⟨cls2,dd2,data2,sl2⟩,ho2,hc2,n2,hd2⟩:=id hb;simp only at hc hd hc2 hd2;subst hc hd hc2 hd2
 exact W6 ⟨_,ho,rfl⟩ ⟨_,ho2,rfl⟩ Vg Vo X3 XV (XR _ _)
   (tuple_addW0 t b _ ws.toArray n n2 dd dd2 sl sl2 (by simp)) ⟨ho,ho2,h⟩
theorem fo{t sl:Addr}{items:Array Value}{vl vu:Value}{lo hi:Option Int}{Q:Value->Shared->Prop}(ht:IsTup s.heap t items)(hs:s.heap.IsSliceOf sl vl vu .none)(pl:IsPart vl lo)(pu:IsPart vu hi)
  (hw:sIx items.size 0 lo=0/\sIx items.size items.size hi=items.size) (h:Q (.ref t) s):wpAny (model prog w) A (getItem (.ref t) (.ref sl)) Q E s:=by
 obtain⟨os,hos,hcs,hds⟩:=id hs;have hTs:s.TypeIs (.ref sl) "slice" := ⟨os,hos,hcs⟩;obtain⟨o,ho,hc,n,hd⟩:=id ht;unfold getItem
 try with_reducible refine VN ?_
 first |refine VF (VY ?_) |skip
 refine VF (wpAny_sequenceKey ht.typeIs (by decide) ?_)
 refine VF (wpAny_callSpecial?_slot (name:=Str.ofString "__getitem__") ht.typeIs XH
  (VH XH ht.typeIs entry_tuple_getitem ?_ (args_tuple_getitem _ _)))
 show wpAny _ _ (Builtin.Tuple.tupleItemsOf (.ref t) >>= _) _ _ s;refine VF (tupleItemsOf_ ht ?_);refine VF (V6 hTs ?_);rw[if_pos (by decide)];refine VF (cY hs pl pu ?_)
 have hyes:((((sIx items.size 0 lo:Nat):Int) == 0 && (1:Int) == 1 && (sIx items.size items.size hi - sIx items.size 0 lo) == items.size)=true):=by
  rw[hw.1,hw.2];simp
 show wpAny _ _ (if (((sIx items.size 0 lo:Nat):Int) == 0 && (1:Int) == 1 && (sIx items.size items.size hi - sIx items.size 0 lo) == items.size)=true then _ else _) _ _ s;rw[if_pos hyes];have hT:s.TypeIs (.ref t) "tuple" := ht.typeIs
 first
  | (refine VF (m:=Builtin.Tuple.tupleIsExact _) ?_
     unfold Builtin.Tuple.tupleIsExact;refine VF (V6 hT (VY ?_));rw[if_pos (by decide)];exact VF (V3 (VY ⟨_,rfl,VY h⟩)))
end
end HT
namespace L2
open PySem PySem.Spec PyProof.Rows
theorem t9{s:Shared}{h':Heap}{o:Obj}(hk:∀b x,b ∉ [s.heap.objs.size]->(s.heap.push o).get? b=some x->h'.get? b=some x):∀b x,s.heap.get? b=some x->h'.get? b=some x:=
 fun b x e=>hk b x (fun hm=>by rw[ZF.mp hm] at e;exact ZK _ (Zn e)) (Zl _ e)
section
variable {X:Cx}
def Hh(K:Wu):R2:=fun x y H Q=>∃a b xs ys,x = .ref a/\y = .ref b/\SqT K H a xs/\SqT K H b ys/\xs.length+ys.length<=sizeLine ∧
 (xs=[]->Q (.ref b) H)/\(xs ≠ []->ys=[]->Q (.ref a) H)/\(xs ≠ []->ys ≠ []->∀p,H p=none->Q (.ref p) (upd H p (.tup (xs++ys))))
theorem yq:OpR X (WV .Add) (Hh X.K):=by
 intro pins s σ H x y v u Q I rx ry h;obtain⟨a,b,xs,ys,rfl,rfl,ha,hb,hz,q0,q1,q2⟩:=h;by_cases hx:xs=[]
 ·subst hx;cases rx;cases ry;obtain⟨its,r1,p1,_⟩:=I.tuple ha;obtain⟨its2,r2,p2,_⟩:=I.tuple hb;cases r1;exact HT.t8 p1 p2 ⟨.ref b,H,I,rfl,q0 rfl⟩
 ·exact yd pins s σ H _ _ v u Q I rx ry ⟨a,b,xs,ys,rfl,rfl,ha,hb,hx,hz,q1 hx,q2 hx⟩
def J0(K:Wu):V->Option Int->Option Int->Hp->VK->Prop:=fun x lo hi H Q=>∃a xs,x = .ref a/\SqT K H a xs ∧
 ((HT.sIx xs.length 0 lo=0/\HT.sIx xs.length xs.length hi=xs.length)->Q (.ref a) H) ∧
 (¬ (HT.sIx xs.length 0 lo=0/\HT.sIx xs.length xs.length hi=xs.length)->∀p,H p=none->Q (.ref p) (upd H p (.tup (iI xs lo hi))))
theorem yr:SlR X (J0 X.K):=by
 intro pins s σ H x v vl vu lo hi sl Q I rx hs pl pu h;obtain⟨a,xs,rfl,hx,q1,q2⟩:=h;by_cases hw:(HT.sIx xs.length 0 lo=0/\HT.sIx xs.length xs.length hi=xs.length)
 ·cases rx;obtain⟨its,r,ht,hz⟩:=I.tuple hx;have hlen:its.toArray.size=xs.length:=by rw[Zi];exact r.length.symm
  refine⟨"tuple", _,PyProof.Rows.slot_tuple_getitem.lookup,ht.typeIs,?_⟩;exact HT.fo ht hs pl pu (by rw[hlen];exact hw) ⟨.ref a,H,I,rfl,q1 hw⟩
 ·exact CV pins s σ H _ v vl vu lo hi sl Q I rx hs pl pu ⟨a,xs,rfl,hx,hw,q2 hw⟩
theorem mv:aV X (.builtin "isinstance") (fun xs H Q=>∃x n t b,xs=[x,.ty n]/\TyOf X.K H x t/\WH X.K t (.type n)=some b/\Q (.bl b) H):=by
 intro pins s σ H xs us Q I r h;obtain⟨x,n,t,b,rfl,ty,e,q⟩:=h;obtain⟨u,w',rfl,rx,ry⟩:=tR r;cases ry;exact rJ I rx ty e fun tk=>⟨.bl b,H,I.tok tk,rfl,q⟩
theorem iL:∀ {bs:List Bool} {us:List Value},aG (bs.map V.bl) us->us=bs.map Value.bool
 |[],_,.nil=>rfl
 |_::_,_,.cons r t=>by rw[Zy,iL t];cases r;rfl
theorem rP(hc:X.calm=true):aV X (.builtin "all") (fun xs H Q=>∃ (l:Addr) (bs:List Bool),xs=[.ref l]/\SqL X.K H l (bs.map V.bl)/\Q (.bl (bs.all id)) H):=by
 intro pins s σ H xs us Q I r h;obtain⟨l,bs,rfl,hl,q⟩:=h;obtain⟨u,rfl,ru⟩:=fv r;cases ru;obtain⟨its,rv,p,hz⟩:=I.list hl;have e:=iL rv;subst e;have hL:=p.isList;have hlt:l < s.heap.objs.size:=by obtain⟨_,e,_⟩:=hL;exact Zn e
 refine call_all_walk (wpAny_pyIter_list hL ?_)
 refine⟨s.heap.objs.size,[s.heap.objs.size,l],[s.heap.objs.size],_,_,_,fun i=>(bs[i]?).getD true,rfl,Walks.list (A:=X.A.in1) (I.ok.hd hc) _ l (ZA hlt) _,
  ⟨⟨_,ZB _ rfl,rfl,rfl⟩,hL.push _⟩,fun i v s' Q' E' hP hQ=>?_,fun h' tk hk=>?_⟩
 ·have hP':(bs.map Value.bool)[i]?=some v:=by simpa using hP
  rw[Zt] at hP';cases hb:bs[i]? with
  |none=>rw[hb] at hP';cases hP'
  |some b=>
   rw[hb] at hP';have ev:Value.bool b=v:=Option.some.inj hP';subst ev;simp only[hb,Z0] at hQ;exact V5 hQ
 ·have e:((Zm (bs.map Value.bool).toArray.size).all fun i=>(bs[i]?).getD true)=bs.all id:=by
   rw[Zi,Zc,ZZ];simp only[Zk,ZO,id];constructor
   ·intro h b hb;obtain⟨i,hi,rfl⟩:=YY.mp hb;have:=h i hi
    rwa [gEG hi,Z0] at this
   ·intro h i hi;rw[gEG hi,Z0];exact h _ (ZM hi)
  rw[e];exact⟨.bl (bs.all id),H,I.kept (t':=tk) (t9 hk),rfl,q⟩
theorem C2:OpR X (W5 .Is) (fun x y H Q=>∃b c,x = .bl b/\y = .bl c/\Q (.bl (b == c)) H):=by
 intro pins s σ H x y v u Q I rx ry h;obtain⟨b,c,rfl,rfl,q⟩:=h;cases rx;cases ry;exact is_bool ⟨.bl _,H,I,rfl,q⟩
theorem rQ:OpR X (W5 .IsNot) (fun x y H Q=>∃b c,x = .bl b/\y = .bl c/\Q (.bl (b != c)) H):=by
 intro pins s σ H x y v u Q I rx ry h;obtain⟨b,c,rfl,rfl,q⟩:=h;cases rx;cases ry;exact isnot_bool ⟨.bl _,H,I,rfl,q⟩
theorem iM(hc:X.calm=true):∀ {pins:List (Addr × Obj)} {s:Shared} {σ:St} {H:Hp} {Q:VK} {r:Addr} {n:Nat} {t u v:Tok},Inv X pins σ H s->IsRange s.heap r 0 n 1 t u v->n<=1000->(∀l,H l=none->Q (.ref l) (upd H l (.lst ((Zm n).map fun(i:Nat)=>V.int i)))) ->
  wpAny (model X.prog X.w) X.A (call (.type "list") [.ref r]) (EP X pins σ Q) X.xe s:=by
 intro pins s σ H Q r n t u v I hr hn q;have hsm:Builtin.Range.small 0 n 1=true:=small_one (by omega) (by omega) (by omega) (by omega);refine call_list_range (n:=n) (I.ok.hd hc) hr hsm (by rw[Vk];split <;> omega) (by omega) fun h' tk acc' c' hk hS' hacc=>?_;refine⟨.ref s.heap.objs.size,_,I.laid (t':=tk) (o:=.lst ((Zm n).map fun(i:Nat)=>V.int i)) hk (Ze _) ?_,rfl,q _ (I.hok.fresh (Ze _))⟩;have hsz:acc'.size=n:=hacc.1;refine⟨by rw[Zc,ZG];exact YA (jZ hn),acc'.toList,c',?_,by simpa using hS'⟩
 have go:∀ (m:Nat) (k:Nat) (l:List Value),l.length=m->(∀j x,l[j]?=some x->∃tk,x=Value.int (((k+j:Nat):Nat):Int) tk)->aG ((List.range' k m).map fun(i:Nat)=>V.int i) l:=by
  intro m
  induction m with
  |zero=>intro k l hl _;cases l with |nil=>exact .nil |cons _ _=>cases hl
  |succ m ih=>
   intro k l hl hx;cases l with
   |nil=>cases hl
   |cons x l=>
    rw[List.range'_succ,Zy];obtain⟨t,e⟩:=hx 0 x rfl;refine .cons ⟨t,by simpa using e⟩ (ih (k+1) l (by simpa using hl) fun j y hy=>?_);obtain⟨t',e'⟩:=hx (j+1) y (by simpa using hy);exact⟨t',by rw[e',show((k+(j+1):Nat):Int)=((k+1+j:Nat):Int) from by omega]⟩
 rw[List.range_eq_range'];refine go n 0 acc'.toList (by simpa using hsz) fun j x hx=>?_;obtain⟨tk',e⟩:=hacc.2 j x (by simpa using hx);exact⟨tk',by rw[e,show(0:Int)+(j:Nat) * 1=((0+j:Nat):Int) from by omega]⟩
end
section
variable {κ:Type} [DecidableEq κ]
noncomputable def mw(kvs:List (κ × V))(k:κ)(v:V):List (κ × V):=
 if (kvs.any fun kv=>decide (kv.1=k))=true then kvs.map (fun kv=>if kv.1=k then (kv.1,v) else kv) else kvs++[(k,v)]
theorem my(kvs:List (κ × V))(k:κ)(v:V):(mw kvs k v).length<=kvs.length+1:=by
 unfold mw;split
 ·rw[Zc];omega
 ·rw[Zh,ZD,YS];omega
theorem KV.any{kvs:List (κ × V)}{vs:List (κ × Value)}(r:KV kvs vs)(k:κ):(kvs.any fun kv=>decide (kv.1=k))=vs.any fun kv=>decide (kv.1=k):=by
 unfold KV at r
 induction r with
 |nil=>rfl
 |cons h t ih=>rw[Yn,Yn,ih,h.1]
theorem KV.repl{kvs:List (κ × V)}{vs:List (κ × Value)}(r:KV kvs vs)(k:κ){y:V}{u:Value}(ry:av y u) :
  KV (kvs.map fun kv=>if kv.1=k then (kv.1,y) else kv) (vs.map fun kv=>if kv.1=k then (kv.1,u) else kv):=by
 unfold KV at r ⊢
 induction r with
 |nil=>exact .nil
 |@cons p q ps qs h t ih=>
  rw[Zy,Zy];refine .cons ?_ ih;obtain⟨h1,h2⟩:=h;by_cases e:p.1=k
  ·rw[if_pos e,if_pos (h1.symm.trans e)];exact⟨h1,ry⟩
  ·rw[if_neg e,if_neg (fun z=>e (h1.trans z))];exact⟨h1,h2⟩
theorem KV.put{kvs:List (κ × V)}{vs:List (κ × Value)}(r:KV kvs vs)(k:κ){y:V}{u:Value}(ry:av y u):KV (mw kvs k y) (stored vs k u):=by
 unfold mw stored;rw[r.any k];by_cases e:(vs.any fun kv=>decide (kv.1=k))=true
 ·rw[if_pos e,if_pos e];exact r.repl k ry
 ·rw[if_neg e,if_neg e];exact Paired.snoc r ⟨rfl,ry⟩
end
theorem Hi{P:Program}{w:World}{k:Key}{u:Value}(r:av (kV k) u):(bj P w).is k u=true:=by
 cases k with
 |inl i=>obtain⟨t,e⟩:=(show ∃t,u=Value.int i t from r);subst e;exact mj P w i t
 |inr x=>obtain⟨t,e⟩:=(show ∃t,u=Value.str x t from r);subst e;exact ml P w x t
section
variable {P:Program} {w:World} {H:Hp} {h:Heap} {a:Addr}
theorem Hj{u:HO}(ok:HOk P w H h)(e:Rd H a u):aU P w H h a u:=e.ok ok
theorem Hk{kvs:List (Key × V)}(ok:HOk P w H h)(e:Rd H a (.dK kvs)):kvs.length<=sizeLine/\(a == Vw)=false/\∃vs,KV kvs vs/\h.DictOf (bj P w) a vs:=
 show aU P w H h a (.dK kvs) from Hj ok e
theorem Hl{kvs:List (Key × V)}(ok:HOk P w H h)(e:H a=some (.dK kvs)):kvs.length<=sizeLine/\(a == Vw)=false/\∃vs,KV kvs vs/\h.DictOf (bj P w) a vs:=Hk ok (.inl e)
end
section
variable {X:Cx} {pins:List (Addr × Obj)} {σ:St} {H:Hp} {s:Shared} {a:Addr} {y v:V} {u r:Value} {o:Option V} {A:Around} {E:Value->Shared->Prop}
theorem Inv.big(I:Inv X pins σ H s):Vw < s.heap.objs.size:=by
 have h:Vd < s.heap.objs.size:=(I.mod.glob.keeps I.bk).lt;exact Nat.lt_trans (by decide) h
theorem yt{h':Heap}{t':Nat}{ob:HO}(I:Inv X pins σ H s)(mu:Mut (H a))(hs:Heap.SameBut a s.heap h')(he:∃q,h'.get? a=some q)(new:aU X.prog X.w (upd H a ob) h' a ob) :
  Inv X pins σ (upd H a ob) { s with heap:=h',toks:=t' }:=
 I.write (x:=a) (e:=a) mu (.inl rfl) (fun b q hb z=>(hs.2 b hb).trans z) he new
theorem C3{P:Program}{w:World}{H':Hp}{h':Heap}{kvs:List (Key × V)}{vs:List (Key × Value)}(z:kvs.length<=sizeLine)(hd:(a == Vw)=false)(rel:KV kvs vs)(dd:h'.DictOf (bj P w) a vs) :
  aU P w H' h' a (.dK kvs):=⟨z,hd,vs,rel,dd⟩
end
theorem mz{P:Program}{w:World}{H:Hp}(h:Heap)(hb:Vw < h.objs.size):aU P w H (h.push { cls:=.type "dict", data:=.dict #[] }) h.objs.size (.dK []):=
 ⟨Xj _,beq_eq_false_iff_ne.mpr (Ne.symm (ZA hb)),[],.nil,Heap.DictOf.new h⟩
def ua:TE:=fun _ H Q=>∀p,H p=none->Q (.ref p) (upd H p (.dK []))
section
variable {X:Cx} {pos:Pos}
theorem ub:PE X (.Dict [] [] pos) ua:=fun pins s σ H Q I h=>
 wpAny_Dict_empty ⟨.ref s.heap.objs.size,_,I.laid (a:=s.heap.objs.size) (o:=.dK []) (t':=s.toks) (fun _ _ q=>Zl _ q) (Ze _) (mz s.heap I.big),rfl,h _ (I.hok.fresh (Ze _))⟩
end
def og:List (TE × TE)->St->Hp->(List (V × V)->Hp->Prop)->Prop
 |[],_,H,Q=>Q [] H
 |(tk,tv)::r,σ,H,Q=>tk σ H fun x H1=>tv σ H1 fun y H2=>og r σ H2 fun ps H3=>Q ((x,y)::ps) H3
abbrev VV:List (V × V)->List (Value × Value)->Prop:=Paired fun p q=>av p.1 q.1/\av p.2 q.2
def PPs(X:Cx)(pos:Pos)(keys:List (Option Expr))(values:List Expr)(trs:List (TE × TE)):Prop:=
 ∀ (pins:List (Addr × Obj)) (s:Shared) (σ:St) (H:Hp) (Q:List (V × V)->Hp->Prop),Inv X pins σ H s->og trs σ H Q ->
  wpAny (model X.prog X.w) X.A (evalPairs (pairTrees keys values X.env pos)) (fun vs s'=>∃ps H',Inv X pins σ H' s'/\VV ps vs/\Q ps H') X.xe s
theorem yu{X:Cx}{pos:Pos}:PPs X pos [] [] []:=fun pins s σ H Q I h=>pairTrees_nil_walk ⟨[],H,I,.nil,h⟩
theorem uc{X:Cx}{pos:Pos}{k v:Expr}{ks:List (Option Expr)}{vs:List Expr}{tk tv:TE}{trs:List (TE × TE)}(hk:PE X k tk)(hv:PE X v tv)(hr:PPs X pos ks vs trs) :
  PPs X pos (some k::ks) (v::vs) ((tk,tv)::trs):=fun pins s σ H Q I h=>
 pairTrees_cons_walk (thn (hk pins s σ H _ I h) fun u s1 ⟨x,H1,I1,rx,q1⟩=>thn (hv pins s1 σ H1 _ I1 q1) fun w2 s2 ⟨y,H2,I2,ry,q2⟩=>
  thn (hr pins s2 σ H2 _ I2 q2) fun ws s3 ⟨ps,H3,I3,rel,q3⟩=>⟨(x,y)::ps,H3,I3,.cons ⟨rx,ry⟩ rel,q3⟩)
noncomputable def iO(kvs more:List (Key × V)):List (Key × V):=more.foldl (fun acc kv=>mw acc kv.1 kv.2) kvs
theorem KV.merge:∀ {more:List (Key × V)} {rs:List (Key × Value)} {kvs:List (Key × V)} {vs:List (Key × Value)},KV more rs->KV kvs vs->KV (iO kvs more) (merged vs rs):=by
 intro more rs kvs vs r;unfold KV at r
 induction r generalizing kvs vs with
 |nil=>intro q;exact q
 |@cons p q ps qs h t ih=>
  intro r0
  have e:KV (mw kvs p.1 p.2) (stored vs q.1 q.2):=by
   have:=r0.put p.1 h.2;rw[<-h.1];exact this
  exact ih e
theorem fA:∀ (more kvs:List (Key × V)),(iO kvs more).length<=kvs.length+more.length
 |[],kvs=>by show kvs.length<=kvs.length+0;omega
 |p::r,kvs=>by
  have h1:=fA r (mw kvs p.1 p.2);have h2:=my kvs p.1 p.2;show(iO (mw kvs p.1 p.2) r).length<=_;rw[ZD];omega
theorem iP{P:Program}{w:World}:∀ {kvs:List (Key × V)} {ws:List (Value × Value)},VV (kvs.map fun kv=>(kV kv.1,kv.2)) ws->∃rs,Carries (bj P w) ws rs/\KV kvs rs
 |[],_,r=>by rw[Yc] at r;cases r;exact⟨[],True.intro,.nil⟩
 |p::kvs,_,r=>by
  rw[Zy] at r;cases r with
  |@cons a b as bs h t=>
   obtain⟨rs,c,q⟩:=iP (P:=P) (w:=w) t;obtain⟨b1,b2⟩:=b;exact⟨(p.1,b2)::rs,⟨Hi h.1,rfl,c⟩,.cons ⟨rfl,h.2⟩ q⟩
def ud(trs:List (TE × TE)):TE:=fun σ H Q=>∀p,H p=none->og trs σ (upd H p (.dK [])) fun ps H2=>H2 p=some (.dK [])/\∃kvs:List (Key × V),ps=kvs.map (fun kv=>(kV kv.1,kv.2))/\kvs.length<=15/\Q (.ref p) (upd H2 p (.dK (iO [] kvs)))
theorem yv{X:Cx}{pos:Pos}{keys:List (Option Expr)}{values:List Expr}{trs:List (TE × TE)}(h:PPs X pos keys values trs)(hall:keys.all (·.isSome)=true)(hl:keys.length=values.length)(h0:keys ≠ [])
  (h15:keys.length<=15):PE X (.Dict keys values pos) (ud trs):=by
 intro pins s σ H Q I q;have hn:=I.hok.fresh (Ze s.heap.objs.size);have I1:=I.laid (a:=s.heap.objs.size) (o:=.dK []) (h':=s.heap.push { cls:=.type "dict", data:=.dict #[] }) (t':=s.toks) (fun _ _ q=>Zl _ q) (Ze _) (mz s.heap I.big);refine wpAny_Dict_walk (knd:=bj X.prog X.w) hall hl h0 h15 (thn (h pins _ σ _ _ I1 (q _ hn)) fun ws s2 ⟨ps,H2,I2,rel,e,kvs,ep,lk,q2⟩=>?_);subst ep;obtain⟨rs,c,rk⟩:=iP (P:=X.prog) (w:=X.w) rel;obtain⟨z,hd,vs0,r0,dd⟩:=Hl I2.hok e;cases r0;refine⟨rs,c,dd,fun h' dd' hs=>⟨.ref s.heap.objs.size,_,?_,rfl,q2⟩⟩
 have hz:(iO [] kvs).length<=sizeLine:=by
  have h1:=fA kvs [];rw[YS] at h1;rw[Vp];omega
 have he:∃q,h'.get? s.heap.objs.size=some q:=let ⟨q,_,_,hq,_⟩:=dd';⟨q,hq⟩;exact yt I2 (by rw[e];exact True.intro) hs he (C3 hz hd (rk.merge .nil) dd')
end L2
namespace HT
open PySem PyProof.Rows
open AutoSeq1 (wpAny_loadPart')
section
variable {prog:Program} {w:World} {A:Around} {E:Value->Shared->Prop} {s:Shared}
theorem ia{it t:Addr}{i:Nat}{items:Array Value}{x:Value}{Q:Value->Shared->Prop}(hit:s.heap.IsTupleIter it t i)(ht:s.heap.IsTuple t items)(hx:items[i]?=some x)
  (hQ:∀h',h'.IsTupleIter it t (i+1)->Heap.SameBut it s.heap h'->Q x { s with heap:=h' }):wpAny (model prog w) A (Builtin.SmallTypes.nextOf (.ref it)) Q E s:=by
 obtain⟨o,ho,hc,hd⟩:=id hit;obtain⟨ol,hol,_,nl,hdl⟩:=ht;unfold Builtin.SmallTypes.nextOf
 refine VF (wpAny_callSpecial?_slot (name:=Str.ofString "__next__") hit.typeIs X5
  (VH X5 hit.typeIs XW ?_ (XU _)))
 show wpAny _ _ (field (.ref it) 0 >>= _) _ _ s;refine VF (VM ho hd (x:=.ref t) rfl ?_);show wpAny _ _ (if (Value.ref t == Value.none)=true then _ else _) _ _ s;rw[if_neg (show ¬ ((Value.ref t == Value.none)=true) from Zb)];show wpAny _ _ (field (.ref it) 1 >>= _) _ _ s;refine VF (VM ho hd (x:=.int i 0) rfl ?_);show wpAny _ _ (seqItems? (.ref t) >>= _) _ _ s;refine VF (wpAny_seqItems hol hdl ?_);simp only[ZN,hx];refine VF (wpAny_setField ho hd (by simp) (VY ⟨x,rfl,VY (hQ _ ?_ (Heap.SameBut.update ..))⟩))
 exact⟨_,YU _ ho (Obj.isFreed_of_fields (Obj.data_mapFields hd _)),(Obj.cls_mapFields ..).trans hc,by
  rw[Obj.data_mapFields hd];simp[rawInt]⟩
theorem iQ{it t:Addr}{i:Nat}{items:Array Value}{Q:Value->Shared->Prop}(hh:A.handled=none)(hit:s.heap.IsTupleIter it t i)(ht:s.heap.IsTuple t items)(hx:items[i]?=none)
  (hE:∀h' e,Heap.ExtBut it s.heap h'->(∃o,h'.get? e=some o/\o.cls = .type "StopIteration")->E (.ref e) { s with heap:=h' }):wpAny (model prog w) A (Builtin.SmallTypes.nextOf (.ref it)) Q E s:=by
 obtain⟨o,ho,hc,hd⟩:=id hit;obtain⟨ol,hol,_,nl,hdl⟩:=ht;unfold Builtin.SmallTypes.nextOf
 refine VF (wpAny_callSpecial?_slot (name:=Str.ofString "__next__") hit.typeIs X5
  (VH X5 hit.typeIs XW ?_ (XU _)))
 show wpAny _ _ (field (.ref it) 0 >>= _) _ _ s;refine VF (VM ho hd (x:=.ref t) rfl ?_);show wpAny _ _ (if (Value.ref t == Value.none)=true then _ else _) _ _ s;rw[if_neg (show ¬ ((Value.ref t == Value.none)=true) from Zb)];show wpAny _ _ (field (.ref it) 1 >>= _) _ _ s;refine VF (VM ho hd (x:=.int i 0) rfl ?_);show wpAny _ _ (seqItems? (.ref t) >>= _) _ _ s;refine VF (wpAny_seqItems hol hdl ?_);simp only[ZN,hx];refine VF (V3 (VF (wpAny_setField ho hd (by simp) ?_)));show wpAny _ _ (newExc (.type "StopIteration") [] >>= _) _ _ _;refine VF ?_;simp only[newExc,newTuple];refine VF (VW ?_ (by size_fits));refine VF (m:=firstArgMember _ _) (wpAny_of_eq (a:=Value.none) (by first |rfl |(simp only[firstArgMember];rfl)) ?_);refine VW ?_ (by size_fits);simp only[raiseNew];refine VF (wpAny_handled ?_)
 first |rw[show A.in1.handled=none from hh] |rw[hh]
 refine VF (VY (wpAny_throw ?_));exact hE _ _ (((Heap.SameBut.update ..).extBut.push _).push _) ⟨_,ZB _ rfl,rfl⟩
end
theorem ue{prog:Program}{w:World}{A:Around}(hh:A.handled=none)(it l:Addr)(hne:l ≠ it)(items:Array Value) :
  Draws prog w A it [it,l] items.size (fun i v=>items[i]?=some v) (fun i h=>h.IsTupleIter it l i/\h.IsTuple l items) where
 live:=fun _ _ st=>let ⟨o,ho,_⟩:=st.1;⟨o,ho⟩
 frame:=fun _ _ _ st hk=>⟨st.1.at fun o e=>hk it (by simp) o e,let ⟨o,e,r⟩:=st.2;⟨o,hk l (by simp) o e,r⟩⟩
 item:=fun i s Q E hi st hQ=>by
  refine ia st.1 st.2 (x:=items[i]) (by simp[hi]) fun h' hit' hs'=>?_;exact hQ _ h' s.toks (by simp[hi]) ⟨hit',let ⟨o,e,r⟩:=st.2;⟨o,hs'.extBut l o hne e,r⟩⟩ hs'
 done:=fun s Q E st hE=>iQ hh st.1 st.2 (by simp) hE
theorem mB(l:Addr)(items:Array Value)(n:Nat)(dct:Option Addr)(sl:Array (Option Value)) :
  Meets (Builtin.«enumerate.__new__» ⟨[.type "enumerate", .ref l],[]⟩) (fun _ R s=>s.heap.get? l=some { cls:=.type "tuple", dict:=dct,data:=.seq items n,slots:=sl } ∧
   R (.ok (.ret (.ref (s.heap.push { cls:=.type "tuple_iterator", data:=.fields #[.ref l,.int 0 0] }).objs.size)))
    { s with heap:=(s.heap.push { cls:=.type "tuple_iterator", data:=.fields #[.ref l,.int 0 0] }).push { cls:=.type "enumerate", data:=.fields #[.none,.bool false,.ref s.heap.objs.size,rawInt 0,.none,.none] } }):=
 .of_wp fun prog w A R s h=>by
  obtain⟨hp,g,d,tk,os⟩:=s;obtain⟨hl,h⟩:=h;have hsub:=sub_enumerate;have hL:Heap.IsTuple (Shared.heap ⟨hp,g,d,tk,os⟩) l items:=⟨_,hl,rfl,n,rfl⟩
  wp_walk using VR hl
  refine wpAny_stack_any fun st=>VY ?_;split
  ·rename_i c _ _ _ _ _;cases (c == Value.type "enumerate")
   ·wp_walk using VR hl,V0 hL
    exact⟨_,rfl,h⟩
   ·wp_walk using VR hl,V0 hL
    exact⟨_,rfl,h⟩
  ·wp_walk using VR hl,V0 hL
   exact⟨_,rfl,h⟩
theorem oh{prog:Program}{w:World}{A:Around}{E:Value->Shared->Prop}{s:Shared}{l:Addr}{items:Array Value}{Q:Value->Shared->Prop}(hL:IsTup s.heap l items)
  (h:∀h',IsEnum h' (s.heap.objs.size+1) s.heap.objs.size 0 .none->h'.IsTupleIter s.heap.objs.size l 0->h'.objs.size=s.heap.objs.size+2 ->
   (∀b o,s.heap.get? b=some o->h'.get? b=some o)->Q (.ref (s.heap.objs.size+1)) { s with heap:=h' }) :
  wpAny (model prog w) A (call (.type "enumerate") [.ref l]) Q E s:=by
 obtain⟨⟨c,dct,dt,sl⟩,hl,hc,n,hd⟩:=hL;replace hc:c = .type "tuple" := hc;replace hd:dt = .seq items n:=hd;subst hc hd
 refine callType_new PySem.F.called_enumerate (by decide) (PySem.F.typeCall_enumerate_1 _) (PySem.F.newCall_enumerate_1 _) (fun obj=>PySem.F.args_object_init_2 obj _) PySem.F.entry_enumerate_new
  (mB l items n dct sl) ⟨hl,?_⟩
 have hz:(s.heap.push { cls:=.type "tuple_iterator", data:=.fields #[.ref l,.int 0 0] }).objs.size=s.heap.objs.size+1:=Yo ..;show _/\_;rw[hz]
 have he:IsEnum ((s.heap.push { cls:=.type "tuple_iterator", data:=.fields #[.ref l,.int 0 0] }).push
   { cls:=.type "enumerate", data:=.fields #[.none,.bool false,.ref s.heap.objs.size,rawInt 0,.none,.none] }) (s.heap.objs.size+1) s.heap.objs.size 0 .none:=by
  have:=ZB (s.heap.push { cls:=.type "tuple_iterator", data:=.fields #[.ref l,.int 0 0] })
   (o:={ cls:=.type "enumerate", data:=.fields #[.none,.bool false,.ref s.heap.objs.size,rawInt 0,.none,.none] }) rfl
  rw[hz] at this;exact this
 exact⟨⟨_,he,rfl⟩,h _ he ⟨_,Zl _ (ZB _ rfl),rfl,rfl⟩ (by rw[Yo,hz]) fun b o x=>Zl _ (Zl _ x)⟩
end HT
namespace L2
open PySem PySem.Spec PyProof.Rows
noncomputable def Ite(K:Wu)(a:Addr)(sq:Wu->Hp->Addr->List V->Prop):It:=
 ⟨fun i H=>∃xs x,sq K H a xs/\xs[i]?=some x,fun i H x H'=>∃T,H T=none/\x = .ref T/\∀xs v,sq K H a xs->xs[i]?=some v->H'=upd H T (.tup [.int i,v]),fun i H=>∃xs,sq K H a xs/\xs.length=i⟩
theorem Inv.turnedLaid{X:Cx}{pins:List (Addr × Obj)}{σ:St}{H:Hp}{s:Shared}{h':Heap}{T:Addr}{o:HO}{t':Nat}{ch:List Addr}(I:Inv X pins σ H s)(hf:∀b ∈ ch,fk X pins H b)
  (k:∀b ob,b ∉ ch->s.heap.get? b=some ob->h'.get? b=some ob) (hp:s.heap.objs.size<=T) (new:aU X.prog X.w (upd H T o) h' T o):Inv X pins σ (upd H T o) { s with heap:=h',toks:=t' }:=by
 have fr:=I.hok.fresh hp;have neT:∀b ob,s.heap.get? b=some ob->b ≠ T:=fun b ob e=>ZA (Zs (Zn e) hp)
 refine I.step (g':=s.gens) (d':=s.drawn) (ch:=ch) (fun b hb=>⟨(hf b hb).2.2.2.1,(hf b hb).2.1,(hf b hb).2.2.2.2.1,(hf b hb).2.2.2.2.2⟩) (fun b ob _ _ hc e _=>k b ob hc e) (fun b ob _ _ hc e _=>⟨ob.slots,k b ob hc e⟩)
  (fun b ob _ e n=>by rw[ak (neT b ob e)];exact n) (fun b ob hc e=>⟨ob,k b ob hc e⟩) (fun b xs q=>by rw[ak (aD q fr)];exact q) (fun b u xs q=>by rw[ak (aD q fr)];exact q)
  (fun b ps q=>⟨#[],by rw[ak (aD q fr),q];simp⟩) (fun m hm=>?_) (fun b u q=>?_) I.bare
 ·obtain⟨ob,es,ep,ho',r'⟩:=hm;exact⟨ob,es,ep,k _ ob (fun z=>(hf _ z).2.1 rfl) ho',r'⟩
 ·by_cases hb:b=T
  ·subst hb;rw[ao] at q;cases q;exact new
  ·rw[ak hb] at q;refine(I.hok b u q).stay (fun c v hc q'=>k c v (fun z=>?_) q') (fun c q=>by rw[ak (aD q fr)];exact q) fun c xs q=>by rw[ak (aD q fr)];exact q
   have n:=(hf c z).1;rcases hc with w |w
   ·rw[w,q] at n;cases n
   ·rw[w] at n;cases n
theorem Inv.turnedAll{X:Cx}{pins:List (Addr × Obj)}{σ:St}{H:Hp}{s:Shared}{h':Heap}{t':Nat}{ch:List Addr}(I:Inv X pins σ H s)(hf:∀b ∈ ch,fk X pins H b)
  (k:∀b ob,b ∉ ch->s.heap.get? b=some ob->h'.get? b=some ob):Inv X pins σ H { s with heap:=h',toks:=t' }:=by
 refine I.step (g':=s.gens) (d':=s.drawn) (ch:=ch) (fun b hb=>⟨(hf b hb).2.2.2.1,(hf b hb).2.1,(hf b hb).2.2.2.2.1,(hf b hb).2.2.2.2.2⟩) (fun b ob _ _ hc e _=>k b ob hc e) (fun b ob _ _ hc e _=>⟨ob.slots,k b ob hc e⟩)
  (fun b ob _ e n=>n) (fun b ob hc e=>⟨ob,k b ob hc e⟩) (fun b xs q=>q) (fun b u xs q=>q)
  (fun b ps q=>⟨#[],by rw[q];simp⟩) (fun m hm=>?_) (fun b u q=>?_) I.bare
 ·obtain⟨ob,es,ep,ho',r'⟩:=hm;exact⟨ob,es,ep,k _ ob (fun z=>(hf _ z).2.1 rfl) ho',r'⟩
 ·refine(I.hok b u q).stay (fun c v hc q'=>k c v (fun z=>?_) q') (fun c q=>q) fun c xs q=>q;have n:=(hf c z).1;rcases hc with w |w
  ·rw[w,q] at n;cases n
  ·rw[w] at n;cases n
theorem oi{P:Program}{w:World}{K:Wu}{elts:List Expr}{x1:Nat}{tp:Pos}(a e it:Addr)(hei:e ≠ it) :
  Turn P w K (.Tuple elts x1 tp) (Ite K a SqL) [e,it] e (fun i h=>(∃old,IsEnum h e it i old)/\h.IsListIter it a i) where
 mem:=by simp
 obj:=fun i h st b hb=>by
  obtain⟨⟨old,he⟩,o,eo,c,d⟩:=st;rcases Zq.mp hb with z |z
  ·subst z;exact⟨_,he,fun v z=>by have z':Data.fields _=Data.cell v:=z;cases z'⟩
  ·have z':=ZF.mp z;subst z';exact⟨o,eo,fun v z=>by rw[d] at z;cases z⟩
 keep:=fun i h h' st k=>⟨let ⟨old,he⟩:=st.1;⟨old,k e (by simp) _ he⟩,st.2.at fun o eo=>k it (by simp) o eo⟩
 item:=by
  intro X hP hw hK hc i pins s σ H E I hf st hg;subst hP hw hK;obtain⟨xs,x,hq,hx⟩:=hg;obtain⟨its,rv,p,hz⟩:=I.list hq;obtain⟨u,hu,ru⟩:=rv.get hx;obtain⟨⟨old,he⟩,hit⟩:=st;have hL:s.heap.IsList a its.toArray:=p.isList
  have hae:e ≠ a:=fun z=>by
   subst z;obtain⟨o,ho,hc',n,hd'⟩:=id hL;rw[he] at ho;cases ho;have z':Data.fields _=Data.seq its.toArray n:=hd';cases z'
  have hai:a ≠ it:=fun z=>by
   subst z;obtain⟨o,ho,hc',n,hd'⟩:=id hL;obtain⟨o',ho',c',d'⟩:=id hit;rw[ho'] at ho;cases ho;rw[d'] at hd';cases hd'
  have hi:i < its.toArray.size:=by
   have:=(Za.mp hu).1
   simpa using this
  refine V2 (Draws.list (A:=X.A.in1) (I.ok.hd hc) it a hai its.toArray) he ⟨hit,hL⟩ hi hei (by simp[hei,hae]) fun y h' tk hP ho hs' hT hsz hk=>?_
  have ey:y=u:=by
   have z:its.toArray[i]?=some u:=by simpa using hu
   rw[z] at hP;exact(Option.some.inj hP).symm
  subst ey;refine⟨_,rfl,?_⟩;refine VQ ho fun h2 he2 hs2=>?_;have helt:e < s.heap.objs.size:=Zn he;have hilt:it < s.heap.objs.size:=by obtain⟨o,eo,_⟩:=hit;exact Zn eo
  have hT2:h2.get? s.heap.objs.size=some { cls:=.type "tuple", data:=.seq #[.int i tk,y] }:=(hs2.2 _ (Y6 helt)).trans hT;have fresh:=I.hok.fresh (Ze s.heap.objs.size);refine⟨.ref s.heap.objs.size,upd H s.heap.objs.size (.tup [.int i,x]),?_,rfl,⟨_,fresh,rfl,fun ys v hy hv=>?_⟩,⟨⟨y,by simpa using he2⟩,hs'.1.at fun o eo=>(hs2.2 it (Ne.symm hei)).trans eo⟩,fun b hb=>?_⟩
  ·exact I.turnedLaid (t':=tk+1) hf (fun b ob hb eb=>(hs2.2 b fun z=>hb (by simp[z])).trans (hk b ob (fun z=>hb (by simp[z])) (fun z=>hb (by simp[z])) eb)) (Ze _)
    ⟨by show 2<=sizeLine;decide,[.int i tk,y],.cons ⟨tk,rfl⟩ (.cons ru .nil),⟨_,hT2,rfl,_,rfl,rfl⟩⟩
  ·rw[I.list_inj hy hq,hx] at hv;cases hv;rfl
  ·rcases Zq.mp hb with z |z
   ·rw[z,ak (ZA helt)];exact(hf e (by simp)).1
   ·rw[ZF.mp z,ak (ZA hilt)];exact(hf it (by simp)).1
 done:=by
  intro X hP hw hK hc i pins s σ H E I hf st hg;subst hP hw hK;obtain⟨xs,hq,hx⟩:=hg;obtain⟨its,rv,p,hz⟩:=I.list hq;obtain⟨⟨old,he⟩,hit⟩:=st;have hL:s.heap.IsList a its.toArray:=p.isList
  have hai:a ≠ it:=fun z=>by
   subst z;obtain⟨o,ho,hc',n,hd'⟩:=id hL;obtain⟨o',ho',c',d'⟩:=id hit;rw[ho'] at ho;cases ho;rw[d'] at hd';cases hd'
  have hn:its.toArray.size=i:=by rw[Zi,<-rv.length,hx]
  subst hn;refine V1 (Draws.list (A:=X.A.in1) (I.ok.hd hc) it a hai its.toArray) he ⟨hit,hL⟩ fun h' eb=>⟨rfl,?_⟩;exact I.turnedAll (t':=s.toks) hf fun b ob hb q=>eb b ob (fun z=>hb (by simp[z])) q
 self:=fun _ _ _ _ _ st h=>let ⟨⟨old,he⟩,_⟩:=st;VZ he h
theorem oj{P:Program}{w:World}{K:Wu}{elts:List Expr}{x1:Nat}{tp:Pos}(a e it:Addr)(hei:e ≠ it) :
  Turn P w K (.Tuple elts x1 tp) (Ite K a SqT) [e,it] e (fun i h=>(∃old,IsEnum h e it i old)/\h.IsTupleIter it a i) where
 mem:=by simp
 obj:=fun i h st b hb=>by
  obtain⟨⟨old,he⟩,o,eo,c,d⟩:=st;rcases Zq.mp hb with z |z
  ·subst z;exact⟨_,he,fun v z=>by have z':Data.fields _=Data.cell v:=z;cases z'⟩
  ·have z':=ZF.mp z;subst z';exact⟨o,eo,fun v z=>by rw[d] at z;cases z⟩
 keep:=fun i h h' st k=>⟨let ⟨old,he⟩:=st.1;⟨old,k e (by simp) _ he⟩,st.2.at fun o eo=>k it (by simp) o eo⟩
 item:=by
  intro X hP hw hK hc i pins s σ H E I hf st hg;subst hP hw hK;obtain⟨xs,x,hq,hx⟩:=hg;obtain⟨its,rv,p,hz⟩:=I.tuple hq;obtain⟨u,hu,ru⟩:=rv.get hx;obtain⟨⟨old,he⟩,hit⟩:=st;have hL:s.heap.IsTuple a its.toArray:=p
  have hae:e ≠ a:=fun z=>by
   subst z;obtain⟨o,ho,hc',n,hd'⟩:=id hL;rw[he] at ho;cases ho;have z':Data.fields _=Data.seq its.toArray n:=hd';cases z'
  have hai:a ≠ it:=fun z=>by
   subst z;obtain⟨o,ho,hc',n,hd'⟩:=id hL;obtain⟨o',ho',c',d'⟩:=id hit;rw[ho'] at ho;cases ho;rw[d'] at hd';cases hd'
  have hi:i < its.toArray.size:=by
   have:=(Za.mp hu).1
   simpa using this
  refine V2 (HT.ue (A:=X.A.in1) (I.ok.hd hc) it a hai its.toArray) he ⟨hit,hL⟩ hi hei (by simp[hei,hae]) fun y h' tk hP ho hs' hT hsz hk=>?_
  have ey:y=u:=by
   have z:its.toArray[i]?=some u:=by simpa using hu
   rw[z] at hP;exact(Option.some.inj hP).symm
  subst ey;refine⟨_,rfl,?_⟩;refine VQ ho fun h2 he2 hs2=>?_;have helt:e < s.heap.objs.size:=Zn he;have hilt:it < s.heap.objs.size:=by obtain⟨o,eo,_⟩:=hit;exact Zn eo
  have hT2:h2.get? s.heap.objs.size=some { cls:=.type "tuple", data:=.seq #[.int i tk,y] }:=(hs2.2 _ (Y6 helt)).trans hT;have fresh:=I.hok.fresh (Ze s.heap.objs.size);refine⟨.ref s.heap.objs.size,upd H s.heap.objs.size (.tup [.int i,x]),?_,rfl,⟨_,fresh,rfl,fun ys v hy hv=>?_⟩,⟨⟨y,by simpa using he2⟩,hs'.1.at fun o eo=>(hs2.2 it (Ne.symm hei)).trans eo⟩,fun b hb=>?_⟩
  ·exact I.turnedLaid (t':=tk+1) hf (fun b ob hb eb=>(hs2.2 b fun z=>hb (by simp[z])).trans (hk b ob (fun z=>hb (by simp[z])) (fun z=>hb (by simp[z])) eb)) (Ze _)
    ⟨by show 2<=sizeLine;decide,[.int i tk,y],.cons ⟨tk,rfl⟩ (.cons ru .nil),⟨_,hT2,rfl,_,rfl,rfl⟩⟩
  ·rw[I.tuple_inj hy hq,hx] at hv;cases hv;rfl
  ·rcases Zq.mp hb with z |z
   ·rw[z,ak (ZA helt)];exact(hf e (by simp)).1
   ·rw[ZF.mp z,ak (ZA hilt)];exact(hf it (by simp)).1
 done:=by
  intro X hP hw hK hc i pins s σ H E I hf st hg;subst hP hw hK;obtain⟨xs,hq,hx⟩:=hg;obtain⟨its,rv,p,hz⟩:=I.tuple hq;obtain⟨⟨old,he⟩,hit⟩:=st;have hL:s.heap.IsTuple a its.toArray:=p
  have hai:a ≠ it:=fun z=>by
   subst z;obtain⟨o,ho,hc',n,hd'⟩:=id hL;obtain⟨o',ho',c',d'⟩:=id hit;rw[ho'] at ho;cases ho;rw[d'] at hd';cases hd'
  have hn:its.toArray.size=i:=by rw[Zi,<-rv.length,hx]
  subst hn;refine V1 (HT.ue (A:=X.A.in1) (I.ok.hd hc) it a hai its.toArray) he ⟨hit,hL⟩ fun h' eb=>⟨rfl,?_⟩;exact I.turnedAll (t':=s.toks) hf fun b ob hb q=>eb b ob (fun z=>hb (by simp[z])) q
 self:=fun _ _ _ _ _ st h=>let ⟨⟨old,he⟩,_⟩:=st;VZ he h
def C4(K:Wu)(ta:TA):TI:=fun σ H R=>ta σ H fun vs H1=>∃a xs,vs=[.ref a]/\SqL K H1 a xs/\R (Ite K a SqL) H1
def Hm(K:Wu)(ta:TA):TI:=fun σ H R=>ta σ H fun vs H1=>∃a xs,vs=[.ref a]/\SqT K H1 a xs/\R (Ite K a SqT) H1
section
variable {X:Cx} {elts:List Expr} {x1:Nat} {tp:Pos}
theorem uf{a:Expr}{ta:TA}{p pos:Pos}(hg:Gl X "enumerate")(hm:X.mg "enumerate" = none)(ha:PA X [a] ta)(hs:Vr [a] X.env=[(false,eval a X.env)]:=by rfl):PI X (.Tuple elts x1 tp) (.Call (.Name "enumerate" p) [a] [] pos) (C4 X.K ta):=by
 intro pins s σ H R I h;refine Call_ (fD I hg hm Xz (XG (thn (ha pos pins s σ H _ I h) fun us s1 ⟨vs,H1,I1,r1,q1⟩=>?_) hs rfl));obtain⟨l,xs,e,hl,q⟩:=q1;subst e;obtain⟨u,rfl,ru⟩:=fv r1;cases ru;obtain⟨its,rv,pl,hz⟩:=I1.list hl;refine call_enumerate_list pl.isList fun h' he hit hsz hk=>VZ he ?_;have I2:Inv X pins σ H1 { s1 with heap:=h' }:=I1.kept (t':=s1.toks) hk;have fr:∀b,s1.heap.objs.size<=b->fk X pins H1 b:=fun b hb=>I1.fpOk hb (I1.hok.fresh hb);refine⟨_,[s1.heap.objs.size+1,s1.heap.objs.size],_,_,H1,rfl,I2,oi l _ _ (Xd _),⟨⟨_,he⟩,hit⟩,fun b hb=>?_,q⟩;rcases Zq.mp hb with z |z
 ·rw[z];exact fr _ (YX _)
 ·rw[ZF.mp z];exact fr _ (Ze _)
theorem C5{a:Expr}{ta:TA}{p pos:Pos}(hg:Gl X "enumerate")(hm:X.mg "enumerate" = none)(ha:PA X [a] ta)(hs:Vr [a] X.env=[(false,eval a X.env)]:=by rfl):PI X (.Tuple elts x1 tp) (.Call (.Name "enumerate" p) [a] [] pos) (Hm X.K ta):=by
 intro pins s σ H R I h;refine Call_ (fD I hg hm Xz (XG (thn (ha pos pins s σ H _ I h) fun us s1 ⟨vs,H1,I1,r1,q1⟩=>?_) hs rfl));obtain⟨l,xs,e,hl,q⟩:=q1;subst e;obtain⟨u,rfl,ru⟩:=fv r1;cases ru;obtain⟨its,rv,pl,hz⟩:=I1.tuple hl;refine HT.oh pl fun h' he hit hsz hk=>VZ he ?_;have I2:Inv X pins σ H1 { s1 with heap:=h' }:=I1.kept (t':=s1.toks) hk;have fr:∀b,s1.heap.objs.size<=b->fk X pins H1 b:=fun b hb=>I1.fpOk hb (I1.hok.fresh hb);refine⟨_,[s1.heap.objs.size+1,s1.heap.objs.size],_,_,H1,rfl,I2,oj l _ _ (Xd _),⟨⟨_,he⟩,hit⟩,fun b hb=>?_,q⟩;rcases Zq.mp hb with z |z
 ·rw[z];exact fr _ (YX _)
 ·rw[ZF.mp z];exact fr _ (Ze _)
end
section
variable {X:Cx}
theorem mD:aV X (.type "range") (fun xs H Q=>∃j:Int,xs=[.int j]/\∀p,H p=none->Q (.ref p) (upd H p (.rng 0 j))):=by
 intro pins s σ H xs us Q I r h;obtain⟨j,rfl,q⟩:=h;obtain⟨u,rfl,ru⟩:=fv r;obtain⟨t,rfl⟩:=ru;exact call_range_1 ⟨.ref s.heap.objs.size,_,I.laid (t':=s.toks+1+1) (o:=.rng 0 j) (fun b o e=>Zl _ e) (Ze _) ⟨_,_,_,ZB _ rfl⟩,rfl,q _ (I.hok.fresh (Ze _))⟩
theorem kR(hc:X.calm=true):aV X (.type "list") (fun xs H Q=>∃ (p:Addr) (n:Nat),xs=[.ref p]/\H p=some (.rng 0 n)/\n<=1000/\∀l,H l=none->Q (.ref l) (upd H l (.lst ((Zm n).map fun(i:Nat)=>V.int i)))):=by
 intro pins s σ H xs us Q I r h;obtain⟨p,n,rfl,hp,hn,q⟩:=h;obtain⟨u,rfl,ru⟩:=fv r;cases ru;obtain⟨t,u,v,e⟩:=(show aU X.prog X.w H s.heap p (.rng 0 n) from I.hok p _ hp);exact iM hc I e hn q
end
section
variable {X:Cx}
def BH(i j k:Nat)(ta:TA):TS:=fun D σ H=>ta σ H fun vs H1=>∃v w z,vs=[v,w,z]/\D.nx (((σ.set i (some v)).set j (some w)).set k (some z)) H1
theorem yw{i j k:Nat}{x y z:Str}{a b c:Expr}{ta:TA}{px py pz pt pos:Pos}{kt k2 pt2}(hc:X.calm=true)(hN:X.N.Nodup)(hi:X.N[i]?=some x)(hj:X.N[j]?=some y)(hk:X.N[k]?=some z)(hij:i ≠ j)(hik:i ≠ k)(hjk:j ≠ k)
  (hx:X.env.scope.names.lookup x=some .local) (hy:X.env.scope.names.lookup y=some .local) (hz:X.env.scope.names.lookup z=some .local) (ha:PA X [a,b,c] ta)
  (hw:Vt [.Tuple [.Name x px,.Name y py,.Name z pz] kt pt] (.Tuple [a,b,c] k2 pt2) X.env=pure (some [x,y,z]))
  (hs:Vv [.Tuple [.Name x px,.Name y py,.Name z pz] kt pt] (.Tuple [a,b,c] k2 pt2) pos.line X.env=pure false:=by rfl) :
  PS X (.Assign [.Tuple [.Name x px,.Name y py,.Name z pz] kt pt] (.Tuple [a,b,c] k2 pt2) pos) (BH i j k ta):=by
 intro pins s σ H D I h;rw[exec_Assign_arm];refine VF (V4 ?_);rw[hs];refine VF (VY ?_);rw[if_neg (by decide)];refine VF (Tuple_ (thn (ha _ pins s σ H _ I h) fun us s1 ⟨vs,H1,I1,r1,q1⟩=>?_));obtain⟨v,w,z',e1,q1⟩:=q1;subst e1
 obtain⟨u1,u2,u3,rfl,rv,rw',rz⟩:∃u1 u2 u3,us=[u1,u2,u3]/\av v u1/\av w u2/\av z' u3:=by
  cases r1 with
  |cons p q=>
   cases q with
   |cons p' q'=>
    cases q' with
    |cons p'' q''=>
     cases q'';exact⟨_,_,_,rfl,p,p',p''⟩
 refine VW ?_ (by show 3<=sizeLine;decide);have I2:Inv X pins σ H1 { s1 with heap:=s1.heap.push { cls:=.type "tuple", data:=.seq [u1,u2,u3].toArray } }:=I1.kept (t':=s1.toks) fun b o e=>Zl _ e;rw[hw];refine VF (VY ?_);show wpAny (model X.prog X.w) X.A (do rule "assign.swapped-stores"; let items <-unpackItems (.ref s1.heap.objs.size) 3 none;WT [fun v=>WW X.env z v,fun v=>WW X.env y v,fun v=>WW X.env x v] items.reverse;pure Flow.next) _ _ _;refine VF (V3 (VF (unpackItems_tuple (items:=#[u1,u2,u3]) (I.ok.hd hc) (IsTup.new s1.heap _) fun h' hx'=>?_)));have I3:=I2.kept (h':=h') (t':=s1.toks) fun b o e=>hx' b o (ZA (Zn e)) e;show wpAny _ _ (WT [fun v=>WW X.env z v,fun v=>WW X.env y v,fun v=>WW X.env x v] [u3,u2,u1] >>= fun _=>pure Flow.next) _ _ _;refine VF (assignInOrder_cons (VG (b7 I3 hN hk (.inl hz) rz (fun s2 I4=>?_) (.inr hz))));refine assignInOrder_cons (VG (b7 I4 hN hj (.inl hy) rw' (fun s3 I5=>?_) (.inr hy)));refine assignInOrder_cons (VG (b7 I5 hN hi (.inl hx) rv (fun s4 I6=>assignInOrder_nil (VY ?_)) (.inr hx)));refine⟨_,H1,?_,q1⟩;rw[YH _ _ (Ne.symm hjk),YH _ _ (Ne.symm hik),YH (some w) (some v) (Ne.symm hij)] at I6;exact I6
end
noncomputable def fF:List Str->Bool
 |[]=>true
 |x::r=>!r.contains x && fF r
theorem dW:∀ {l:List Str},fF l=true->l.Nodup
 |[],_=>Xo
 |x::r,h=>by
  unfold fF at h;rw[bAE] at h;refine Z4.mpr ⟨fun m=>?_,dW h.2⟩;have:=h.1;simp[m] at this
noncomputable def cmB(own:List Str)(hs:List Nat)(N:List Str)(scope sc:Scope):Bool:=
 (scope.kind == .function) && fF (cp hs N++own) && fF (scope.names.map (·.1)) && ((cp hs N).all fun x=>scope.names.lookup x != some .local && scope.names.lookup x != some .cell) &&
 (scope.names.all fun y=>y.2 != .free || (sc.names.lookup y.1 == some .cell || sc.names.lookup y.1 == some .free)) && hs.all fun i=>(scope.names.lookup (t0 i)).isNone
theorem ug{own:List Str}(hs:List Nat){N:List Str}{scope sc:Scope}(h:cmB own hs N scope sc=true):CmScope own hs N scope sc:=by
 unfold cmB at h;simp only[bAE,Zk] at h;obtain⟨⟨⟨⟨⟨h1,h2⟩,h3⟩,h4⟩,h5⟩,h6⟩:=h;refine⟨by simpa using h1,dW h2,dW h3,fun x hx=>?_,fun y hy hk=>?_,fun i hi=>by simpa using h6 i hi⟩
 ·have:=h4 x hx
  simpa using this
 ·have:=h5 y hy;rw[hk] at this
  simpa using this
section
variable {X:Cx} {tg l a:Expr} {tl:TE} {ta:TA} {es:List Expr} {t:TGs} {p pos:Pos} {n k:Nat} {elts:List Expr} {x1:Nat} {tp:Pos} {o e:Expr} {to:TE} {tt:TA} {name:Str} {apos cpos:Pos}
def BI(K:Wu):List V->Hp->VK->Prop:=fun xs H Q=>∃x n t b,xs=[x,.ty n]/\TyOf K H x t/\WH K t (.type n)=some b/\Q (.bl b) H
theorem kS(K:Wu)(hK:X.K=K:=by rfl):aV X (.builtin "isinstance") (BI K):=hK ▸ mv
end
theorem uh{X:Cx}{k v:Expr}{tk tv:TE}{pos:Pos}(hk:PE X k tk)(hv:PE X v tv):PE X (.Dict [some k] [v] pos) (ud [(tk,tv)]):=yv (uc hk hv yu) rfl rfl (by simp) (by simp)
theorem fG{x:V}:∀ {xs:List V} {us:List Value},aG xs us->xs.all bC=true->us.countP (eqU x)=xs.countP fun y=>eqV y x
 |_,_,.nil,_=>rfl
 |y::xs,u::us,.cons r t,f=>by
  rw[Z5,bAE] at f;rw[Yt,Yt,kL r f.1,fG t f.2]
section
variable {X:Cx}
def yx(K:Wu):V->List V->Hp->VK->Prop:=fun x vs H Q=>∃p xs y,x = .ref p/\vs=[y]/\SqT K H p xs/\bC y=true/\xs.all bC=true/\Q (.int ((xs.countP fun z=>eqV z y:Nat):Int)) H
theorem rR(K:Wu)(hK:X.K=K:=by rfl):MtR X "tuple.count" (yx K):=by
 subst hK;intro pins s σ H x vs v us Q I rx rv h;obtain⟨p,xs,y,rfl,rfl,hq,fy,fs,q⟩:=h;cases rx;obtain⟨u,rfl,ru⟩:=rv.one;obtain⟨its,r,⟨⟨cls,dd,data,sl⟩,e,hc,n,hd⟩,hz⟩:=I.tuple hq;simp only at hc hd;subst hc hd;refine WZ X4 ⟨_,e,rfl⟩ F.entry_tuple_count (F.args_tuple_count_2 _ _) (SeqAt.tuple_countAt p its.toArray n dd sl u (eqU y)) ⟨e,fun w hw=>b8 ru fy r fs w (by simpa using hw),?_⟩;refine⟨.int _,H,I.tok _,⟨_,rfl⟩,?_⟩
 have z:(its.toArray.toList.countP (eqU y))=xs.countP fun z=>eqV z y:=by
  rw[Y0];exact fG r fs
 rw[z];exact q
end
end L2
namespace Dw
open PySem PySem.Spec PyProof.Rows L2
inductive D where
 |non |bl (b:Bool) |int (i:Int) |str (x:Str) |tup (ds:List D) |lst (ds:List D) |dic (ks:List Key) (ds:List D)
mutual
def Br(N:List Addr)(H:Hp):D->V->Prop
 |.non,v=>v = .non
 |.bl b,v=>v = .bl b
 |.int i,v=>v = .int i
 |.str x,v=>v = .str x
 |.tup ds,v=>∃a xs,v = .ref a/\H a=some (.tup xs)/\BrL N H ds xs
 |.lst ds,v=>∃a xs,v = .ref a/\a ∉ N/\H a=some (.lst xs)/\BrL N H ds xs
 |.dic ks ds,v=>∃a xs,v = .ref a/\a ∉ N/\H a=some (.dK (ks.zip xs))/\ks.length=ds.length/\BrL N H ds xs
def BrL(N:List Addr)(H:Hp):List D->List V->Prop
 |[],xs=>xs=[]
 |d::ds,xs=>∃x r,xs=x::r/\Br N H d x/\BrL N H ds r
end
mutual
noncomputable def dep:D->Nat
 |.tup ds=>fV ds+1
 |.lst ds=>fV ds+1
 |.dic _ ds=>fV ds+1
 |_=>0
noncomputable def fV:List D->Nat
 |[]=>0
 |d::ds=>max (dep d) (fV ds)
end
mutual
noncomputable def wid:D->Nat
 |.tup ds=>max ds.length (kT ds)
 |.lst ds=>max ds.length (kT ds)
 |.dic _ ds=>max ds.length (kT ds)
 |_=>0
noncomputable def kT:List D->Nat
 |[]=>0
 |d::ds=>max (wid d) (kT ds)
end
theorem BrL.len{N:List Addr}{H:Hp}:∀ {ds:List D} {xs:List V},BrL N H ds xs->xs.length=ds.length
 |[],_,h=>by simp only[BrL] at h;rw[h];rfl
 |d::ds,_,h=>by
  simp only[BrL] at h;obtain⟨x,r,rfl,_,h2⟩:=h;rw[ZD,ZD,BrL.len h2]
noncomputable def isB:D->Bool |.bl _=>true |_=>false
noncomputable def isW(d:D):Bool:=match d with |.int _=>true |_=>false
noncomputable def aj(d:D)(a b:Int):Bool:=match d with |.int i=>decide (a<=i) && decide (i<=b) |_=>false
noncomputable def isT(d:D)(a b:Int):Bool:=match d with |.tup ds=>decide (a<=(ds.length:Int)) && decide ((ds.length:Int)<=b) |_=>false
noncomputable def bo(n:Nat)(d:D):Bool:=match d with |.tup ds=>decide (ds.length=n) && ds.all (fun e=>aj e 1 99) |_=>false
noncomputable def iR(rows:List D)(a b:Nat):Int:=match rows[a]? with
 |some (.tup r)=>(match r[b]? with |some (.int i)=>i |_=>0)
 |_=>0
noncomputable def dN(rows:List D)(a b c:Nat):Bool:=decide (iR rows a b<=iR rows a c+iR rows c b)
noncomputable def jJ(rows:List D)(n:Nat):List Bool:=(Zm n).flatMap fun a=>(Zm n).flatMap fun b=>(Zm n).map fun c=>dN rows a b c
noncomputable def aC(d:D):Bool:=match d with
 |.tup rows=>(decide (1<=rows.length) && decide (rows.length<=4)) && (rows.all (bo rows.length) && (jJ rows rows.length).all id)
 |_=>false
noncomputable def ltD(x y:D):Bool:=match x,y with |.int i,.int j=>decide (i < j) |_,_=>false
noncomputable def al(d:D):Bool:=match d with |.tup [b,e]=>aj b 0 9999 && (aj e 0 9999 && ltD b e) |_=>false
noncomputable def cZ(ds:List D)(i:Nat):Int:=match ds[i]? with |some (.tup [.int b,_])=>b |_=>0
noncomputable def cL(ds:List D)(i:Nat):Int:=match ds[i]? with |some (.tup [_,.int e])=>e |_=>0
noncomputable def gD(ds:List D):List Bool:=(Zm (ds.length - 1)).map fun i=>decide (cL ds i < cZ ds (i+1))
noncomputable def aw(d:D):Bool:=match d with |.tup ds=>decide (ds.length<=4) && (ds.all al && (gD ds).all id) |_=>false
noncomputable def aI(d:D):Bool:=match d with
 |.tup [r,s,g,h]=>aj r 0 8 && (aj s 0 60 && (aC g && aw h))
 |_=>false
theorem om(ds:List D)(n:Nat):isT (.tup ds) n n=decide (ds.length=n):=by
 unfold isT;rw[ZZ];simp;omega
theorem aN{d:D}{a b:Int}(h:aj d a b=true):∃i,d = .int i/\a<=i/\i<=b:=by
 cases d with
 |int i=>simp[aj] at h;exact⟨i,rfl,h.1,h.2⟩
 |_=>simp[aj] at h
theorem dg{rows:List D}{n a b:Nat}(h:rows.all (bo n)=true)(ha:a < rows.length)(hb:b < n):∃r i,rows[a]?=some (.tup r)/\r[b]?=some (.int i)/\iR rows a b=i/\1<=i/\i<=99:=by
 have h1:=Zk.mp h rows[a] (ZM ha);have e1:rows[a]?=some rows[a]:=gEG ha;generalize hd:rows[a]=d at h1 e1;cases d with
 |tup r=>
  simp only[bo,bAE,decide_eq_true_eq] at h1;have hb':b < r.length:=by omega
  obtain⟨i,e2,l,u⟩:=aN (Zk.mp h1.2 r[b] (ZM hb'));have e3:r[b]?=some (.int i):=by rw[gEG hb',e2]
  exact⟨r,i,e1,e3,by unfold iR;rw[e1];dsimp only;rw[e3],l,u⟩
 |_=>simp[bo] at h1
theorem eR{α:Type}(n:Nat)(f:Nat->List α):(Zm (n+1)).flatMap f=(Zm n).flatMap f++f n:=by
 rw[Yw,Y1];simp
theorem kU{α:Type}{n m:Nat}{f:Nat->List α}(h:∀i,i < n->(f i).length<=m):((Zm n).flatMap f).length<=n * m:=by
 induction n with
 |zero=>simp
 |succ n ih=>
  rw[eR,Zh];have:=ih fun i hi=>h i (by omega);have:=h n (by omega);rw[Y8];omega
theorem C6(ds:List D):isT (.tup ds) 1 4=(decide (1<=ds.length) && decide (ds.length<=4)):=by
 unfold isT;rw[ZZ];simp;omega
theorem C7(ds:List D):isT (.tup ds) 0 4=decide (ds.length<=4):=by
 unfold isT;rw[ZZ];simp;omega
theorem C8(ds:List D):isT (.tup ds) 2 2=decide (ds.length=2):=om ds 2
theorem C9(ds:List D):isT (.tup ds) 4 4=decide (ds.length=4):=om ds 4
theorem ui{ds:List D}(h:ds.length=2):∃b e,ds=[b,e]:=by
 match ds,h with
 |[b,e],_=>exact⟨b,e,rfl⟩
theorem qa{ds:List D}(h:ds.length=4):∃a b c d,ds=[a,b,c,d]:=by
 match ds,h with
 |[a,b,c,d],_=>exact⟨a,b,c,d,rfl⟩
theorem fH{d:D}(h:al d=true):∃b e,d = .tup [.int b,.int e]/\0<=b/\b<=9999/\0<=e/\e<=9999/\b < e:=by
 unfold al at h;split at h
 ·rename_i b e;simp only[bAE] at h;obtain⟨h1,h2,h3⟩:=h;obtain⟨i,rfl,l1,u1⟩:=aN h1;obtain⟨j,rfl,l2,u2⟩:=aN h2;simp[ltD] at h3;exact⟨i,j,rfl,l1,u1,l2,u2,h3⟩
 ·cases h
theorem qb{ds:List D}{i:Nat}(h:ds.all al=true)(hi:i < ds.length):∃b e,ds[i]?=some (.tup [.int b,.int e])/\cZ ds i=b/\cL ds i=e:=by
 obtain⟨b,e,q,_⟩:=fH (Zk.mp h ds[i] (ZM hi));have e1:ds[i]?=some (.tup [.int b,.int e]):=by rw[gEG hi,q]
 exact⟨b,e,e1,by unfold cZ;rw[e1],by unfold cL;rw[e1]⟩
noncomputable def aY(ds:List D)(lo hi:Option Int):List D:=(ds.drop (HT.sIx ds.length 0 lo)).take (HT.sIx ds.length ds.length hi - HT.sIx ds.length 0 lo)
theorem qc(ds:List D)(lo hi:Option Int):(aY ds lo hi).length<=ds.length:=by
 unfold aY;rw[Zw,ZV];omega
theorem mE{d:D}:∀ {ds:List D},d ∈ ds->dep d<=fV ds
 |e::ds,h=>by
  rw[fV];rcases Zq.mp h with z |z
  ·rw[z];omega
  ·have:=mE z;omega
theorem mF{d:D}:∀ {ds:List D},d ∈ ds->wid d<=kT ds
 |e::ds,h=>by
  rw[kT];rcases Zq.mp h with z |z
  ·rw[z];omega
  ·have:=mF z;omega
theorem qd{n:Nat}:∀ {ds:List D},(∀d ∈ ds,dep d<=n)->fV ds<=n
 |[],_=>by rw[fV];omega
 |e::ds,h=>by
  rw[fV];have:=h e Zf;have:=qd (ds:=ds) fun d hd=>h d (Zd _ hd);omega
theorem qe{n:Nat}:∀ {ds:List D},(∀d ∈ ds,wid d<=n)->kT ds<=n
 |[],_=>by rw[kT];omega
 |e::ds,h=>by
  rw[kT];have:=h e Zf;have:=qe (ds:=ds) fun d hd=>h d (Zd _ hd);omega
structure Fit(n m:Nat)(d:D):Prop where
 de:dep d<=n
 wi:wid d<=m
theorem Fit.up{n m n' m':Nat}{d:D}(h:Fit n m d)(hn:n<=n')(hm:m<=m'):Fit n' m' d:=⟨Zr h.de hn,Zr h.wi hm⟩
theorem Fit.tup{n m:Nat}{ds:List D}(hl:ds.length<=m)(h:∀d ∈ ds,Fit n m d):Fit (n+1) m (.tup ds):=by
 refine⟨?_,?_⟩
 ·rw[dep];have:=qd (n:=n) fun d hd=>(h d hd).de;omega
 ·rw[wid];have:=qe (n:=m) fun d hd=>(h d hd).wi;omega
theorem Fit.len{n m:Nat}{ds:List D}(h:Fit n m (.tup ds)):ds.length<=m:=by have:=h.wi;rw[wid] at this;omega
theorem Fit.mem{n m:Nat}{ds:List D}{d:D}(h:Fit (n+1) m (.tup ds))(hd:d ∈ ds):Fit n m d:=by
 have h1:=h.de;have h2:=h.wi;rw[dep] at h1;rw[wid] at h2;have:=mE hd;have:=mF hd;exact⟨by omega,by omega⟩
theorem Fit.pos{n m:Nat}{ds:List D}(h:Fit n m (.tup ds)):1<=n:=by have h1:=h.de;rw[dep] at h1;omega
theorem bZ{ds:List D}{lo hi:Option Int}{d:D}(h:d ∈ aY ds lo hi):d ∈ ds:=List.mem_of_mem_drop (List.mem_of_mem_take h)
theorem oo(n:Nat)(a:Int)(h0:0<=a):HT.sIx n 0 (some a)=min a.toNat n:=by
 show(if a < 0 then (a+(n:Int)).toNat else min a.toNat n)=_;rw[if_neg (by omega)]
theorem oq(n:Nat)(a:Int)(h0:0<=a):HT.sIx n n (some a)=min a.toNat n:=by
 show(if a < 0 then (a+(n:Int)).toNat else min a.toNat n)=_;rw[if_neg (by omega)]
theorem Da(ds:List D)(a:Int)(h:0<=a):(aY ds none (some a)).length<=a.toNat:=by
 unfold aY;rw[oq _ _ h,Zw,ZV];omega
theorem uj(ds:List D)(a:Int)(h:0<=a)(h1:a<=ds.length):(aY ds (some a) none).length+a.toNat<=ds.length:=by
 unfold aY;rw[oo _ _ h,Zw,ZV];omega
theorem yy(ds:List D)(a:Int)(h:0<=a):(aY ds (some a) (some (a+1))).length<=1:=by
 unfold aY;rw[oo _ _ h,oq _ _ (by omega),Zw];omega
theorem yz(ds:List D):(aY ds (some (-1)) none).length<=1:=by
 unfold aY
 have e:HT.sIx ds.length 0 (some (-1))=((-1:Int)+(ds.length:Int)).toNat:=by
  show(if (-1:Int) < 0 then ((-1:Int)+(ds.length:Int)).toNat else min (-1:Int).toNat ds.length)=_;rw[if_pos (by decide)]
 rw[e,Zw,ZV];have e2:HT.sIx ds.length ds.length none=ds.length:=rfl;rw[e2];omega
theorem dh{k m:Nat}{ds:List D}{lo hi:Option Int}(h:Fit (k+1) m (.tup ds)):Fit (k+1) m (.tup (aY ds lo hi)):=Fit.tup (Zr (qc ds lo hi) h.len) fun d hd=>h.mem (bZ hd)
theorem fW{k m:Nat}{ds es:List D}(h1:Fit (k+1) m (.tup ds))(h2:Fit (k+1) m (.tup es))(hl:(ds++es).length<=m):Fit (k+1) m (.tup (ds++es)):=Fit.tup hl fun d hd=>(Zu.mp hd).elim (fun z=>h1.mem z) fun z=>h2.mem z
theorem yA{k m:Nat}{d:D}(h:Fit k m d)(hm:1<=m):Fit (k+1) m (.tup [d]):=Fit.tup hm fun e he=>by rw[ZF.mp he];exact h
noncomputable def J1:D->Bool |.non=>true |.bl _=>true |.int _=>true |.str _=>true |_=>false
theorem uk{k m:Nat}{d:D}(h:J1 d=true):Fit k m d:=by
 cases d with
 |tup ds=>cases h
 |lst ds=>cases h
 |dic ks ds=>cases h
 |_=>exact⟨by simp[dep],by simp[wid]⟩
theorem Fit.lst{n m:Nat}{ds:List D}(h:Fit n m (.tup ds)):Fit n m (.lst ds):=⟨by have:=h.de;simp only[dep] at this ⊢;exact this,by have:=h.wi;simp only[wid] at this ⊢;exact this⟩
noncomputable def cq(q:Int × Int):D:=.tup [.int q.1,.int q.2]
structure Good(es:List (Int × Int))(b:Int):Prop where
 each:∀q ∈ es,0<=q.1/\q.1 < q.2/\q.2<=b
 rise:∀ (i:Nat) q q',es[i]?=some q->es[i+1]?=some q'->q.2 < q'.1
theorem Good.nil{b:Int}:Good [] b:=⟨(fun _ h=>nomatch h),fun i q q' h _=>by simp at h⟩
theorem Good.more{es:List (Int × Int)}{b x y:Int}(h:Good es b)(h0:0<=b)(h1:b < x)(h2:x < y):Good (es++[(x,y)]) y:=by
 refine⟨fun q hq=>?_,fun i q q' e1 e2=>?_⟩
 ·rcases Zu.mp hq with z |z
  ·have:=h.each q z;omega
  ·rw[ZF.mp z];show 0<=x/\x < y/\y<=y;omega
 ·by_cases hi:i+1 < es.length
  ·rw[Zo (by omega)] at e1;rw[Zo hi] at e2;exact h.rise i q q' e1 e2
  ·have hl:=(Za.mp e2).1;rw[Zh,ZE] at hl;have hi2:i+1=es.length:=by omega
   rw[Zg (by omega),hi2,ZU] at e2;cases e2;rw[Zo (by omega)] at e1;have:=h.each q (Zp e1);show q.2 < x;omega
theorem Good.shuts{es:List (Int × Int)}{b:Int}(h:Good es b)(hb:b<=9999)(hl:es.length<=4):aw (.tup (es.map cq))=true:=by
 have hs:(es.map cq).all al=true:=by
  rw[Yh,Zk];intro q hq;have:=h.each q hq;show al (cq q)=true;simp only[cq,al,aj,ltD,bAE,decide_eq_true_eq];omega
 unfold aw;rw[bAE,bAE];refine⟨decide_eq_true (by rw[Zc];exact hl),hs,?_⟩;rw[Zk];intro x hx;unfold gD at hx;obtain⟨i,hi,rfl⟩:=ZW.mp hx;rw[ZO,Zc] at hi;have e1:es[i]?=some es[i]:=gEG (by omega);have e2:es[i+1]?=some es[i+1]:=gEG (by omega);have r:=h.rise i _ _ e1 e2;have f1:cL (es.map cq) i=es[i].2:=by unfold cL;rw[Zt,e1];rfl
 have f2:cZ (es.map cq) (i+1)=es[i+1].1:=by unfold cZ;rw[Zt,e2];rfl
 show decide (cL (es.map cq) i < cZ (es.map cq) (i+1))=true;rw[f1,f2];exact decide_eq_true r
noncomputable def mg2(M:List (List Int))(i j:Nat):Int:=(((M[i]?).getD [])[j]?).getD 0
structure Mat(n:Nat)(M:List (List Int)):Prop where
 len:M.length=n
 row:∀r ∈ M,r.length=n
 ent:∀r ∈ M,∀x ∈ r,1<=x/\x<=99
theorem Mat.at{n:Nat}{M:List (List Int)}(h:Mat n M){i j:Nat}(hi:i < n)(hj:j < n):∃r,M[i]?=some r/\r.length=n/\r[j]?=some (mg2 M i j)/\1<=mg2 M i j/\mg2 M i j<=99:=by
 have hi':i < M.length:=by rw[h.len];exact hi
 have e1:M[i]?=some M[i]:=gEG hi';have hr:=h.row _ (ZM hi');have hj':j < M[i].length:=by omega
 have e2:mg2 M i j=M[i][j]:=by unfold mg2;rw[e1,Z0,gEG hj',Z0]
 have:=h.ent _ (ZM hi') _ (ZM hj');exact⟨M[i],e1,hr,by rw[e2,gEG hj'],by omega,by omega⟩
def qf(n k:Nat)(M:List (List Int)):Prop:=∀a b q,a < n->b < n->q < k->mg2 M a b<=mg2 M a q+mg2 M q b
theorem ul{n k:Nat}{M M':List (List Int)}(h:Mat n M)(hk:k < n)(ht:qf n k M)(hm:∀i j,i < n->j < n->mg2 M' i j=min (mg2 M i j) (mg2 M i k+mg2 M k j)):qf n (k+1) M':=by
 intro a b q ha hb hq;have hqn:q < n:=by omega
 obtain⟨_,_,_,_,p1,_⟩:=h.at ha hb;obtain⟨_,_,_,_,p2,_⟩:=h.at ha hk;obtain⟨_,_,_,_,p3,_⟩:=h.at hk hb;obtain⟨_,_,_,_,p4,_⟩:=h.at hk hk;obtain⟨_,_,_,_,p5,_⟩:=h.at ha hqn;obtain⟨_,_,_,_,p6,_⟩:=h.at hqn hb;obtain⟨_,_,_,_,p7,_⟩:=h.at hk hqn;obtain⟨_,_,_,_,p8,_⟩:=h.at hqn hk;rw[hm a b ha hb,hm a q ha hqn,hm q b hqn hb];by_cases e:q=k
 ·subst e;omega
 ·have hq':q < k:=by omega
  have t1:=ht a b q ha hb hq';have t2:=ht k b q hk hb hq';have t3:=ht a k q ha hk hq';omega
noncomputable def mG(M:List (List Int)):List D:=M.map fun r=>.tup (r.map .int)
theorem kW{n:Nat}{M:List (List Int)}(h:Mat n M){i j:Nat}(hi:i < n)(hj:j < n):iR (mG M) i j=mg2 M i j:=by
 obtain⟨r,e1,_,e2,_,_⟩:=h.at hi hj;unfold iR mG;rw[Zt,e1];show(match (r.map D.int)[j]? with |some (.int i)=>i |_=>0)=_;rw[Zt,e2];rfl
theorem um{n:Nat}{M:List (List Int)}(h:Mat n M)(h1:1<=n)(h4:n<=4)(ht:qf n n M):aC (.tup (mG M))=true:=by
 have hl:(mG M).length=n:=by unfold mG;rw[Zc,h.len]
 unfold aC;dsimp only;rw[hl];simp only[bAE,decide_eq_true_eq];refine⟨⟨h1,h4⟩,?_,?_⟩
 ·rw[Zk];intro d hd;obtain⟨r,hr,rfl⟩:=ZW.mp hd;unfold bo;dsimp only;rw[bAE];refine⟨decide_eq_true (by rw[Zc];exact h.row r hr),?_⟩;rw[Yh,Zk];intro x hx;have:=h.ent r hr x hx;show aj (.int x) 1 99=true;simp only[aj,bAE,decide_eq_true_eq];omega
 ·rw[Zk];intro x hx;unfold jJ at hx;obtain⟨a,ha,hx⟩:=ZT.mp hx;obtain⟨b,hb,hx⟩:=ZT.mp hx;obtain⟨c,hc,rfl⟩:=ZW.mp hx;rw[ZO] at ha hb hc;show dN (mG M) a b c=true;unfold dN;rw[kW h ha hb,kW h ha hc,kW h hc hb];exact decide_eq_true (ht a b c ha hb hc)
noncomputable def bp(M:List (List Int))(n c i:Nat):List Int:=(Zm n).map fun j=>if mg2 M i c+mg2 M c j < mg2 M i j then mg2 M i c+mg2 M c j else mg2 M i j
theorem iS(M:List (List Int))(n c i:Nat):(bp M n c i).length=n:=by unfold bp;rw[Zc,ZG]
theorem mH(M:List (List Int)){n c i j:Nat}(hj:j < n):(bp M n c i)[j]?=some (if mg2 M i c+mg2 M c j < mg2 M i j then mg2 M i c+mg2 M c j else mg2 M i j):=by
 unfold bp;rw[Zt,Yz hj];rfl
theorem yB{n c:Nat}{M:List (List Int)}(h:Mat n M)(hc:c < n):∀i j,i < n->j < n->mg2 ((Zm n).map (bp M n c)) i j=min (mg2 M i j) (mg2 M i c+mg2 M c j):=fun i j hi hj=>by
 have e:mg2 ((Zm n).map (bp M n c)) i j=if mg2 M i c+mg2 M c j < mg2 M i j then mg2 M i c+mg2 M c j else mg2 M i j:=by
  show((((Zm n).map (bp M n c))[i]?.getD [])[j]?).getD 0=_;rw[Zt,Yz hi];show((bp M n c i)[j]?).getD 0=_;rw[mH M hj];rfl
 rw[e];split <;> omega
theorem uo{n c:Nat}{M:List (List Int)}(h:Mat n M)(hc:c < n):Mat n ((Zm n).map (bp M n c)):=by
 refine⟨by rw[Zc,ZG],fun r hr=>?_,fun r hr x hx=>?_⟩
 ·obtain⟨u,_,rfl⟩:=ZW.mp hr;exact iS M n c u
 ·obtain⟨u,hu,rfl⟩:=ZW.mp hr;rw[ZO] at hu;unfold bp at hx;obtain⟨j,hj,rfl⟩:=ZW.mp hx;rw[ZO] at hj;obtain⟨_,_,_,_,p1,q1⟩:=h.at hu hj;obtain⟨_,_,_,_,p2,q2⟩:=h.at hu hc;obtain⟨_,_,_,_,p3,q3⟩:=h.at hc hj;split <;> omega
theorem mI(r s g h:D):aI (.tup [r,s,g,h])=(aj r 0 8 && (aj s 0 60 && (aC g && aw h))):=rfl
theorem kY{rows:List D}(h:¬ (1<=rows.length/\rows.length<=4)):aC (.tup rows)=false:=by
 have:(decide (1<=rows.length) && decide (rows.length<=4))=false:=by
  rw[Z2];intro z;simp at z;exact h ⟨z.1,z.2⟩
 simp only[aC,this,ZQ]
theorem kZ{rows:List D}{d:D}{i:Nat}(h:rows[i]?=some d)(hb:bo rows.length d=false):aC (.tup rows)=false:=by
 have:rows.all (bo rows.length)=false:=by
  rw[Z2];intro z;have:=Zk.mp z d (Zp h);rw[hb] at this;cases this
 simp only[aC,this,ZQ,Z6]
theorem JO{rows:List D}{n:Nat}{x:Bool}:x ∈ jJ rows n ↔ ∃a b c,a < n/\b < n/\c < n/\x=dN rows a b c:=by
 unfold jJ;simp only[ZT,ZW,ZO];constructor
 ·rintro⟨a,ha,b,hb,c,hc,rfl⟩;exact⟨a,b,c,ha,hb,hc,rfl⟩
 ·rintro⟨a,b,c,ha,hb,hc,rfl⟩;exact⟨a,ha,b,hb,c,hc,rfl⟩
theorem k8{rows:List D}{a b c:Nat}(ha:a < rows.length)(hb:b < rows.length)(hc:c < rows.length)(h:dN rows a b c=false):aC (.tup rows)=false:=by
 have:(jJ rows rows.length).all id=false:=by
  rw[Z2];intro z;have:=Zk.mp z _ (JO.mpr ⟨a,b,c,ha,hb,hc,rfl⟩);rw[id,h] at this;cases this
 simp only[aC,this,Z6]
theorem rT{rows:List D}(h1:1<=rows.length)(h4:rows.length<=4)(hr:rows.all (bo rows.length)=true)(ht:∀a b c,a < rows.length->b < rows.length->c < rows.length->dN rows a b c=true):aC (.tup rows)=true:=by
 have:(jJ rows rows.length).all id=true:=by
  rw[Zk];intro x hx;obtain⟨a,b,c,ha,hb,hc,rfl⟩:=JO.mp hx;exact ht a b c ha hb hc
 simp only[aC,this,hr,decide_eq_true h1,decide_eq_true h4,YJ]
theorem jK{hs:List D}(h:¬ hs.length<=4):aw (.tup hs)=false:=by
 simp only[aw,decide_eq_false h,ZQ]
theorem rV{hs:List D}{d:D}{i:Nat}(h:hs[i]?=some d)(hb:al d=false):aw (.tup hs)=false:=by
 have:hs.all al=false:=by
  rw[Z2];intro z;have:=Zk.mp z d (Zp h);rw[hb] at this;cases this
 simp only[aw,this,ZQ,Z6]
theorem iT{hs:List D}{i:Nat}(h:i+1 < hs.length)(hb:¬ cL hs i < cZ hs (i+1)):aw (.tup hs)=false:=by
 have:(gD hs).all id=false:=by
  rw[Z2];intro z;have:=Zk.mp z _ (ZW.mpr ⟨i,ZO.mpr (by omega),rfl⟩);exact hb (of_decide_eq_true this)
 simp only[aw,this,Z6]
theorem ot{hs:List D}(h4:hs.length<=4)(hr:∀ (j:Nat) d,hs[j]?=some d->al d=true)(ht:∀ (j:Nat),j+1 < hs.length->cL hs j < cZ hs (j+1)):aw (.tup hs)=true:=by
 have h1:hs.all al=true:=by
  rw[Zk];intro d hd;obtain⟨i,hi,rfl⟩:=YY.mp hd;exact hr i _ (gEG hi)
 have:(gD hs).all id=true:=by
  rw[Zk];intro x hx;obtain⟨i,hi,rfl⟩:=ZW.mp hx;rw[ZO] at hi;exact decide_eq_true (ht i (by omega))
 simp only[aw,this,h1,decide_eq_true h4,YJ]
theorem iU{ds:List D}(h:¬ ds.length=2):al (.tup ds)=false:=by
 unfold al;split
 ·rename_i b e heq;cases heq;exact absurd rfl h
 ·rfl
theorem ou{r s:Int}{rows hs:List D}(hg:aC (.tup rows)=true)(hh:aw (.tup hs)=true):Fit 3 4 (.tup [.int r,.int s,.tup rows,.tup hs]):=by
 simp only[aC,aw,bAE,decide_eq_true_eq] at hg hh;refine Fit.tup (n:=2) (by show 4<=4;omega) fun d hd=>?_;simp only[Zq,Ym,or_false] at hd;rcases hd with rfl |rfl |rfl |rfl
 ·exact uk rfl
 ·exact uk rfl
 ·refine Fit.tup (n:=1) (by omega) fun d hd=>?_;have z:=Zk.mp hg.2.1 d hd;cases d with
  |tup cs=>
   simp only[bo,bAE,decide_eq_true_eq] at z;refine Fit.tup (n:=0) (by omega) fun d' hd'=>?_;obtain⟨i,rfl,_⟩:=aN (Zk.mp z.2 d' hd');exact uk rfl
  |_=>simp[bo] at z
 ·refine Fit.tup (n:=1) (by omega) fun d hd=>?_;obtain⟨b,e,rfl,_⟩:=fH (Zk.mp hh.2.1 d hd);refine Fit.tup (n:=0) (by show 2<=4;omega) fun d' hd'=>?_;simp only[Zq,Ym,or_false] at hd';rcases hd' with rfl |rfl <;> exact uk rfl
theorem rX{m:D}(h:aI m=true):∃r s rows hs,m = .tup [.int r,.int s,.tup rows,.tup hs]/\0<=r/\r<=8/\0<=s/\s<=60/\aC (.tup rows)=true/\aw (.tup hs)=true:=by
 unfold aI at h;split at h
 ·rename_i r s g hh;simp only[bAE] at h;obtain⟨h1,h2,h3,h4⟩:=h;obtain⟨r,rfl,r0,r1⟩:=aN h1;obtain⟨s,rfl,s0,s1⟩:=aN h2;cases g with
  |tup rows=>
   cases hh with
   |tup hs=>exact⟨r,s,rows,hs,rfl,r0,r1,s0,s1,h3,h4⟩
   |_=>simp[aw] at h4
  |_=>simp[aC] at h3
 ·cases h
theorem uq(ds:List D)(k:Nat)(hk:k<=ds.length):aY ds none (some (k:Int))=ds.take k:=by
 unfold aY;rw[oq _ _ (by omega)];show(ds.drop 0).take (min ((k:Int).toNat) ds.length - 0)=_;rw[List.drop_zero,Nat.sub_zero,ZN,Nat.min_eq_left hk]
noncomputable def aL:Key->PyData
 |.inl i=>.int i
 |.inr x=>.str x
mutual
noncomputable def aK:D->PyData
 |.non=>.none
 |.bl b=>.bool b
 |.int i=>.int i
 |.str x=>.str x
 |.tup ds=>.tuple (aq ds)
 |.lst ds=>.list (aq ds)
 |.dic ks ds=>.dict ((ks.map aL).zip (aq ds))
noncomputable def aq:List D->List PyData
 |[]=>[]
 |d::ds=>aK d::aq ds
end
theorem bR:∀ds:List D,(aq ds).length=ds.length
 |[]=>by simp[aq]
 |d::ds=>by simp[aq,bR ds]
theorem eS{α β:Type}:∀ (ks:List α) (ds:List β),ks.length=ds.length->(ks.zip ds).map (·.1)=ks
 |[],[],_=>rfl
 |k::ks,d::ds,h=>by simp[eS ks ds (by simpa using h)]
 |[],_::_,h=>by simp at h
 |_::_,[],h=>by simp at h
theorem eT{α β:Type}:∀ (ks:List α) (ds:List β),ks.length=ds.length->(ks.zip ds).map (·.2)=ds
 |[],[],_=>rfl
 |k::ks,d::ds,h=>by simp[eT ks ds (by simpa using h)]
 |[],_::_,h=>by simp at h
 |_::_,[],h=>by simp at h
mutual
def shw:D->Prop
 |.int i=>i.natAbs.log2 < 1920
 |.tup ds=>k9 ds
 |.lst ds=>k9 ds
 |.dic ks ds=>(∀k ∈ ks,∀i,k=Sum.inl i->i.natAbs.log2 < 1920)/\k9 ds
 |_=>True
def k9:List D->Prop
 |[]=>True
 |d::ds=>shw d/\k9 ds
end
section
variable {P:Program} {w:World} {N:List Addr} {H:Hp} {h:Heap}
theorem j4:∀ {ks:List Key} {kvs:List (Key × Value)} {es:List XQ},Pairs (bj P w) es kvs->kvs.map (·.1)=ks->ReadsAll h (es.map (·.key)) (ks.map aL) []
 |[],[],_,.nil,_=>.nil
 |k::ks,_::_,_,.cons (e:=e) hk hv r,eq=>by
  simp only[Zy,List.cons.injEq] at eq;obtain⟨e1,e2⟩:=eq;have z:=j4 (ks:=ks) r e2;have hk':gW k e.key=true:=by rw[<-e1];exact hk
  have one:Reads h e.key (aL k) []:=by
   rcases aJ hk' with ⟨i,t,rfl,q⟩ |⟨x,t,rfl,q⟩
   ·rw[q];exact .int _ _
   ·rw[q];exact .str _ _
  exact ReadsAll.cons one z
theorem b5:∀ {kvs:List (Key × Value)} {es:List XQ},Pairs (bj P w) es kvs->es.map (·.val)=kvs.map (·.2)
 |[],_,.nil=>rfl
 |_::_,_,.cons _ hv r=>by rw[Zy,Zy,hv,b5 r]
theorem ik:∀ {ks:List Key} {xs:List V} {kvs:List (Key × Value)},ks.length=xs.length->KV (ks.zip xs) kvs->aG xs (kvs.map (·.2))/\kvs.map (·.1)=ks
 |[],[],_,_,.nil=>⟨.nil,rfl⟩
 |k::ks,x::xs,_,hl,.cons r t=>by
  obtain⟨h1,h2⟩:=ik (ks:=ks) (xs:=xs) (by simpa using hl) t;exact⟨.cons r.2 h1,by rw[Zy,h2,<-r.1]⟩
 |[],_::_,_,hl,_=>by simp at hl
 |_::_,[],_,hl,_=>by simp at hl
mutual
theorem cr(ok:HOk P w H h):∀ (d:D) {v:V} {u:Value},Br N H d v->av v u->∃as,Reads h u (aK d) as
 |.non,v,u,b,r=>by simp only[Br] at b;subst b;cases r;exact⟨_,by simp only[aK];exact .none⟩
 |.bl x,v,u,b,r=>by simp only[Br] at b;subst b;cases r;exact⟨_,by simp only[aK];exact .bool _⟩
 |.int i,v,u,b,r=>by simp only[Br] at b;subst b;obtain⟨t,rfl⟩:=r;exact⟨_,by simp only[aK];exact .int _ _⟩
 |.str x,v,u,b,r=>by simp only[Br] at b;subst b;obtain⟨t,rfl⟩:=r;exact⟨_,by simp only[aK];exact .str _ _⟩
 |.tup ds,v,u,b,r=>by
  simp only[Br] at b;obtain⟨a,xs,rfl,ha,hx⟩:=b;cases r;obtain⟨_,its,rv,o,e,c,n,q,_⟩:=ok a _ ha;obtain⟨as,z⟩:=eU ok ds hx rv;simp only[aK];exact⟨_,.tuple e c q (by simpa using z)⟩
 |.lst ds,v,u,b,r=>by
  simp only[Br] at b;obtain⟨a,xs,rfl,_,ha,hx⟩:=b;cases r;obtain⟨_,its,n,rv,e⟩:=ok a _ ha;obtain⟨as,z⟩:=eU ok ds hx rv;simp only[aK];exact⟨_,.list e rfl rfl (by simpa using z)⟩
 |.dic ks ds,v,u,b,r=>by
  simp only[Br] at b;obtain⟨a,xs,rfl,_,ha,hl,hx⟩:=b;cases r;obtain⟨_,_,kvs,rk,o,es,ep,e,ex,q,_,pr,_⟩:=ok a _ ha;obtain⟨rv,k1⟩:=ik (by rw[hl,hx.len]) rk;obtain⟨as,z⟩:=eU ok ds hx rv;simp only[aK];refine⟨_,.dict e ex.1 q (kvs:=(ks.map aL).zip (aq ds)) (as:=[]) (bs:=as) ?_ ?_⟩
  ·rw[eS _ _ (by rw[Zc,bR,hl])];exact j4 pr k1
  ·rw[eT _ _ (by rw[Zc,bR,hl]),b5 pr];exact z
theorem eU(ok:HOk P w H h):∀ (ds:List D) {xs:List V} {us:List Value},BrL N H ds xs->aG xs us->∃as,ReadsAll h us (aq ds) as
 |[],xs,us,b,r=>by simp only[BrL] at b;subst b;cases r;exact⟨_,by simp only[aq];exact .nil⟩
 |d::ds,xs,us,b,r=>by
  simp only[BrL] at b;obtain⟨x,l,rfl,h1,h2⟩:=b;cases r with
  |cons r1 r2=>
   obtain⟨as,z1⟩:=cr ok d h1 r1;obtain⟨bs,z2⟩:=eU ok ds h2 r2;simp only[aq];exact⟨_,.cons z1 z2⟩
end
theorem iV{es:List XQ}:∀ {ks:List Key} {kvs:List (Key × Value)} {es:List XQ} {d:Nat} {bs:List Addr},Pairs (bj P w) es kvs->kvs.map (·.1)=ks->(∀k ∈ ks,∀i,k=Sum.inl i->i.natAbs.log2 < 1920)->(∀t ∈ Wh (ks.map aL),t.length<=sizeLine)->ReprAllK P w bs h d (es.map (·.key)) (Wh (ks.map aL))
 |[],[],_,_,_,.nil,_,_,_=>by simp only[Yc,Wh];exact .nil
 |k::ks,_::_,_,d,bs,.cons (e:=e) hk hv r,eq,hi,hz=>by
  simp only[Zy,List.cons.injEq] at eq;obtain⟨e1,e2⟩:=eq;have hk':gW k e.key=true:=by rw[<-e1];exact hk
  simp only[Zy,Wh] at hz ⊢;refine .cons ?_ (iV (es:=[]) r e2 (fun k' m=>hi k' (Zd _ m)) fun t m=>hz t (Zd _ m));rcases aJ hk' with ⟨i,t,rfl,q⟩ |⟨x,t,rfl,q⟩
  ·rw[q];simp only[aL,Wg];exact .of_is (ReprIs.int t (hi _ Zf i rfl)) _ _ _
  ·rw[q];have hs:=hz _ Zf;simp only[aL,Wg] at hs ⊢;exact .of_is (ReprIs.str x t hs) _ _ _
mutual
theorem yC(ok:HOk P w H h):∀ (d:D) {v:V} {u:Value},Br N H d v->av v u->shw d->(aK d).shown.length<=sizeLine->∃bs,ReadAtMost h (aK d).depth bs/\ReprK P w bs h (aK d).depth u (aK d).shown
 |.non,v,u,b,r,_,_=>by simp only[Br] at b;subst b;cases r;exact⟨[],(fun _ m=>nomatch m),by simp only[aK,Wg];exact .of_is ReprIs.none _ _ _⟩
 |.bl x,v,u,b,r,_,_=>by simp only[Br] at b;subst b;cases r;exact⟨[],(fun _ m=>nomatch m),by simp only[aK,Wg];exact .of_is (ReprIs.bool _) _ _ _⟩
 |.int i,v,u,b,r,hs,_=>by simp only[Br] at b;subst b;obtain⟨t,rfl⟩:=r;exact⟨[],(fun _ m=>nomatch m),by simp only[aK,Wg];exact .of_is (ReprIs.int t (by simpa only[shw] using hs)) _ _ _⟩
 |.str x,v,u,b,r,_,hz=>by simp only[Br] at b;subst b;obtain⟨t,rfl⟩:=r;exact⟨[],(fun _ m=>nomatch m),by simp only[aK,Wg] at hz ⊢;exact .of_is (ReprIs.str x t hz) _ _ _⟩
 |.tup ds,v,u,b,r,hs,hz=>by
  obtain⟨as,whole⟩:=cr ok (.tup ds) b r;simp only[Br] at b;obtain⟨a,xs,rfl,ha,hx⟩:=b;cases r;obtain⟨_,its,rv,o,e,c,n,q,_⟩:=ok a _ ha;simp only[aK,Wg,Wb] at hz whole ⊢;obtain⟨bs,m,k⟩:=cu ok ds hx rv (by simpa only[shw] using hs) fun t ht=>Zr (tupleText_mem_le ht) hz;have out:a ∉ bs:=Vh whole (by simp only[Wb];omega) m;have mm:=ReadAtMost.cons whole (by simp only[Wb];omega) m;simp only[Wb] at mm;exact⟨a::bs,mm,ReprK.tuple e c q out (by simpa using k)⟩
 |.lst ds,v,u,b,r,hs,hz=>by
  obtain⟨as,whole⟩:=cr ok (.lst ds) b r;simp only[Br] at b;obtain⟨a,xs,rfl,_,ha,hx⟩:=b;cases r;obtain⟨_,its,n,rv,e⟩:=ok a _ ha;simp only[aK,Wg,Wb] at hz whole ⊢;obtain⟨bs,m,k⟩:=cu ok ds hx rv (by simpa only[shw] using hs) fun t ht=>Zr (listText_mem_le ht) hz;have out:a ∉ bs:=Vh whole (by simp only[Wb];omega) m;have mm:=ReadAtMost.cons whole (by simp only[Wb];omega) m;simp only[Wb] at mm;refine⟨a::bs,mm,?_⟩;cases its with
  |nil=>
   cases k':Wh (aq ds) with
   |nil=>simp only[listText_nil];exact ReprK.listEmpty e rfl rfl
   |cons _ _=>rw[k'] at k;cases k
  |cons y l=>exact ReprK.list e rfl rfl out (by simpa using k.length_eq) (fun i y' q'=>k.item i y' (by simpa using q'))
 |.dic ks ds,v,u,b,r,hs,hz=>by
  obtain⟨as,whole⟩:=cr ok (.dic ks ds) b r;simp only[Br] at b;obtain⟨a,xs,rfl,_,ha,hl,hx⟩:=b;cases r;obtain⟨_,sys,kvs,rk,o,es,ep,e,ex,q,_,pr,_⟩:=ok a _ ha;obtain⟨rv,k1⟩:=ik (by rw[hl,hx.len]) rk;simp only[shw] at hs;have lz:(ks.map aL).length=(aq ds).length:=by rw[Zc,bR,hl]
  simp only[aK,Wg,Wb] at hz whole ⊢;have f1:=eS (ks.map aL) (aq ds) lz;have f2:=eT (ks.map aL) (aq ds) lz;have dk:=Wd ((ks.map aL).zip (aq ds));have dv:=We ((ks.map aL).zip (aq ds));rw[f1] at dk;rw[f2] at dv
  obtain⟨bs,m,k⟩:=cu ok ds hx rv hs.2 fun t ht=>by
   obtain⟨p,hp,hlen⟩:=Wl ((ks.map aL).zip (aq ds)) t (by rw[f2];exact ht);exact Zr hlen (Zr (W7 hp) hz)
  have kk:=iV (h:=h) (es:=[]) (d:=Wc (ks.map aL)) (bs:=bs) pr k1 hs.1 fun t ht=>by
   obtain⟨p,hp,hlen⟩:=Wk ((ks.map aL).zip (aq ds)) t (by rw[f1];exact ht);exact Zr hlen (Zr (W7 hp) hz)
  have m':=m.mono dv;have out:a ∉ bs:=Vh whole (by simp only[Wb];omega) m';have mm:=ReadAtMost.cons whole (by simp only[Wb];omega) m';simp only[Wb] at mm;refine⟨a::bs,mm,?_⟩;rw[Wj,f1,f2];refine ReprK.dict e ex.1 q sys out (ReprEntriesK.of_two es.toList _ _ (kk.more_le (fun _ z=>z) dk) ?_);rw[b5 pr];exact k.more_le (fun _ z=>z) dv
theorem cu(ok:HOk P w H h):∀ (ds:List D) {xs:List V} {us:List Value},BrL N H ds xs->aG xs us->k9 ds->(∀t ∈ Wh (aq ds),t.length<=sizeLine)->∃bs,ReadAtMost h (Wc (aq ds)) bs/\ReprAllK P w bs h (Wc (aq ds)) us (Wh (aq ds))
 |[],xs,us,b,r,_,_=>by simp only[BrL] at b;subst b;cases r;exact⟨[],(fun _ m=>nomatch m),by simp only[aq,Wh];exact .nil⟩
 |d::ds,xs,us,b,r,hs,hz=>by
  simp only[BrL] at b;obtain⟨x,l,rfl,h1,h2⟩:=b;cases r with
  |cons r1 r2=>
   simp only[aq,Wh,Wc,k9] at hz hs ⊢;obtain⟨b1,m1,k1⟩:=yC ok d h1 r1 hs.1 (hz _ Zf);obtain⟨b2,m2,k2⟩:=cu ok ds h2 r2 hs.2 fun t ht=>hz t (Zd _ ht);refine⟨b1++b2,(m1.mono (Xm _ _)).append (m2.mono (Xe _ _)),?_⟩;exact .cons ((k1.more fun b z=>Z9 _ z).level_le (Xm _ _)) (k2.more_le (fun b z=>Zx _ z) (Xe _ _))
end
end
section
variable {X:Cx}
structure Shn(d:D):Prop where
 sh:shw d
 sz:(aK d).shown.length<=sizeLine
 dp:(aK d).depth<=100
def Db:List V->Hp->VK->Prop:=fun xs H Q=>∃x N d,xs=[x]/\Br N H d x/\Shn d/\Q (.str (aK d).shown) H
theorem ow{k:Nat}(hr:Room k X.A):aV X (.builtin "repr") Db:=by
 intro pins s σ H xs us Q I r h;obtain⟨x,N,d,rfl,b,⟨hs,hz,hd⟩,q⟩:=h;obtain⟨u,rfl,ru⟩:=fv r;have hun:=hr.un;have hu1:X.A.units+1 < cLine:=by omega
 have gd1:X.A.in1.guards=some []:=hr.gd;have fin:∀h' t tk,(∀b o,s.heap.get? b=some o->h'.get? b=some o)->∃x' t',Value.str (aK d).shown t=Value.str x' t'/\EP X pins σ Q (Value.str (aK d).shown t) { s with heap:=h',toks:=tk }:=fun h' t tk hk=>⟨_,_,rfl,.str _,H,I.kept (t':=tk) hk,⟨t,rfl⟩,q⟩;cases d with
 |non=>
  simp only[Br] at b;subst b;cases ru;exact P.repr_of_none ⟨.str _,H,I.tok _,⟨_,rfl⟩,by simpa only[aK,Wg] using q⟩
 |bl y=>
  simp only[Br] at b;subst b;cases ru;exact P.repr_of_bool ⟨.str _,H,I.tok _,⟨_,rfl⟩,by simpa only[aK,Wg] using q⟩
 |int i=>
  simp only[Br] at b;subst b;obtain⟨t,rfl⟩:=ru;exact P.repr_of_int (by simpa only[shw] using hs) ⟨.str _,H,I.tok _,⟨_,rfl⟩,by simpa only[aK,Wg] using q⟩
 |str y=>
  simp only[Br] at b;subst b;obtain⟨t,rfl⟩:=ru;exact P.repr_of_str ⟨.str _,H,I.tok _,⟨_,rfl⟩,by simpa only[aK,Wg] using q⟩ (by simpa only[aK,Wg] using hz)
 |tup ds=>
  obtain⟨as,whole⟩:=cr I.hok (.tup ds) b ru;simp only[Br] at b;obtain⟨a,ys,rfl,ha,hx⟩:=b;cases ru;obtain⟨_,its,rv,o,e,c,n,q',_⟩:=I.hok a _ ha;simp only[aK,Wg,Wb] at hz whole hd fin;obtain⟨bs,m,k'⟩:=cu I.hok ds hx rv (by simpa only[shw] using hs) fun t ht=>Zr (tupleText_mem_le ht) hz;have out:a ∉ bs:=Vh whole (by simp only[Wb];omega) m;refine W0 hu1 ⟨o,e,c⟩ F.slot_tuple_repr ?_;exact call_tuple_reprK e c q' out (by simpa using k') gd1 (fun b _=>Clear.nil b) (by show X.A.units+1+(_+1) < cLine;omega) (fun _ _ z=>z) (fun h' t tk hk=>fin h' t tk hk) hz
 |lst ds=>
  obtain⟨as,whole⟩:=cr I.hok (.lst ds) b ru;simp only[Br] at b;obtain⟨a,ys,rfl,_,ha,hx⟩:=b;cases ru;obtain⟨_,its,n,rv,e⟩:=I.hok a _ ha;simp only[aK,Wg,Wb] at hz whole hd fin;obtain⟨bs,m,k'⟩:=cu I.hok ds hx rv (by simpa only[shw] using hs) fun t ht=>Zr (listText_mem_le ht) hz;have out:a ∉ bs:=Vh whole (by simp only[Wb];omega) m;refine W0 hu1 ⟨_,e,rfl⟩ F.slot_list_repr.toG ?_;cases its with
  |nil=>
   cases k2:Wh (aq ds) with
   |nil=>
    rw[k2] at fin;simp only[listText_nil] at fin;exact call_list_repr_empty ⟨_,e,rfl⟩ e rfl (fin s.heap _ _ fun _ _ z=>z)
   |cons _ _=>rw[k2] at k';cases k'
  |cons y l=>
   exact call_list_reprK e rfl rfl out (by simpa using k'.length_eq) (fun i y' q2=>k'.item i y' (by simpa using q2)) gd1 (fun b _=>Clear.nil b) (by show X.A.units+1+(_+1) < cLine;omega) (fun _ _ z=>z) (fun h' t tk hk=>fin h' t tk hk) hz
 |dic ks ds=>
  have bb:=b;obtain⟨as,whole⟩:=cr I.hok (.dic ks ds) b ru;simp only[Br] at b;obtain⟨a,ys,rfl,_,ha,hl,hx⟩:=b;cases ru;obtain⟨_,sys,kvs,rk,o,es,ep,e,ex,q',_,pr,_⟩:=I.hok a _ ha;obtain⟨rv,k1⟩:=ik (by rw[hl,hx.len]) rk;simp only[shw] at hs;have lz:(ks.map aL).length=(aq ds).length:=by rw[Zc,bR,hl]
  simp only[aK,Wg,Wb] at hz whole hd fin;have f1:=eS (ks.map aL) (aq ds) lz;have f2:=eT (ks.map aL) (aq ds) lz;have dk:=Wd ((ks.map aL).zip (aq ds));have dv:=We ((ks.map aL).zip (aq ds));rw[f1] at dk;rw[f2] at dv
  obtain⟨bs,m,k'⟩:=cu I.hok ds hx rv hs.2 fun t ht=>by
   obtain⟨p,hp,hlen⟩:=Wl ((ks.map aL).zip (aq ds)) t (by rw[f2];exact ht);exact Zr hlen (Zr (W7 hp) hz)
  have kk:=iV (h:=s.heap) (es:=[]) (d:=Wc (ks.map aL)) (bs:=bs) pr k1 hs.1 fun t ht=>by
   obtain⟨p,hp,hlen⟩:=Wk ((ks.map aL).zip (aq ds)) t (by rw[f1];exact ht);exact Zr hlen (Zr (W7 hp) hz)
  have m':=m.mono dv;have out:a ∉ bs:=Vh whole (by simp only[Wb];omega) m';refine W0 hu1 ⟨o,e,ex.1⟩ F.slot_dict_repr ?_
  have hE:ReprEntriesK X.prog X.w bs s.heap (Wf ((ks.map aL).zip (aq ds))) es.toList (Wi ((ks.map aL).zip (aq ds))):=by
   rw[Wj,f1,f2];refine ReprEntriesK.of_two es.toList _ _ (kk.more_le (fun _ z=>z) dk) ?_;rw[b5 pr];exact k'.more_le (fun _ z=>z) dv
  exact call_dict_reprK e ex.1 q' sys out hE gd1 (fun b _=>Clear.nil b) (by show X.A.units+1+(_+1) < cLine;omega) (fun _ _ z=>z) (fun h' t tk hk=>fin h' t tk hk) hz
end
mutual
noncomputable def sz:D->Nat
 |.non=>10
 |.bl _=>10
 |.int _=>60
 |.str x=>(reprText x).length
 |.tup ds=>szL ds+4
 |.lst ds=>szL ds+4
 |.dic ks ds=>szL ds+62 * ks.length+4
noncomputable def szL:List D->Nat
 |[]=>0
 |d::ds=>sz d+2+szL ds
end
mutual
def bnd(B:Nat):D->Prop
 |.int i=>i.natAbs < B
 |.tup ds=>c6 B ds
 |.lst ds=>c6 B ds
 |.dic ks ds=>(∀k ∈ ks,∃i,k=Sum.inl i/\i.natAbs < B)/\ks.length=ds.length/\c6 B ds
 |_=>True
def c6(B:Nat):List D->Prop
 |[]=>True
 |d::ds=>bnd B d/\c6 B ds
end
theorem ur{i:Int}(h:i.natAbs < 10 ^ 50):i.natAbs.log2 < 1920:=by
 by_cases z:i.natAbs=0
 ·rw[z];decide
 ·have:i.natAbs.log2 < 167:=(Xw z).mpr (Zs h (by decide));omega
mutual
theorem qg:∀ (d:D),bnd (10 ^ 50) d->shw d
 |.non,_=>by simp only[shw]
 |.bl _,_=>by simp only[shw]
 |.str _,_=>by simp only[shw]
 |.int i,h=>by simp only[shw,bnd] at h ⊢;exact ur h
 |.tup ds,h=>by simp only[shw,bnd] at h ⊢;exact fX ds h
 |.lst ds,h=>by simp only[shw,bnd] at h ⊢;exact fX ds h
 |.dic ks ds,h=>by
  simp only[shw,bnd] at h ⊢;refine⟨fun k hk i e=>?_,fX ds h.2.2⟩;obtain⟨j,e2,hj⟩:=h.1 k hk;rw[e] at e2;cases e2;exact ur hj
theorem fX:∀ (ds:List D),c6 (10 ^ 50) ds->k9 ds
 |[],_=>by simp only[k9]
 |d::ds,h=>by simp only[k9,c6] at h ⊢;exact⟨qg d h.1,fX ds h.2⟩
end
theorem qh:∀ (ts:List Str) (k:Nat) (acc:Str),(Vx k acc ts).length<=acc.length+piled ts
 |[],k,acc=>by show acc.length<=_;omega
 |t::r,k,acc=>by
  have ih:=qh r (k+1) (acc++(if k > 0 then ", " else "" : String)++t);show(Vx (k+1) (acc++(if k > 0 then ", " else "" : String)++t) r).length<=_;rw[piled_cons]
  have e:(acc++(if k > 0 then ", " else "" : String)++t).length<=acc.length+2+t.length:=by
   rw[Vs,Vs];have:(Str.ofString (if k > 0 then ", " else "" : String)).length<=2:=by split <;> decide
   omega
  omega
theorem qi(ts:List Str):(Str.join ", " ts).length<=piled ts:=by
 cases ts with
 |nil=>decide
 |cons t r=>have:=join_length_add (t::r) (by simp);omega
theorem yD(ts:List Str):(listText ts).length<=piled ts+4:=by
 unfold listText;rw[Vs];have h1:=qh ts 0 "[";have h2:(Str.ofString "[").length=1:=by decide
 have h3:(Str.ofString "]").length=1:=by decide
 have h1':(Vx 0 (Str.ofString "[") ts).length<=(Str.ofString "[").length+piled ts:=h1;show(Vx 0 (Str.ofString "[") ts).length+(Str.ofString "]").length<=_;omega
theorem ut(ts:List Str):(tupleText ts).length<=piled ts+4:=by
 unfold tupleText;rw[Vs,Vs];have h1:=qi ts;have h2:(Str.ofString "(").length=1:=by decide
 have h3:(Str.ofString (if ts.length == 1 then ",)" else ")" : String)).length<=2:=by split <;> decide
 show(Str.ofString "(").length+_+(Str.ofString (if ts.length == 1 then ",)" else ")" : String)).length<=_;omega
theorem yE(ts:List Str):(dictText ts).length<=piled ts+4:=by
 unfold dictText;rw[Vs,Vs];have h1:=qi ts;have h2:(Str.ofString "{").length=1:=by decide
 have h3:(Str.ofString "}").length=1:=by decide
 show(Str.ofString "{").length+_+(Str.ofString "}").length<=_;omega
theorem uu{i:Int}(h:i.natAbs < 10 ^ 50):(Str.ofString (toString i)).length<=51:=by
 rw[ofString_len];exact int_text_length_le10 (by decide) h
theorem BJ:∀ (ks:List Key) (ts:List Str) (hk:∀k ∈ ks,∃i,k=Sum.inl i/\i.natAbs < 10 ^ 50),ks.length=ts.length->piled (List.zipWith (fun k v:Str=>k ++ ": " ++ v) (Wh (ks.map aL)) ts)<=piled ts+53 * ks.length
 |[],[],_,_=>by simp[Wh,piled]
 |k::ks,t::ts,hk,hl=>by
  have ih:=BJ ks ts (fun k' m=>hk k' (Zd _ m)) (by simpa using hl);obtain⟨i,rfl,hi⟩:=hk _ Zf;simp only[Zy,Wh,List.zipWith_cons_cons,piled_cons,ZD,aL,Wg];have h1:=uu hi;rw[Vs,Vs];have h2:(Str.ofString ": ").length=2:=by decide
  show(Str.ofString (toString i)).length+(Str.ofString ": ").length+t.length+2+_<=_;omega
 |[],_::_,_,hl=>by simp at hl
 |_::_,[],_,hl=>by simp at hl
theorem fY:∀ds:List PyData,(Wh ds).length=ds.length
 |[]=>by simp[Wh]
 |d::ds=>by simp[Wh,fY ds]
mutual
theorem mJ:∀ (d:D),bnd (10 ^ 50) d->(aK d).shown.length<=sz d
 |.non,_=>by simp only[aK,Wg,sz];decide
 |.bl b,_=>by simp only[aK,Wg,sz];cases b <;> decide
 |.int i,h=>by
  simp only[aK,Wg,sz,bnd] at h ⊢;have:=uu h;show(Str.ofString (toString i)).length<=60;omega
 |.str x,_=>by simp only[aK,Wg,sz];exact Ze _
 |.tup ds,h=>by
  simp only[aK,Wg,sz,bnd] at h ⊢;have:=eV ds h;have:=ut (Wh (aq ds));omega
 |.lst ds,h=>by
  simp only[aK,Wg,sz,bnd] at h ⊢;have:=eV ds h;have:=yD (Wh (aq ds));omega
 |.dic ks ds,h=>by
  simp only[aK,Wg,sz,bnd] at h ⊢;have h1:=eV ds h.2.2;have lz:(ks.map aL).length=(aq ds).length:=by rw[Zc,bR,h.2.1]
  have h2:=yE (Wi ((ks.map aL).zip (aq ds)));rw[Wj,eS _ _ lz,eT _ _ lz] at h2;have h3:=BJ ks (Wh (aq ds)) h.1 (by rw[fY,bR,h.2.1]);rw[Wj,eS _ _ lz,eT _ _ lz];omega
theorem eV:∀ (ds:List D),c6 (10 ^ 50) ds->piled (Wh (aq ds))<=szL ds
 |[],_=>by simp[aq,Wh,piled,szL]
 |d::ds,h=>by
  simp only[aq,Wh,szL,c6,piled_cons] at h ⊢;have h1:=mJ d h.1;have h2:=eV ds h.2;omega
end
theorem mK:∀ (ks:List Key) (ds:List PyData),Wf ((ks.map aL).zip ds)<=Wc ds
 |[],ds=>by simp[Wf]
 |k::ks,[]=>by simp[Wf]
 |k::ks,d::ds=>by
  have ih:=mK ks ds;simp only[Zy,List.zip_cons_cons,Wf,Wc];have:(aL k).depth=0:=by cases k <;> simp[aL,Wb]
  rw[this];omega
mutual
theorem mL:∀ (d:D),(aK d).depth<=dep d
 |.non=>by simp[aK,Wb]
 |.bl _=>by simp[aK,Wb]
 |.int _=>by simp[aK,Wb]
 |.str _=>by simp[aK,Wb]
 |.tup ds=>by simp only[aK,Wb,dep];have:=eW ds;omega
 |.lst ds=>by simp only[aK,Wb,dep];have:=eW ds;omega
 |.dic ks ds=>by
  simp only[aK,Wb,dep];have:=eW ds;have:=mK ks (aq ds);omega
theorem eW:∀ (ds:List D),Wc (aq ds)<=fV ds
 |[]=>by simp[aq,Wc,fV]
 |d::ds=>by
  simp only[aq,Wc,fV];have:=mL d;have:=eW ds;omega
end
structure Bd(B s:Nat)(d:D):Prop where
 bn:bnd B d
 sz:sz d<=s
mutual
theorem cR{B B':Nat}(h:B<=B'):∀ (d:D),bnd B d->bnd B' d
 |.non,_=>by simp only[bnd]
 |.bl _,_=>by simp only[bnd]
 |.str _,_=>by simp only[bnd]
 |.int i,z=>by simp only[bnd] at z ⊢;omega
 |.tup ds,z=>by simp only[bnd] at z ⊢;exact il h ds z
 |.lst ds,z=>by simp only[bnd] at z ⊢;exact il h ds z
 |.dic ks ds,z=>by
  simp only[bnd] at z ⊢;exact⟨fun k hk=>let ⟨i,e,q⟩:=z.1 k hk;⟨i,e,by omega⟩,z.2.1,il h ds z.2.2⟩
theorem il{B B':Nat}(h:B<=B'):∀ (ds:List D),c6 B ds->c6 B' ds
 |[],_=>by simp only[c6]
 |d::ds,z=>by simp only[c6] at z ⊢;exact⟨cR h d z.1,il h ds z.2⟩
end
theorem Bd.up{B B' s s':Nat}{d:D}(h:Bd B s d)(hB:B<=B')(hs:s<=s'):Bd B' s' d:=⟨cR hB d h.bn,Zr h.sz hs⟩
theorem Bd.shn{B s:Nat}{d:D}(h:Bd B s d)(hB:B<=10 ^ 50)(hs:s<=sizeLine)(hd:dep d<=100):Shn d:=
 have b:=cR hB d h.bn
 ⟨qg d b,Zr (mJ d b) (Zr h.sz hs),Zr (mL d) hd⟩
theorem mM{B:Nat}{d:D}:∀ {ds:List D},c6 B ds->d ∈ ds->bnd B d
 |e::ds,h,m=>by
  simp only[c6] at h;rcases Zq.mp m with rfl |m
  ·exact h.1
  ·exact mM h.2 m
theorem qj{B:Nat}:∀ {ds:List D},(∀d ∈ ds,bnd B d)->c6 B ds
 |[],_=>by simp only[c6]
 |d::ds,h=>by simp only[c6];exact⟨h d Zf,qj fun e m=>h e (Zd _ m)⟩
theorem cg:∀ (ds es:List D),szL (ds++es)=szL ds+szL es
 |[],es=>by simp[szL]
 |d::ds,es=>by rw[List.cons_append];simp only[szL,cg ds es];omega
theorem qk{d:D}:∀ {ds:List D},d ∈ ds->sz d+2<=szL ds
 |e::ds,m=>by
  simp only[szL];rcases Zq.mp m with rfl |m
  ·omega
  ·have:=qk m;omega
theorem cM:∀ {ds es:List D},ds.Sublist es->szL ds<=szL es
 |_,_,.slnil=>Ze _
 |_,_,.cons a s=>by have:=cM s;simp only[szL];omega
 |_,_,.cons₂ a s=>by have:=cM s;simp only[szL];omega
theorem eX(ds:List D)(lo hi:Option Int):(aY ds lo hi).Sublist ds:=(Y7 _ _).trans (List.drop_sublist _ _)
theorem gF{B s:Nat}{ds:List D}(h:∀d ∈ ds,bnd B d)(hs:szL ds+4<=s):Bd B s (.tup ds):=⟨by simp only[bnd];exact qj h,by simp only[sz];exact hs⟩
theorem gG{B s:Nat}{ds:List D}(h:Bd B s (.tup ds)):(∀d ∈ ds,bnd B d)/\szL ds+4<=s:=by
 have h1:=h.bn;have h2:=h.sz;simp only[bnd] at h1;simp only[sz] at h2;exact⟨fun d m=>mM h1 m,h2⟩
theorem Dc{B s:Nat}{ds:List D}(h:Bd B s (.tup ds)):Bd B s (.lst ds):=by
 have h1:=h.bn;have h2:=h.sz;exact⟨by simp only[bnd] at h1 ⊢;exact h1,by simp only[sz] at h2 ⊢;exact h2⟩
theorem Dd{B s:Nat}{ds:List D}{d:D}(h:Bd B s (.tup ds))(m:d ∈ ds):Bd B (sz d) d/\sz d+6<=s:=by
 obtain⟨h1,h2⟩:=gG h;have:=qk m;exact⟨⟨h1 d m,Ze _⟩,by omega⟩
theorem yF{B s:Nat}{ds:List D}{e:D}(h:Bd B s (.tup ds))(g:Bd (10 ^ 31) 300 e):Bd (B+10 ^ 31) (3 * s+400) (.tup (ds++[e])):=by
 obtain⟨h1,h2⟩:=gG h;have g2:=g.sz;refine gF (fun d m=>?_) ?_
 ·rcases Zu.mp m with z |z
  ·exact cR (by omega) d (h1 d z)
  ·rw[ZF.mp z];exact cR (by omega) e g.bn
 ·rw[cg];simp only[szL];omega
theorem De{B s:Nat}{ds:List D}{lo hi:Option Int}(h:Bd B s (.tup ds)):Bd (B+10 ^ 31) (3 * s+400) (.tup (ds++aY ds lo hi)):=by
 obtain⟨h1,h2⟩:=gG h;have:=cM (eX ds lo hi);refine gF (fun d m=>?_) (by rw[cg];omega);exact cR (by omega) d (h1 d ((Zu.mp m).elim id fun z=>bZ z))
theorem yG{B s:Nat}{ds:List D}{lo hi lo' hi':Option Int}(h:Bd B s (.tup ds)):Bd (B+10 ^ 31) (3 * s+400) (.tup (aY ds lo hi++aY ds lo' hi')):=by
 obtain⟨h1,h2⟩:=gG h;have:=cM (eX ds lo hi);have:=cM (eX ds lo' hi');refine gF (fun d m=>?_) (by rw[cg];omega);exact cR (by omega) d (h1 d ((Zu.mp m).elim bZ fun z=>bZ z))
theorem yH{B s:Nat}{ds:List D}{l1 h1 l2 h2 l3 h3:Option Int}(h:Bd B s (.tup ds)):Bd (B+10 ^ 31) (3 * s+400) (.tup ((aY ds l1 h1++aY ds l2 h2)++aY ds l3 h3)):=by
 obtain⟨g1,g2⟩:=gG h;have:=cM (eX ds l1 h1);have:=cM (eX ds l2 h2);have:=cM (eX ds l3 h3);refine gF (fun d m=>?_) (by rw[cg,cg];omega);refine cR (by omega) d (g1 d ?_);rcases Zu.mp m with z |z
 ·exact(Zu.mp z).elim bZ fun z=>bZ z
 ·exact bZ z
theorem rY{ds:List D}{i:Nat}{d:D}(h:ds[i]?=some d):szL (aY ds none (some (i:Int)))+(sz d+2)+szL (aY ds (some ((i:Int)+1)) none)=szL ds:=by
 have hi:i < ds.length:=(Za.mp h).1;have e0:aY ds none (some (i:Int))=ds.take i:=uq ds i (by omega)
 have e1:aY ds (some ((i:Int)+1)) none=ds.drop (i+1):=by
  unfold aY;rw[oo _ _ (by omega)];have e2:HT.sIx ds.length ds.length none=ds.length:=rfl;rw[e2];have e3:min ((i:Int)+1).toNat ds.length=i+1:=by omega
  rw[e3,Yp (by rw[ZV];omega)]
 rw[e0,e1]
 have e4:ds=ds.take i++d::ds.drop (i+1):=by
  have hg:ds[i]=d:=(Za.mp h).2;rw[<-hg,List.getElem_cons_drop,Yr]
 have:szL ds=szL (ds.take i++d::ds.drop (i+1)):=by rw[<-e4]
 rw[this,cg];simp only[szL];omega
theorem Df{B s i:Nat}{ds:List D}{d d':D}(h:Bd B s (.tup ds))(hi:ds[i]?=some d)(g:Bd (B+10 ^ 31) (3 * sz d+400) d'):Bd (B+10 ^ 31) (3 * s+400) (.tup ((aY ds none (some (i:Int))++[d'])++aY ds (some ((i:Int)+1)) none)):=by
 obtain⟨h1,h2⟩:=gG h;have p:=rY hi;have g2:=g.sz;refine gF (fun e m=>?_) ?_
 ·rcases Zu.mp m with z |z
  ·rcases Zu.mp z with y |y
   ·exact cR (by omega) e (h1 e (bZ y))
   ·rw[ZF.mp y];exact g.bn
  ·exact cR (by omega) e (h1 e (bZ z))
 ·rw[cg,cg];simp only[szL];omega
theorem Dg{B s:Nat}{i:Int}(h:i.natAbs < B)(hs:60<=s):Bd B s (.int i):=⟨by simp only[bnd];exact h,by simp only[sz];exact hs⟩
mutual
noncomputable def ox:D->Bool
 |.int i=>decide (i.natAbs < 10 ^ 31)
 |.tup ds=>rZ ds
 |.lst ds=>rZ ds
 |.dic ks ds=>(ks.all fun k=>match k with |.inl i=>decide (i.natAbs < 10 ^ 31) |_=>false) && (decide (ks.length=ds.length) && rZ ds)
 |_=>true
noncomputable def rZ:List D->Bool
 |[]=>true
 |d::ds=>ox d && rZ ds
end
noncomputable def bdB(d:D):Bool:=ox d && decide (sz d<=300)
mutual
theorem ql:∀ (d:D),ox d=true->bnd (10 ^ 31) d
 |.non,_=>by simp only[bnd]
 |.bl _,_=>by simp only[bnd]
 |.str _,_=>by simp only[bnd]
 |.int i,h=>by simp only[ox,bnd,decide_eq_true_eq] at h ⊢;exact h
 |.tup ds,h=>by simp only[ox,bnd] at h ⊢;exact im ds h
 |.lst ds,h=>by simp only[ox,bnd] at h ⊢;exact im ds h
 |.dic ks ds,h=>by
  simp only[ox,bnd,bAE,decide_eq_true_eq] at h ⊢;refine⟨fun k hk=>?_,h.2.1,im ds h.2.2⟩;have z:=Zk.mp h.1 k hk;cases k with
  |inl i=>exact⟨i,rfl,of_decide_eq_true z⟩
  |inr x=>cases z
theorem im:∀ (ds:List D),rZ ds=true->c6 (10 ^ 31) ds
 |[],_=>by simp only[c6]
 |d::ds,h=>by simp only[rZ,c6,bAE] at h ⊢;exact⟨ql d h.1,im ds h.2⟩
end
theorem Dh{d:D}(h:bdB d=true):Bd (10 ^ 31) 300 d:=by
 simp only[bdB,bAE,decide_eq_true_eq] at h;exact⟨ql d h.1,h.2⟩
end Dw
namespace Ev
open PySem PySem.Spec PyProof.Rows L2
inductive D where
 |non |bl (b:Bool) |int (i:Int) |str (x:Str) |tup (ds:List D) |ref (n:Nat)
inductive Ob where
 |lst (ds:List D) |frz (ds:List D) |dic (ks:List Key) (ds:List D)
abbrev Sto:=List Ob
abbrev Rho:=List (Option D)
mutual
def VD(K:Wu)(m:List Addr)(H:Hp):D->V->Prop
 |.non,v=>v = .non
 |.bl b,v=>v = .bl b
 |.int i,v=>v = .int i
 |.str x,v=>v = .str x
 |.tup ds,v=>∃a xs,v = .ref a/\H a=some (.tup xs)/\VDs K m H ds xs
 |.ref n,v=>∃a,m[n]?=some a/\v = .ref a
def VDs(K:Wu)(m:List Addr)(H:Hp):List D->List V->Prop
 |[],xs=>xs=[]
 |d::ds,xs=>∃x r,xs=x::r/\VD K m H d x/\VDs K m H ds r
end
structure Ext(m:List Addr)(H:Hp)(m':List Addr)(H':Hp):Prop where
 pre:m <+: m'
 keep:∀a o,H a=some o->a ∉ m->H' a=some o
 new:∀a,a ∈ m'->a ∉ m->H a=none
def ObR(K:Wu)(m:List Addr)(H:Hp)(a:Addr):Ob->Prop
 |.lst ds=>∃vs,H a=some (.lst vs)/\VDs K m H ds vs
 |.frz ds=>∃o vs,H a=some (.frz o (.lst vs))/\VDs K m H ds vs
 |.dic ks ds=>∃vs,H a=some (.dK (ks.zip vs))/\ks.length=ds.length/\VDs K m H ds vs
structure Rel(K:Wu)(m:List Addr)(S:Sto)(H:Hp):Prop where
 len:m.length=S.length
 nd:m.Nodup
 ob:∀ (i:Nat) (o:Ob),S[i]?=some o->∃a,m[i]?=some a/\ObR K m H a o
structure EnvR(K:Wu)(m:List Addr)(H:Hp)(ρ:Rho)(σ:L2.St):Prop where
 len:ρ.length=σ.length
 at_:∀ (i:Nat) (d:D),ρ[i]?=some (some d)->∃v,σ[i]?=some (some v)/\VD K m H d v
theorem Ext.refl(m:List Addr)(H:Hp):Ext m H m H:=⟨Z1 m,fun _ _ h _=>h,fun _ h n=>absurd h n⟩
theorem Ext.trans{m m1 m2:List Addr}{H H1 H2:Hp}(x:Ext m H m1 H1)(y:Ext m1 H1 m2 H2):Ext m H m2 H2:=by
 refine⟨x.pre.trans y.pre,fun a o h n=>?_,fun a h n=>?_⟩
 ·have n1:a ∉ m1:=fun z=>by have:=x.new a z n;rw[this] at h;cases h
  exact y.keep a o (x.keep a o h n) n1
 ·by_cases h1:a ∈ m1
  ·exact x.new a h1 n
  ·cases e:H a with
   |none=>rfl
   |some o=>
    have:=x.keep a o e n;rw[y.new a h h1] at this;cases this
section
variable {K:Wu} {m m':List Addr} {S S':Sto} {H H':Hp} {a:Addr}
theorem Rel.ex(R:Rel K m S H)(ha:a ∈ m):∃o ob,H a=some o/\ObR K m H a ob:=by
 obtain⟨i,hi,e⟩:=Y2 ha;have hi':i < S.length:=by rw[<-R.len];exact hi
 obtain⟨b,hb,r⟩:=R.ob i S[i] (gEG hi');have:b=a:=by rw[gEG hi] at hb;rw[<-e];exact(Option.some.inj hb).symm
 subst this;cases hS:S[i] with
 |lst ds=>rw[hS] at r;obtain⟨vs,h,q⟩:=r;exact⟨_,.lst ds,h,vs,h,q⟩
 |frz ds=>rw[hS] at r;obtain⟨o,vs,h,q⟩:=r;exact⟨_,.frz ds,h,o,vs,h,q⟩
 |dic ks ds=>rw[hS] at r;obtain⟨vs,h,q⟩:=r;exact⟨_,.dic ks ds,h,vs,h,q⟩
theorem Rel.no(R:Rel K m S H)(h:H a=none):a ∉ m:=fun z=>by
 obtain⟨o,_,e,_⟩:=R.ex z;rw[h] at e;cases e
theorem Rel.notTup(R:Rel K m S H){xs:List V}(h:H a=some (.tup xs)):a ∉ m:=fun z=>by
 obtain⟨o,ob,e,r⟩:=R.ex z;cases ob with
 |lst ds=>obtain⟨vs,q,_⟩:=r;rw[q] at h;cases h
 |frz ds=>obtain⟨o,vs,q,_⟩:=r;rw[q] at h;cases h
 |dic ks ds=>obtain⟨vs,q,_⟩:=r;rw[q] at h;cases h
theorem Tup.ext{xs:List V}(R:Rel K m S H)(x:Ext m H m' H')(h:H a=some (.tup xs)):H' a=some (.tup xs):=x.keep _ _ h (R.notTup h)
theorem io{i:Nat}(h:m <+: m')(e:m[i]?=some a):m'[i]?=some a:=by
 obtain⟨t,rfl⟩:=h;have hi:i < m.length:=(Za.mp e).1;rw[Zo hi];exact e
mutual
theorem VD.mono0(pre:m <+: m')(tk:∀a xs,H a=some (.tup xs)->H' a=some (.tup xs)):∀ {d:D} {v:V},VD K m H d v->VD K m' H' d v
 |.non,v,h=>by rw[VD] at h ⊢;exact h
 |.bl _,v,h=>by rw[VD] at h ⊢;exact h
 |.int _,v,h=>by rw[VD] at h ⊢;exact h
 |.str _,v,h=>by rw[VD] at h ⊢;exact h
 |.tup ds,v,h=>by
  rw[VD] at h ⊢;obtain⟨a,xs,e,q,r⟩:=h;exact⟨a,xs,e,tk a xs q,VDs.mono0 pre tk r⟩
 |.ref n,v,h=>by
  rw[VD] at h ⊢;obtain⟨a,q,e⟩:=h;exact⟨a,io pre q,e⟩
theorem VDs.mono0(pre:m <+: m')(tk:∀a xs,H a=some (.tup xs)->H' a=some (.tup xs)):∀ {ds:List D} {vs:List V},VDs K m H ds vs->VDs K m' H' ds vs
 |[],vs,h=>by rw[VDs] at h ⊢;exact h
 |d::ds,vs,h=>by
  rw[VDs] at h ⊢;obtain⟨y,r,e,p,q⟩:=h;exact⟨y,r,e,VD.mono0 pre tk p,VDs.mono0 pre tk q⟩
end
theorem VD.mono(R:Rel K m S H)(x:Ext m H m' H'){d:D}{v:V}(h:VD K m H d v):VD K m' H' d v:=VD.mono0 x.pre (fun _ _=>Tup.ext R x) h
theorem VDs.mono(R:Rel K m S H)(x:Ext m H m' H'){ds:List D}{vs:List V}(h:VDs K m H ds vs):VDs K m' H' ds vs:=VDs.mono0 x.pre (fun _ _=>Tup.ext R x) h
theorem EnvR.mono{ρ:Rho}{σ:L2.St}(R:Rel K m S H)(x:Ext m H m' H')(h:EnvR K m H ρ σ):EnvR K m' H' ρ σ:=
 ⟨h.len,fun i d e=>let ⟨v,p,q⟩:=h.at_ i d e;⟨v,p,VD.mono R x q⟩⟩
theorem VDs.length:∀ {ds:List D} {vs:List V},VDs K m H ds vs->ds.length=vs.length
 |[],vs,h=>by rw[VDs] at h;rw[h];rfl
 |d::ds,vs,h=>by
  rw[VDs] at h;obtain⟨y,r,e,_,q⟩:=h;rw[e,ZD,ZD,VDs.length q]
theorem VDs.nil:VDs K m H [] []:=by rw[VDs]
theorem VDs.cons{d:D}{v:V}{ds:List D}{vs:List V}(h:VD K m H d v)(t:VDs K m H ds vs):VDs K m H (d::ds) (v::vs):=by rw[VDs];exact⟨v,vs,rfl,h,t⟩
theorem VDs.get:∀ {ds:List D} {vs:List V} {i:Nat} {d:D},VDs K m H ds vs->ds[i]?=some d->∃v,vs[i]?=some v/\VD K m H d v
 |[],_,_,_,_,e=>by simp at e
 |d::ds,vs,0,d',h,e=>by
  rw[VDs] at h;obtain⟨y,r,rfl,p,q⟩:=h;simp at e;subst e;exact⟨y,rfl,p⟩
 |d::ds,vs,i+1,d',h,e=>by
  rw[VDs] at h;obtain⟨y,r,rfl,p,q⟩:=h;obtain⟨v,p1,p2⟩:=VDs.get (i:=i) q (by simpa using e);exact⟨v,by simpa using p1,p2⟩
theorem VDs.append:∀ {ds es:List D} {vs ws:List V},VDs K m H ds vs->VDs K m H es ws->VDs K m H (ds++es) (vs++ws)
 |[],_,vs,_,h,t=>by rw[VDs] at h;subst h;exact t
 |d::ds,es,vs,ws,h,t=>by
  rw[VDs] at h;obtain⟨y,r,rfl,p,q⟩:=h;exact .cons p (VDs.append q t)
theorem VDs.drop:∀ {ds:List D} {vs:List V} (n:Nat),VDs K m H ds vs->VDs K m H (ds.drop n) (vs.drop n)
 |ds,vs,0,h=>h
 |[],vs,n+1,h=>by rw[VDs] at h;subst h;exact .nil
 |d::ds,vs,n+1,h=>by
  rw[VDs] at h;obtain⟨y,r,rfl,p,q⟩:=h;exact VDs.drop n q
theorem VDs.take:∀ {ds:List D} {vs:List V} (n:Nat),VDs K m H ds vs->VDs K m H (ds.take n) (vs.take n)
 |ds,vs,0,h=>by simp only[List.take_zero];exact .nil
 |[],vs,n+1,h=>by rw[VDs] at h;subst h;exact .nil
 |d::ds,vs,n+1,h=>by
  rw[VDs] at h;obtain⟨y,r,rfl,p,q⟩:=h;exact .cons p (VDs.take n q)
theorem VDs.set:∀ {ds:List D} {vs:List V} {i:Nat} {d:D} {v:V},VDs K m H ds vs->VD K m H d v->VDs K m H (ds.set i d) (vs.set i v)
 |[],vs,_,_,_,h,_=>by rw[VDs] at h;subst h;exact .nil
 |_::ds,vs,0,d,v,h,p=>by
  rw[VDs] at h;obtain⟨y,r,rfl,_,q⟩:=h;exact .cons p q
 |_::ds,vs,i+1,d,v,h,p=>by
  rw[VDs] at h;obtain⟨y,r,rfl,p',q⟩:=h;exact .cons p' (VDs.set q p)
theorem Ext.beside(R:Rel K m S H)(h:H a=none)(o:HO):Ext m H m (upd H a o):=
 ⟨Z1 m,fun b u e _=>by rw[ak (aD e h)];exact e,fun b z n=>absurd z n⟩
theorem Rel.ext_keep(R:Rel K m S H)(x:Ext m H m H')(k:∀b ∈ m,H' b=H b):Rel K m S H':=by
 refine⟨R.len,R.nd,fun i o e=>?_⟩;obtain⟨b,hb,r⟩:=R.ob i o e;have hm:b ∈ m:=Zp hb;refine⟨b,hb,?_⟩;cases o with
 |lst ds=>obtain⟨vs,p,q⟩:=r;exact⟨vs,(k b hm).trans p,VDs.mono R x q⟩
 |frz ds=>obtain⟨o,vs,p,q⟩:=r;exact⟨o,vs,(k b hm).trans p,VDs.mono R x q⟩
 |dic ks ds=>obtain⟨vs,p,l,q⟩:=r;exact⟨vs,(k b hm).trans p,l,VDs.mono R x q⟩
theorem Rel.beside(R:Rel K m S H)(h:H a=none)(o:HO):Rel K m S (upd H a o):=
 R.ext_keep (Ext.beside R h o) fun b hb=>ak fun z=>R.no h (z ▸ hb)
theorem Rel.adopt(R:Rel K m S H)(n:a ∉ m){vs:List V}{ds:List D}(h:H a=some (.lst vs))(q:VDs K m H ds vs):Rel K (m++[a]) (S++[.lst ds]) H:=by
 have p:=Yi m [a];have g:∀ {es:List D} {ws:List V},VDs K m H es ws->VDs K (m++[a]) H es ws:=fun z=>VDs.mono0 p (fun _ _ t=>t) z;refine⟨by simp[R.len],Xa.mpr ⟨R.nd,by simp,fun x hx y hy=>by simp at hy;subst hy;exact fun z=>n (z ▸ hx)⟩,fun i o e=>?_⟩;by_cases hi:i < S.length
 ·rw[Zo hi] at e;obtain⟨b,hb,r⟩:=R.ob i o e;refine⟨b,io p hb,?_⟩;cases o with
  |lst ds=>obtain⟨vs,p,q⟩:=r;exact⟨vs,p,g q⟩
  |frz ds=>obtain⟨o,vs,p,q⟩:=r;exact⟨o,vs,p,g q⟩
  |dic ks ds=>obtain⟨vs,p,l,q⟩:=r;exact⟨vs,p,l,g q⟩
 ·rw[Zg (by omega)] at e
  have hz:i - S.length=0:=by
   have:=(Za.mp e).1;simp at this;omega
  rw[hz] at e;have e':Ob.lst ds=o:=by simpa using e
  subst e';refine⟨a,?_,vs,h,g q⟩;rw[Zg (by rw[R.len];omega),R.len,hz];rfl
theorem Ext.adopt(x:Ext m H m H')(h:H a=none):Ext m H (m++[a]) H':=
 ⟨Yi m [a],x.keep,fun b hb nb=>by
  rcases Zu.mp hb with z |z
  ·exact absurd z nb
  ·simp at z;subst z;exact h⟩
theorem Rel.write(R:Rel K m S H){i:Nat}(hi:m[i]?=some a){vs:List V}{ds:List D}(q:VDs K m H ds vs):Ext m H m (upd H a (.lst vs))/\Rel K m (S.set i (.lst ds)) (upd H a (.lst vs)):=by
 have hm:a ∈ m:=Zp hi;have x:Ext m H m (upd H a (.lst vs)):=⟨Z1 m,fun b u e n=>by rw[ak (show b ≠ a from fun z=>n (by rw[z];exact hm))];exact e,fun b z n=>absurd z n⟩;refine⟨x,by simp[R.len],R.nd,fun j o e=>?_⟩;rw[Yk] at e;by_cases hj:i=j
 ·subst hj;rw[if_pos rfl] at e;split at e
  ·have e':=Option.some.inj e;subst e';exact⟨a,hi,vs,ao,VDs.mono R x q⟩
  ·cases e
 ·rw[if_neg hj] at e;obtain⟨b,hb,r⟩:=R.ob j o e
  have ne:b ≠ a:=fun z=>by
   subst z;have h1:=Za.mp hi;have h2:=Za.mp hb;exact hj ((Ys R.nd).mp (h1.2.trans h2.2.symm))
  refine⟨b,hb,?_⟩;cases o with
  |lst es=>obtain⟨ws,p,q⟩:=r;exact⟨ws,by rw[ak ne];exact p,VDs.mono R x q⟩
  |frz es=>obtain⟨o,ws,p,q⟩:=r;exact⟨o,ws,by rw[ak ne];exact p,VDs.mono R x q⟩
  |dic ks es=>obtain⟨ws,p,l,q⟩:=r;exact⟨ws,by rw[ak ne];exact p,l,VDs.mono R x q⟩
theorem Rel.lst(R:Rel K m S H){i:Nat}{ds:List D}(e:S[i]?=some (.lst ds)):∃a vs,m[i]?=some a/\H a=some (.lst vs)/\VDs K m H ds vs:=by
 obtain⟨a,ha,vs,p,q⟩:=R.ob i _ e;exact⟨a,vs,ha,p,q⟩
end
noncomputable def ah(S:Sto)(n:Nat):Option (List D):=match S[n]? with
 |some (.lst ds)=>some ds
 |some (.frz ds)=>some ds
 |_=>none
theorem Rel.seq{K:Wu}{m:List Addr}{S:Sto}{H:Hp}(R:Rel K m S H){i:Nat}{ds:List D}(e:ah S i=some ds):∃a vs,m[i]?=some a/\SqL K H a vs/\VDs K m H ds vs:=by
 unfold ah at e;cases h:S[i]? with
 |none=>rw[h] at e;cases e
 |some o=>
  rw[h] at e;cases o with
  |lst es=>cases e;obtain⟨a,ha,vs,p,q⟩:=R.ob i _ h;exact⟨a,vs,ha,.inl (.inl p),q⟩
  |frz es=>cases e;obtain⟨a,ha,o,vs,p,q⟩:=R.ob i _ h;exact⟨a,vs,ha,.inl (.inr ⟨o,p⟩),q⟩
  |dic ks es=>cases e
abbrev XE:=Rho->Sto->Option (D × Sto)
abbrev XT:=Rho->Sto->Option (Bool × Sto)
abbrev XA:=Rho->Sto->Option (List D × Sto)
def bnd{α β:Type}(x:Option (α × Sto))(f:α->Sto->Option (β × Sto)):Option (β × Sto):=match x with
 |none=>none
 |some (a,S)=>f a S
theorem aa{α β:Type}{x:Option (α × Sto)}{f:α->Sto->Option (β × Sto)}{r:β × Sto}(h:bnd x f=some r):∃a S,x=some (a,S)/\f a S=some r:=by
 unfold bnd at h;cases x with
 |none=>cases h
 |some p=>exact⟨p.1,p.2,rfl,h⟩
structure Aft(K:Wu)(m:List Addr)(H:Hp)(S':Sto)(m':List Addr)(H':Hp):Prop where
 ext:Ext m H m' H'
 rel:Rel K m' S' H'
def tE(K:Wu)(x:XE):TE:=fun σ H Q=>∃m ρ S d S',EnvR K m H ρ σ/\Rel K m S H/\x ρ S=some (d,S')/\∀m' H' v,Aft K m H S' m' H'->VD K m' H' d v->Q v H'
def tT(K:Wu)(x:XT):TT:=fun σ H Q=>∃m ρ S b S',EnvR K m H ρ σ/\Rel K m S H/\x ρ S=some (b,S')/\∀m' H',Aft K m H S' m' H'->Q b H'
def tAr(K:Wu)(x:XA):TA:=fun σ H Q=>∃m ρ S ds S',EnvR K m H ρ σ/\Rel K m S H/\x ρ S=some (ds,S')/\∀m' H' vs,Aft K m H S' m' H'->VDs K m' H' ds vs->Q vs H'
def SqB(K:Wu)(tu:Bool)(H:Hp)(a:Addr)(vs:List V):Prop:=if tu=true then H a=some (.tup vs) else SqL K H a vs
def fq(K:Wu)(x:XA):TE:=fun σ H Q=>∃m ρ S ds S',EnvR K m H ρ σ/\Rel K m S H/\x ρ S=some (ds,S')/\∀m' H' a vs,Aft K m H S' m' H'->H' a=some (.lst vs)->a ∉ m'->(∀b,b ∈ m->b ≠ a)->H a=none->VDs K m' H' ds vs->Q (.ref a) H'
section
variable {X:Cx} {e:Expr} {K:Wu} {m m1 m2:List Addr} {H H1 H2:Hp} {S S1 S2:Sto}
theorem PE.imp{t t':TE}(h:PE X e t)(f:∀σ H Q,t' σ H Q->t σ H Q):PE X e t':=fun pins s σ H Q I q=>h pins s σ H Q I (f σ H Q q)
theorem PT.imp{t t':TT}(h:PT X e t)(f:∀σ H Q,t' σ H Q->t σ H Q):PT X e t':=fun pins s σ H Q I q=>h pins s σ H Q I (f σ H Q q)
theorem PA.imp{es:List Expr}{t t':TA}(h:PA X es t)(f:∀σ H Q,t' σ H Q->t σ H Q):PA X es t':=fun p pins s σ H Q I q=>h p pins s σ H Q I (f σ H Q q)
theorem PS.imp{st:Stmt}{t t':TS}(h:PS X st t)(f:∀D σ H,t' D σ H->t D σ H):PS X st t':=fun pins s σ H D I q=>h pins s σ H D I (f D σ H q)
theorem PSs.imp{st:List Stmt}{t t':TS}(h:PSs X st t)(f:∀D σ H,t' D σ H->t D σ H):PSs X st t':=fun pins s σ H D I q=>h pins s σ H D I (f D σ H q)
theorem PI.imp{tg it:Expr}{t t':TI}(h:PI X tg it t)(f:∀σ H Q,t' σ H Q->t σ H Q):PI X tg it t':=fun pins s σ H Q I q=>h pins s σ H Q I (f σ H Q q)
theorem PI.or{tg it:Expr}{t t':TI}(h:PI X tg it t)(h':PI X tg it t'):PI X tg it (fun σ H Q=>t σ H Q\/t' σ H Q):=fun pins s σ H Q I q=>q.elim (h pins s σ H Q I) (h' pins s σ H Q I)
theorem OpR.imp{f:Value->Value->Sem Value}{r r':R2}(h:OpR X f r)(g:∀x y H Q,r' x y H Q->r x y H Q):OpR X f r':=fun pins s σ H x y v u Q I rx ry q=>h pins s σ H x y v u Q I rx ry (g _ _ _ _ q)
theorem OpR.or{f:Value->Value->Sem Value}{r r':R2}(h:OpR X f r)(h':OpR X f r'):OpR X f (fun x y H Q=>r x y H Q\/r' x y H Q):=fun pins s σ H x y v u Q I rx ry q=>
 q.elim (h pins s σ H x y v u Q I rx ry) (h' pins s σ H x y v u Q I rx ry)
theorem aV.imp{f:Value}{r r':List V->Hp->VK->Prop}(h:aV X f r)(g:∀x H Q,r' x H Q->r x H Q):aV X f r':=fun pins s σ H xs us Q I rx q=>h pins s σ H xs us Q I rx (g _ _ _ q)
theorem Aft.refl(R:Rel K m S H):Aft K m H S m H:=⟨Ext.refl m H,R⟩
theorem Aft.trans(x:Aft K m H S1 m1 H1)(y:Aft K m1 H1 S2 m2 H2):Aft K m H S2 m2 H2:=⟨x.ext.trans y.ext,y.rel⟩
def rS(K:Wu)(f:D->D->Sto->Option (D × Sto)):R2:=fun v w H Q=>∃m S a b d S',Rel K m S H/\VD K m H a v/\VD K m H b w/\f a b S=some (d,S')/\∀m' H' u,Aft K m H S' m' H'->VD K m' H' d u->Q u H'
def rS1(K:Wu)(f:D->Sto->Option (D × Sto)):V->Hp->VK->Prop:=fun v H Q=>∃m S a d S',Rel K m S H/\VD K m H a v/\f a S=some (d,S')/\∀m' H' u,Aft K m H S' m' H'->VD K m' H' d u->Q u H'
def rSA(K:Wu)(f:List D->Sto->Option (D × Sto)):List V->Hp->VK->Prop:=fun vs H Q=>∃m S as d S',Rel K m S H/\VDs K m H as vs/\f as S=some (d,S')/\∀m' H' u,Aft K m H S' m' H'->VD K m' H' d u->Q u H'
def rSq(K:Wu)(f:Bool->List D->Sto->Option (D × Sto)):V->Hp->VK->Prop:=fun v H Q=>∃m S tu ds a vs d S',Rel K m S H/\v = .ref a/\SqB K tu H a vs/\VDs K m H ds vs/\f tu ds S=some (d,S')/\∀m' H' u,Aft K m H S' m' H'->VD K m' H' d u->Q u H'
noncomputable def mO(f:D->D->Sto->Option (D × Sto))(x y:XE):XE:=fun ρ S=>bnd (x ρ S) fun a S1=>bnd (y ρ S1) fun b S2=>f a b S2
noncomputable def xUn(f:D->Sto->Option (D × Sto))(x:XE):XE:=fun ρ S=>bnd (x ρ S) fun a S1=>f a S1
noncomputable def ic(f:List D->Sto->Option (D × Sto))(x:XA):XE:=fun ρ S=>bnd (x ρ S) fun a S1=>f a S1
noncomputable def r9(f:Bool->List D->Sto->Option (D × Sto))(x:XA):XE:=fun ρ S=>bnd (x ρ S) fun ds S1=>f false ds S1
noncomputable def au(d:D)(S:Sto):Option (Bool × List D):=match d with
 |.tup ds=>some (true,ds)
 |.ref n=>(ah S n).map fun ds=>(false,ds)
 |_=>none
noncomputable def aH(f:Bool->List D->Sto->Option (D × Sto))(d:D)(S:Sto):Option (D × Sto):=match au d S with
 |some r=>f r.1 r.2 S
 |none=>none
noncomputable def sd(f:Bool->List D->Sto->Option (D × Sto))(x:XE):XE:=fun ρ S=>bnd (x ρ S) fun d S1=>aH f d S1
theorem lf{f:D->D->Sto->Option (D × Sto)}{x y:XE}{σ:L2.St}{H:Hp}{Q:VK}(h:tE K (mO f x y) σ H Q):tOp (rS K f) (tE K x) (tE K y) σ H Q:=by
 obtain⟨m,ρ,S,d,S',E,R,e,q⟩:=h;obtain⟨a,S1,e1,e⟩:=aa e;obtain⟨b,S2,e2,e⟩:=aa e;refine⟨m,ρ,S,a,S1,E,R,e1,fun m1 H1 v A1 va=>⟨m1,ρ,S1,b,S2,E.mono R A1.ext,A1.rel,e2,fun m2 H2 w A2 vb=>?_⟩⟩;exact⟨m2,S2,a,b,d,S',A2.rel,va.mono A1.rel A2.ext,vb,e,fun m3 H3 u A3 vd=>q m3 H3 u ((A1.trans A2).trans A3) vd⟩
theorem BK{f:D->Sto->Option (D × Sto)}{x:XE}{σ:L2.St}{H:Hp}{Q:VK}(h:tE K (xUn f x) σ H Q):tUn (rS1 K f) (tE K x) σ H Q:=by
 obtain⟨m,ρ,S,d,S',E,R,e,q⟩:=h;obtain⟨a,S1,e1,e⟩:=aa e;exact⟨m,ρ,S,a,S1,E,R,e1,fun m1 H1 v A1 va=>⟨m1,S1,a,d,S',A1.rel,va,e,fun m3 H3 u A3 vd=>q m3 H3 u (A1.trans A3) vd⟩⟩
theorem uv{f:List D->Sto->Option (D × Sto)}{x:XA}{σ:L2.St}{H:Hp}{Q:VK}(h:tE K (ic f x) σ H Q):tCB (rSA K f) (tAr K x) σ H Q:=by
 obtain⟨m,ρ,S,d,S',E,R,e,q⟩:=h;obtain⟨a,S1,e1,e⟩:=aa e;exact⟨m,ρ,S,a,S1,E,R,e1,fun m1 H1 v A1 va=>⟨m1,S1,a,d,S',A1.rel,va,e,fun m3 H3 u A3 vd=>q m3 H3 u (A1.trans A3) vd⟩⟩
theorem Di{f:Bool->List D->Sto->Option (D × Sto)}{x:XA}{σ:L2.St}{H:Hp}{Q:VK}(h:tE K (r9 f x) σ H Q):tUn (rSq K f) (fq K x) σ H Q:=by
 obtain⟨m,ρ,S,d,S',E,R,e,q⟩:=h;obtain⟨ds,S1,e1,e⟩:=aa e;exact⟨m,ρ,S,ds,S1,E,R,e1,fun m1 H1 a vs A1 sq _ _ _ vd=>⟨m1,S1,false,ds,a,vs,d,S',A1.rel,rfl,show SqL K H1 a vs from SqL.of sq,vd,e,fun m3 H3 u A3 vd=>q m3 H3 u (A1.trans A3) vd⟩⟩
noncomputable def se(i:Nat):XE:=fun ρ S=>match ρ[i]? with
 |some (some d)=>some (d,S)
 |_=>none
noncomputable def xC(d:D):XE:=fun _ S=>some (d,S)
theorem Dj{i:Nat}{σ:L2.St}{H:Hp}{Q:VK}(h:tE K (se i) σ H Q):Cr i σ H Q:=by
 obtain⟨m,ρ,S,d,S',E,R,e,q⟩:=h;unfold se at e;cases hr:ρ[i]? with
 |none=>rw[hr] at e;cases e
 |some o=>
  rw[hr] at e;cases o with
  |none=>cases e
  |some d'=>
   cases e;obtain⟨v,e1,vd⟩:=E.at_ i d hr;exact⟨v,e1,q m H v (Aft.refl R) vd⟩
theorem uw{v:V}{d:D}{σ:L2.St}{H:Hp}{Q:VK}(hv:∀m H,VD K m H d v)(h:tE K (xC d) σ H Q):tC v σ H Q:=by
 obtain⟨m,ρ,S,d',S',E,R,e,q⟩:=h;cases e;exact q m H v (Aft.refl R) (hv m H)
theorem lg:VD K m H .non .non:=by rw[VD]
theorem bH{b:Bool}:VD K m H (.bl b) (.bl b):=by rw[VD]
theorem bE{i:Int}:VD K m H (.int i) (.int i):=by rw[VD]
theorem iW{x:Str}:VD K m H (.str x) (.str x):=by rw[VD]
theorem lp{a:Addr}{vs:List V}{ds:List D}(h:H a=some (.tup vs))(q:VDs K m H ds vs):VD K m H (.tup ds) (.ref a):=by rw[VD];exact⟨a,vs,rfl,h,q⟩
theorem VD.ints{i:Int}{v:V}(h:VD K m H (.int i) v):v = .int i:=by rw[VD] at h;exact h
theorem VD.bls{i:Bool}{v:V}(h:VD K m H (.bl i) v):v = .bl i:=by rw[VD] at h;exact h
theorem VD.strs{i:Str}{v:V}(h:VD K m H (.str i) v):v = .str i:=by rw[VD] at h;exact h
theorem VD.nons{v:V}(h:VD K m H .non v):v = .non:=by rw[VD] at h;exact h
theorem VD.tups{ds:List D}{v:V}(h:VD K m H (.tup ds) v):∃a vs,v = .ref a/\H a=some (.tup vs)/\VDs K m H ds vs:=by rw[VD] at h;exact h
theorem VD.refs{n:Nat}{v:V}(h:VD K m H (.ref n) v):∃a,m[n]?=some a/\v = .ref a:=by rw[VD] at h;exact h
noncomputable def yI:XA:=fun _ S=>some ([],S)
noncomputable def qm(x:XE)(y:XA):XA:=fun ρ S=>bnd (x ρ S) fun a S1=>bnd (y ρ S1) fun as S2=>some (a::as,S2)
theorem Dk{σ:L2.St}{H:Hp}{Q:List V->Hp->Prop}(h:tAr K yI σ H Q):iC σ H Q:=by
 obtain⟨m,ρ,S,d',S',E,R,e,q⟩:=h;cases e;exact q m H [] (Aft.refl R) .nil
theorem yJ{x:XE}{y:XA}{σ:L2.St}{H:Hp}{Q:List V->Hp->Prop}(h:tAr K (qm x y) σ H Q):cJ (tE K x) (tAr K y) σ H Q:=by
 obtain⟨m,ρ,S,d',S',E,R,e,q⟩:=h;obtain⟨a,S1,e1,e⟩:=aa e;obtain⟨b,S2,e2,e⟩:=aa e;cases e;refine⟨m,ρ,S,a,S1,E,R,e1,fun m1 H1 v A1 va=>⟨m1,ρ,S1,b,_,E.mono R A1.ext,A1.rel,e2,fun m2 H2 w A2 vb=>?_⟩⟩;exact q m2 H2 _ (A1.trans A2) (.cons (va.mono A1.rel A2.ext) vb)
noncomputable def ig(ds:List D)(S:Sto):Option (D × Sto):=if ds.length<=1000 then some (.tup ds,S) else none
theorem fZ{n:Nat}(h:n<=1000):n<=sizeLine:=by rw[Vp];omega
theorem f8{ds:List D}{vs:List V}{Q:VK}(R:Rel K m S H)(vd:VDs K m H ds vs)(q:∀m' H' u,Aft K m H S m' H'->VD K m' H' (.tup ds) u->Q u H'):∀p,H p=none->Q (.ref p) (upd H p (.tup vs)):=fun p hp=>
 q m _ _ ⟨Ext.beside R hp _,R.beside hp _⟩ (lp ao (vd.mono R (Ext.beside R hp _)))
theorem ls{ds:List D}{vs:List V}{Q:VK}(R:Rel K m S H)(vd:VDs K m H ds vs)(q:∀m' H' u,Aft K m H (S++[.lst ds]) m' H'->VD K m' H' (.ref S.length) u->Q u H'):∀p,H p=none->Q (.ref p) (upd H p (.lst vs)):=fun p hp=>by
 have x:=Ext.beside R hp (.lst vs);refine q (m++[p]) _ _ ⟨x.adopt hp,(R.beside hp _).adopt (R.no hp) ao (vd.mono R x)⟩ ?_;rw[VD];exact⟨p,by rw[Zg (by rw[R.len];exact Ze _),R.len,ZU];rfl,rfl⟩
theorem qo{ds:List D}{vs:List V}{Q:VK}(R:Rel K m S H)(vd:VDs K m H ds vs)(q:∀m' H' a vs,Aft K m H S m' H'->H' a=some (.lst vs)->a ∉ m'->(∀b,b ∈ m->b ≠ a)->H a=none->VDs K m' H' ds vs->Q (.ref a) H'):∀p,H p=none->Q (.ref p) (upd H p (.lst vs)):=fun p hp=>
 q m _ _ _ ⟨Ext.beside R hp _,R.beside hp _⟩ ao (R.no hp) (fun b hb z=>R.no hp (z ▸ hb)) hp (vd.mono R (Ext.beside R hp _))
theorem Dl{x:XA}{σ:L2.St}{H:Hp}{Q:VK}(h:tE K (ic ig x) σ H Q):G8 (tAr K x) σ H Q:=by
 obtain⟨m,ρ,S,d',S',E,R,e,q⟩:=h;obtain⟨a,S1,e1,e⟩:=aa e;unfold ig at e;split at e
 ·rename_i hl;cases e;exact⟨m,ρ,S,a,_,E,R,e1,fun m1 H1 vs A1 va=>⟨fZ (by rw[<-va.length];exact hl),f8 A1.rel va fun m' H' u A2 vu=>q m' H' u (A1.trans A2) vu⟩⟩
 ·cases e
noncomputable def j5(x:XA):XA:=fun ρ S=>bnd (x ρ S) fun ds S1=>if ds.length<=1000 then some (ds,S1) else none
theorem yK{x:XA}{σ:L2.St}{H:Hp}{Q:VK}(h:fq K (j5 x) σ H Q):G9 (tAr K x) σ H Q:=by
 obtain⟨m,ρ,S,ds,S',E,R,e,q⟩:=h;obtain⟨a,S1,e1,e⟩:=aa e;split at e
 ·rename_i hl;cases e;refine⟨m,ρ,S,_,_,E,R,e1,fun m1 H1 vs A1 va=>⟨fZ (by rw[<-va.length];exact hl),qo A1.rel va fun m' H' u us A2 sq n1 n2 n3 vu=>?_⟩⟩
  have hn:H u=none:=by
   cases e:H u with
   |none=>rfl
   |some o=>
    by_cases hm:u ∈ m
    ·exact absurd rfl (n2 u (A1.ext.pre.subset hm))
    ·have:=A1.ext.keep u o e hm;rw[this] at n3;cases n3
  exact q m' H' u us (A1.trans A2) sq n1 (fun b hb=>n2 b (A1.ext.pre.subset hb)) hn vu
 ·cases e
theorem dX{d:D}{v:V}{tu:Bool}{ds:List D}(R:Rel K m S H)(vd:VD K m H d v)(e:au d S=some (tu,ds)):∃a vs,v = .ref a/\SqB K tu H a vs/\VDs K m H ds vs:=by
 unfold au at e;cases d with
 |tup es=>
  cases e;obtain⟨a,vs,e,q,r⟩:=vd.tups;exact⟨a,vs,e,q,r⟩
 |ref n=>
  obtain⟨a,ha,ev⟩:=vd.refs;cases hs:ah S n with
  |none=>simp[hs] at e
  |some es=>
   simp[hs] at e;obtain⟨rfl,rfl⟩:=e;obtain⟨b,vs,hb,q,r⟩:=R.seq hs;rw[ha] at hb;cases hb;exact⟨a,vs,ev,q,r⟩
 |_=>cases e
theorem Dm{f:Bool->List D->Sto->Option (D × Sto)}{x:XE}{σ:L2.St}{H:Hp}{Q:VK}(h:tE K (sd f x) σ H Q):tUn (rSq K f) (tE K x) σ H Q:=by
 obtain⟨m,ρ,S,d,S',E,R,e,q⟩:=h;obtain⟨a,S1,e1,e⟩:=aa e;refine⟨m,ρ,S,a,S1,E,R,e1,fun m1 H1 v A1 va=>?_⟩;unfold aH at e;split at e
 ·rename_i r hi;obtain⟨b,vs,ev,sq,vds⟩:=dX (tu:=r.1) (ds:=r.2) A1.rel va hi;exact⟨m1,S1,r.1,r.2,b,vs,d,S',A1.rel,ev,sq,vds,e,fun m3 H3 u A3 vd=>q m3 H3 u (A1.trans A3) vd⟩
 ·cases e
noncomputable def cS(x:XA):XE:=fun ρ S=>bnd (x ρ S) fun ds S1=>some (.ref S1.length,S1++[.lst ds])
theorem mP{x:XA}{σ:L2.St}{H:Hp}{Q:VK}(h:tE K (cS x) σ H Q):fq K x σ H Q:=by
 obtain⟨m,ρ,S,d,S',E,R,e,q⟩:=h;obtain⟨ds,S1,e1,e⟩:=aa e;cases e;refine⟨m,ρ,S,ds,S1,E,R,e1,fun m1 H1 a vs A1 sq n1 n2 n3 vd=>?_⟩;refine q (m1++[a]) H1 _ ⟨⟨A1.ext.pre.trans (Yi _ _),A1.ext.keep,fun b hb nb=>?_⟩,A1.rel.adopt n1 sq vd⟩ ?_
 ·rcases Zu.mp hb with z |z
  ·exact A1.ext.new b z nb
  ·simp at z;subst z;exact n3
 ·rw[VD];exact⟨a,by rw[Zg (by rw[A1.rel.len];exact Ze _),A1.rel.len,ZU];rfl,rfl⟩
end
end Ev
namespace PySem.SeqAt
open AutoSeq1 (wpAny_loadPart')
open MeetsSeq MeetsSeq2 MeetsSeq3
theorem oy(l b:Addr)(items:Array Value)(n:Nat)(dd:Option Addr)(sl:Array (Option Value))(o:Obj)(hc:o.cls = .type "dict") :
  Meets (Builtin.«list.__ne__» ⟨[.ref l,.ref b],[]⟩) (fun _ R s=>s.heap.get? l=some { cls:=.type "list", dict:=dd,data:=.seq items n,slots:=sl }/\s.heap.get? b=some o/\R (.ok (.ret .notImplemented)) s):=
 .of_wp fun prog w A R s h=>by
  obtain⟨hp,g,d,tk,os⟩:=s;obtain⟨hl,hb,h⟩:=h;obtain⟨cls,d2,dt,s2⟩:=o;simp only at hc;subst hc;have f1:=F.sub_dict_list
  wp_walk using VR hl,VR hb
  exact⟨_,rfl,h⟩
theorem oz(l b:Addr)(items:Array Value)(n:Nat)(dd:Option Addr)(sl:Array (Option Value))(o:Obj)(hc:o.cls = .type "dict") :
  Meets (Builtin.«dict.__ne__» ⟨[.ref b,.ref l],[]⟩) (fun _ R s=>s.heap.get? l=some { cls:=.type "list", dict:=dd,data:=.seq items n,slots:=sl }/\s.heap.get? b=some o/\R (.ok (.ret .notImplemented)) s):=
 .of_wp fun prog w A R s h=>by
  obtain⟨hp,g,d,tk,os⟩:=s;obtain⟨hl,hb,h⟩:=h;obtain⟨cls,d2,dt,s2⟩:=o;simp only at hc;subst hc;have f1:=F.sub_list_dict
  wp_walk using VR hl,VR hb
  exact⟨_,rfl,h⟩
theorem dict_list{A:Around}{s:Shared}{l b:Addr}{items:Array Value}{o:Obj}(hb:s.heap.get? b=some o)(hc2:o.cls = .type "dict")(hl:s.heap.IsList l items)(hu:A.units < cLine):RcNeAt A s (.ref b) (.ref l) true:=fun prog w E Q h=>by
 obtain⟨⟨cls,dd,data,sl⟩,ho,hc,n,hd⟩:=id hl;simp only at hc hd;subst hc hd;have hne:b ≠ l:=fun e=>by subst e;rw[ho] at hb;cases hb;exact absurd hc2 (by simp)
 exact(rc_ne_decline_or (k:=false) ⟨_,hb,hc2⟩ ⟨_,ho,rfl⟩ (by decide) F.sub_list_dict F.slot_dict_ne X2
  (fun _ hq=>WZ F.slot_dict_ne ⟨_,hb,hc2⟩ F.entry_dict_ne (F.args_dict_ne_2 _ _) (oz l b items n dd sl o hc2) ⟨ho,hb,hq⟩)
  (fun _ hq=>WZ X2 ⟨_,ho,rfl⟩ F.entry_list_ne (F.args_list_ne_2 _ _) (oy l b items n dd sl o hc2) ⟨ho,hb,hq⟩)
  (fun _ hq=>wpAny_isSame_ref_other' hne hb ho (by simp) hq) (.inr hu) h)
end PySem.SeqAt
namespace Ev
open PySem PySem.Spec PyProof.Rows L2
noncomputable def eqL(f:D->D->Option Bool):List D->List D->Option Bool
 |[],[]=>some true
 |[],_::_=>some false
 |_::_,[]=>some false
 |x::xs,y::ys=>match f x y,eqL f xs ys with
  |some a,some b=>some (a && b)
  |_,_=>none
noncomputable def eqD:Nat->Sto->D->D->Option Bool
 |0,_,_,_=>none
 |n+1,S,x,y=>match x,y with
  |.non,.non=>some true
  |.bl a,.bl b=>some (a == b)
  |.int a,.int b=>some (a == b)
  |.str a,.str b=>some (a == b)
  |.bl a,.int b=>some ((if a then 1 else 0) == b)
  |.int a,.bl b=>some (a == (if b then 1 else 0))
  |.tup xs,.tup ys=>eqL (eqD n S) xs ys
  |.ref a,.ref b=>match ah S a,ah S b with
   |some xs,some ys=>if a=b then some true else if xs.length=ys.length then eqL (eqD n S) xs ys else some false
   |_,_=>none
  |.tup _,.ref b=>match ah S b with
   |some _=>some false
   |none=>none
  |.ref a,.tup _=>match ah S a with
   |some _=>some false
   |none=>none
  |.ref a,_=>match ah S a with
   |some _=>some false
   |none=>none
  |_,.ref a=>match ah S a with
   |some _=>some false
   |none=>none
  |_,_=>some false
section
variable {X:Cx} {K:Wu} {m:List Addr} {H:Hp} {S:Sto}
theorem mQ{f:D->D->Option Bool}:∀ {xs ys:List D} {b:Bool},eqL f xs ys=some b->∃g:Nat->Bool,(∀j x y,xs[j]?=some x->ys[j]?=some y->f x y=some (g j))/\b=((Zm (min xs.length ys.length)).all g && xs.length == ys.length)
 |[],[],b,h=>by simp[eqL] at h;exact⟨fun _=>true,fun j x y e=>by simp at e,by simp[<-h]⟩
 |[],_::_,b,h=>by simp[eqL] at h;exact⟨fun _=>true,fun j x y e=>by simp at e,by simp[<-h]⟩
 |_::_,[],b,h=>by simp[eqL] at h;exact⟨fun _=>true,fun j x y _ e=>by simp at e,by simp[<-h]⟩
 |x::xs,y::ys,b,h=>by
  simp only[eqL] at h;cases h1:f x y with
  |none=>simp[h1] at h
  |some a=>
   cases h2:eqL f xs ys with
   |none=>simp[h1,h2] at h
   |some c=>
    simp[h1,h2] at h;obtain⟨g,hg,hc⟩:=mQ h2;refine⟨fun j=>match j with |0=>a |j+1=>g j,fun j x' y' e1 e2=>?_,?_⟩
    ·cases j with
     |zero=>simp at e1 e2;subst e1 e2;exact h1
     |succ j=>simp at e1 e2;exact hg j x' y' e1 e2
    ·rw[<-h,hc];simp only[ZD,Nat.succ_min_succ,List.range_succ_eq_map,Z5,Yh];rw[Xp]
     congr 1
     rw[show(xs.length+1 == ys.length+1)=(xs.length == ys.length) by simp];rfl
theorem yL{pins:List (Addr × Obj)}{σ:L2.St}{s:Shared}{a:Addr}{xs ys:List V}(I:Inv X pins σ H s)(h1:H a=some (.tup xs))(h2:H a=some (.tup ys)):xs=ys:=by
 rw[h1] at h2;cases h2;rfl
theorem sg{m:List Addr}(nd:m.Nodup){i j:Nat}{a:Addr}(h1:m[i]?=some a)(h2:m[j]?=some a):i=j:=by
 obtain⟨p1,q1⟩:=Za.mp h1;obtain⟨p2,q2⟩:=Za.mp h2;exact(Ys nd).mp (q1.trans q2.symm)
theorem mR{pins:List (Addr × Obj)}{σ:L2.St}{s:Shared}(I:Inv X pins σ H s)(R:Rel X.K m S H):∀ (n:Nat) {x y:D} {v:V} {b:Bool},VD X.K m H x v->VD X.K m H y v->eqD n S x y=some b->b=true
 |0,_,_,_,_,_,_,h=>by simp[eqD] at h
 |n+1,x,y,v,b,h1,h2,h=>by
  have lists:∀ {xs ys:List D} {vs:List V} {b:Bool},VDs X.K m H xs vs->VDs X.K m H ys vs->eqL (eqD n S) xs ys=some b->b=true:=by
   intro xs
   induction xs with
   |nil=>
    intro ys vs b p q e;have l1:=p.length;have l2:=q.length;cases ys with
    |nil=>simp[eqL] at e;simp_all
    |cons _ _=>simp at l1 l2;omega
   |cons x xs ih=>
    intro ys vs b p q e;have l1:=p.length;have l2:=q.length;cases ys with
    |nil=>simp at l1 l2;omega
    |cons y ys=>
     rw[VDs] at p q;obtain⟨a,r,e1,p1,p2⟩:=p;obtain⟨a',r',e2,q1,q2⟩:=q;rw[e1] at e2;cases e2;simp only[eqL] at e;cases f1:eqD n S x y with
     |none=>simp[f1] at e
     |some c=>
      cases f2:eqL (eqD n S) xs ys with
      |none=>simp[f1,f2] at e
      |some d=>
       simp[f1,f2] at e;rw[<-e,mR I R n p1 q1 f1,ih p2 q2 f2];rfl
  cases x with
  |non=>cases h1.nons;cases y <;> simp[VD] at h2 <;> simp[eqD] at h <;> simp[h]
  |bl a=>cases h1.bls;cases y <;> simp[VD] at h2 <;> simp[eqD] at h <;> simp_all
  |int a=>cases h1.ints;cases y <;> simp[VD] at h2 <;> simp[eqD] at h <;> simp_all
  |str a=>cases h1.strs;cases y <;> simp[VD] at h2 <;> simp[eqD] at h <;> simp_all
  |tup xs=>
   obtain⟨a,vs,e,sq,p⟩:=h1.tups;subst e;cases y with
   |tup ys=>
    obtain⟨a',vs',e',sq',q⟩:=h2.tups;cases e';have:=yL I sq sq';subst this;simp only[eqD] at h;exact lists p q h
   |ref k=>
    obtain⟨a',ha,e'⟩:=h2.refs;cases e';have z:a ∈ m:=Zp ha;exact absurd z (R.notTup sq)
   |non=>cases h2.nons
   |bl _=>cases h2.bls
   |int _=>cases h2.ints
   |str _=>cases h2.strs
  |ref k=>
   obtain⟨a,ha,e⟩:=h1.refs;subst e;cases y with
   |ref k'=>
    obtain⟨a',ha',e'⟩:=h2.refs;cases e';have:=sg R.nd ha ha';subst this;simp only[eqD] at h;cases hs:ah S k with
    |none=>rw[hs] at h;cases h
    |some es=>rw[hs] at h;simp at h;exact h.symm ▸ rfl
   |tup ys=>
    obtain⟨a',vs',e',sq,q⟩:=h2.tups;cases e';have z:a ∈ m:=Zp ha;exact absurd z (R.notTup sq)
   |non=>cases h2.nons
   |bl _=>cases h2.bls
   |int _=>cases h2.ints
   |str _=>cases h2.strs
theorem lu{vs:List V}{its:List Value}{xs:List D}(p:VDs K m H xs vs)(r:aG vs its){j:Nat}(hj:j < its.toArray.size):∃x v,xs[j]?=some x/\VD K m H x v/\av v its.toArray[j]:=by
 have hj':j < its.length:=by simpa using hj
 have l1:=p.length;have l2:=r.length;obtain⟨v,hv,vd⟩:=p.get (i:=j) (d:=xs[j]'(by omega)) (gEG _);obtain⟨u,hu,ru⟩:=r.get hv;refine⟨_,v,gEG (by omega),vd,?_⟩;have e:its[j]?=some its[j]:=gEG hj';rw[e] at hu;cases hu
 simpa using ru
abbrev Dn(X:Cx)(m:List Addr)(H:Hp)(S:Sto)(s:Shared)(n:Nat):Prop:=∀ (A:Around) (x y:D) (v w:V) (u u':Value) (b:Bool),VD X.K m H x v->VD X.K m H y w->av v u->av w u'->eqD n S x y=some b->A.units+n < cLine->Wm A s u u' b
theorem mS{pins:List (Addr × Obj)}{σ:L2.St}{s:Shared}{n:Nat}(ih:Dn X m H S s n){A:Around}{xs ys:List D}{vs ws:List V}{i1 i2:List Value}{b:Bool}(p:VDs X.K m H xs vs)(q:VDs X.K m H ys ws)(r1:aG vs i1)(r2:aG ws i2)
  (h:eqL (eqD n S) xs ys=some b) (hu:A.units+(n+1) < cLine):∃g:Nat->Bool,(∀j (h1:j < i1.toArray.size) (h2:j < i2.toArray.size),Wm A.in1 s i1.toArray[j] i2.toArray[j] (g j))/\b=((Zm (min i1.toArray.size i2.toArray.size)).all g && i1.toArray.size == i2.toArray.size):=by
 obtain⟨g,hg,hb⟩:=mQ h;have l1:i1.toArray.size=xs.length:=by rw[Zi,<-r1.length,<-p.length]
 have l2:i2.toArray.size=ys.length:=by rw[Zi,<-r2.length,<-q.length]
 refine⟨g,fun j h1 h2=>?_,by rw[hb,l1,l2]⟩;obtain⟨x,v,e1,v1,ru1⟩:=lu p r1 h1;obtain⟨y,w,e2,v2,ru2⟩:=lu q r2 h2;exact ih _ _ _ _ _ _ _ _ v1 v2 ru1 ru2 (hg j x y e1 e2) (by show A.units+1+n < cLine;omega)
theorem ux{n:Nat}:(Zm n).all (fun _=>true)=true:=by simp
theorem uy{pins:List (Addr × Obj)}{σ:L2.St}{s:Shared}(I:Inv X pins σ H s)(R:Rel X.K m S H){n:Nat}(ih:Dn X m H S s n){A:Around}{x y:D}{a a':Addr}{b:Bool}(hx:VD X.K m H x (.ref a))(hy:VD X.K m H y (.ref a'))(h:eqD (n+1) S x y=some b)(hu:A.units+(n+1) < cLine) :
  Wn A s (.ref a) (.ref a') b/\Wo A s (.ref a) (.ref a') (!b):=by
 have hu0:A.units < cLine:=by omega
 cases x with
 |non=>cases hx.nons
 |bl _=>cases hx.bls
 |int _=>cases hx.ints
 |str _=>cases hx.strs
 |tup xs=>
  obtain⟨_,vs,e,sq,p⟩:=hx.tups;cases e;obtain⟨i1,r1,t1,_⟩:=I.tuple (.of sq);cases y with
  |non=>cases hy.nons
  |bl _=>cases hy.bls
  |int _=>cases hy.ints
  |str _=>cases hy.strs
  |tup ys=>
   obtain⟨_,ws,e,sq',q⟩:=hy.tups;cases e;obtain⟨i2,r2,t2,_⟩:=I.tuple (.of sq');simp only[eqD] at h;obtain⟨g,hg,hb⟩:=mS (pins:=pins) (σ:=σ) ih p q r1 r2 h hu;rw[hb];exact⟨SeqAt.RcAt.tuples t1 t2 hu0 hg,PySem.SeqAt.RcNeAt.tuples t1 t2 hu0 hg⟩
  |ref k=>
   simp only[eqD] at h;cases hs:ah S k with
   |none=>rw[hs] at h;cases h
   |some es=>
    rw[hs] at h;cases h;obtain⟨b',ws,hb,sq',q⟩:=R.seq hs;obtain⟨c,hc,ec⟩:=hy.refs;cases ec;rw[hb] at hc;cases hc;obtain⟨i2,r2,t2,_⟩:=I.list sq';exact⟨SeqAt.RcAt.tuple_list t1 t2.isList hu0,PySem.SeqAt.RcNeAt.tuple_list t1 t2.isList hu0⟩
 |ref k=>
  obtain⟨c,hc,ec⟩:=hx.refs;cases ec;cases y with
  |non=>cases hy.nons
  |bl _=>cases hy.bls
  |int _=>cases hy.ints
  |str _=>cases hy.strs
  |tup ys=>
   obtain⟨_,ws,e,sq',q⟩:=hy.tups;cases e;obtain⟨i2,r2,t2,_⟩:=I.tuple (.of sq');simp only[eqD] at h;cases hs:ah S k with
   |none=>rw[hs] at h;cases h
   |some es=>
    rw[hs] at h;cases h;obtain⟨b',vs,hb,sq,p⟩:=R.seq hs;rw[hb] at hc;cases hc;obtain⟨i1,r1,t1,_⟩:=I.list sq;exact⟨SeqAt.RcAt.list_tuple t1.isList t2 hu0,PySem.SeqAt.RcNeAt.list_tuple t1.isList t2 hu0⟩
  |ref k'=>
   obtain⟨c',hc',ec'⟩:=hy.refs;cases ec';simp only[eqD] at h;cases hs:ah S k with
   |none=>rw[hs] at h;cases h
   |some es=>
    cases hs':ah S k' with
    |none=>rw[hs,hs'] at h;cases h
    |some es'=>
     rw[hs,hs'] at h;dsimp only at h;obtain⟨b1,vs,hb,sq,p⟩:=R.seq hs;rw[hb] at hc;cases hc;obtain⟨b2,ws,hb',sq',q⟩:=R.seq hs';rw[hb'] at hc';cases hc';obtain⟨i1,r1,t1,_⟩:=I.list sq;obtain⟨i2,r2,t2,_⟩:=I.list sq';split at h
     ·rename_i hk;subst hk;rw[hb] at hb';cases hb';cases h;have z:=SeqAt.RcAt.lists (e:=fun _=>true) t1.isList t1.isList rfl hu0 fun j h1 h2=>SeqAt.EqAt.same _;have z':=PySem.SeqAt.RcNeAt.lists (e:=fun _=>true) t1.isList t1.isList rfl hu0 fun j h1 h2=>SeqAt.EqAt.same _;rw[ux] at z z';exact⟨z,z'⟩
     ·have l1:i1.toArray.size=es.length:=by rw[Zi,<-r1.length,<-p.length]
      have l2:i2.toArray.size=es'.length:=by rw[Zi,<-r2.length,<-q.length]
      split at h
      ·rename_i hl;obtain⟨g,hg,hb3⟩:=mS (pins:=pins) (σ:=σ) ih p q r1 r2 h hu;have hsz:i1.toArray.size=i2.toArray.size:=by rw[l1,l2,hl]
       rw[hb3,<-hsz,Nat.min_self,beq_self_eq_true,YJ];exact⟨SeqAt.RcAt.lists t1.isList t2.isList hsz hu0 hg,PySem.SeqAt.RcNeAt.lists t1.isList t2.isList hsz hu0 hg⟩
      ·rename_i hl;cases h;have hsz:(i1.toArray.size != i2.toArray.size)=true:=by rw[l1,l2];simpa using hl
       exact⟨SeqAt.RcAt.lists_lengths t1.isList t2.isList hsz hu0,PySem.SeqAt.RcNeAt.lists_lengths t1.isList t2.isList hsz hu0⟩
theorem aP{pins:List (Addr × Obj)}{σ:L2.St}{s:Shared}(I:Inv X pins σ H s)(R:Rel X.K m S H){k:Nat}{v:V}{es:List D}(h:VD X.K m H (.ref k) v)(hs:ah S k=some es):∃a i,v = .ref a/\s.heap.IsList a i:=by
 obtain⟨c,hc,ec⟩:=h.refs;obtain⟨b1,vs,hb,sq,p⟩:=R.seq hs;rw[hb] at hc;cases hc;obtain⟨i1,r1,t1,_⟩:=I.list sq;exact⟨_,_,ec,t1.isList⟩
theorem bq{pins:List (Addr × Obj)}{σ:L2.St}{s:Shared}(I:Inv X pins σ H s){v:V}{es:List D}(h:VD X.K m H (.tup es) v):∃a i,v = .ref a/\s.heap.IsTuple a i:=by
 obtain⟨a,vs,e,sq,p⟩:=h.tups;obtain⟨i1,r1,t1,_⟩:=I.tuple (.of sq);exact⟨_,_,e,t1⟩
theorem lv{pins:List (Addr × Obj)}{σ:L2.St}{s:Shared}(I:Inv X pins σ H s)(R:Rel X.K m S H):∀n,Dn X m H S s n
 |0=>fun A x y v w u u' b h1 h2 r1 r2 h _=>by simp[eqD] at h
 |n+1=>fun A x y v w u u' b h1 h2 r1 r2 h hu=>by
  have hu0:A.units < cLine:=by omega
  have seq:∀ {a a':Addr},v = .ref a->w = .ref a'->Wm A s u u' b:=by
   intro a a' e e';subst e e';cases r1;cases r2;by_cases z:a=a'
   ·subst z;have:=mR I R (n+1) h1 h2 h;subst this;exact SeqAt.EqAt.same _
   ·exact SeqAt.EqAt.of_refs z (uy I R (lv I R n) h1 h2 h hu).1
  cases x with
  |non=>
   cases h1.nons;cases r1;cases y with
   |non=>cases h2.nons;cases r2;simp[eqD] at h;subst h;exact SeqAt.EqAt.same _
   |bl j=>cases h2.bls;cases r2;simp[eqD] at h;subst h;exact SeqAt.EqAt.none_bool _
   |int j=>cases h2.ints;obtain⟨t,rfl⟩:=r2;simp[eqD] at h;subst h;exact SeqAt.EqAt.none_int _ _
   |str j=>cases h2.strs;obtain⟨t,rfl⟩:=r2;simp[eqD] at h;subst h;exact SeqAt.EqAt.none_str _ _
   |tup ys=>obtain⟨a,i,e,l⟩:=bq I h2;subst e;cases r2;simp[eqD] at h;subst h;exact SeqAt.EqAt.none_tuple l hu0
   |ref k=>
    simp only[eqD] at h;cases hs:ah S k with
    |none=>rw[hs] at h;cases h
    |some es=>rw[hs] at h;cases h;obtain⟨a,i,e,l⟩:=aP I R h2 hs;subst e;cases r2;exact SeqAt.EqAt.none_list l hu0
  |bl i=>
   cases h1.bls;cases r1;cases y with
   |non=>cases h2.nons;cases r2;simp[eqD] at h;subst h;exact SeqAt.EqAt.bool_none _
   |bl j=>cases h2.bls;cases r2;simp only[eqD] at h;cases h;exact SeqAt.EqAt.bool_bool _ _
   |int j=>cases h2.ints;obtain⟨t,rfl⟩:=r2;simp only[eqD] at h;cases h;exact SeqAt.EqAt.bool_int _ _ _
   |str j=>cases h2.strs;obtain⟨t,rfl⟩:=r2;simp[eqD] at h;subst h;exact SeqAt.EqAt.bool_str _ _ _
   |tup ys=>obtain⟨a,i,e,l⟩:=bq I h2;subst e;cases r2;simp[eqD] at h;subst h;exact SeqAt.EqAt.bool_tuple _ l hu0
   |ref k=>
    simp only[eqD] at h;cases hs:ah S k with
    |none=>rw[hs] at h;cases h
    |some es=>rw[hs] at h;cases h;obtain⟨a,i,e,l⟩:=aP I R h2 hs;subst e;cases r2;exact SeqAt.EqAt.bool_list _ l hu0
  |int i=>
   cases h1.ints;obtain⟨t1,rfl⟩:=r1;cases y with
   |non=>cases h2.nons;cases r2;simp[eqD] at h;subst h;exact SeqAt.EqAt.int_none _ _
   |bl j=>cases h2.bls;cases r2;simp only[eqD] at h;cases h;exact SeqAt.EqAt.int_bool _ _ _
   |int j=>cases h2.ints;obtain⟨t,rfl⟩:=r2;simp only[eqD] at h;cases h;exact SeqAt.EqAt.int_int _ _ _ _
   |str j=>cases h2.strs;obtain⟨t,rfl⟩:=r2;simp[eqD] at h;subst h;exact SeqAt.EqAt.int_str _ _ _ _
   |tup ys=>obtain⟨a,i,e,l⟩:=bq I h2;subst e;cases r2;simp[eqD] at h;subst h;exact SeqAt.EqAt.int_tuple _ _ l hu0
   |ref k=>
    simp only[eqD] at h;cases hs:ah S k with
    |none=>rw[hs] at h;cases h
    |some es=>rw[hs] at h;cases h;obtain⟨a,i,e,l⟩:=aP I R h2 hs;subst e;cases r2;exact SeqAt.EqAt.int_list _ _ l hu0
  |str i=>
   cases h1.strs;obtain⟨t1,rfl⟩:=r1;cases y with
   |non=>cases h2.nons;cases r2;simp[eqD] at h;subst h;exact SeqAt.EqAt.str_none _ _
   |bl j=>cases h2.bls;cases r2;simp[eqD] at h;subst h;exact SeqAt.EqAt.str_bool _ _ _
   |int j=>cases h2.ints;obtain⟨t,rfl⟩:=r2;simp[eqD] at h;subst h;exact SeqAt.EqAt.str_int _ _ _ _
   |str j=>cases h2.strs;obtain⟨t,rfl⟩:=r2;simp only[eqD] at h;cases h;exact SeqAt.EqAt.str_str _ _ _ _
   |tup ys=>obtain⟨a,i,e,l⟩:=bq I h2;subst e;cases r2;simp[eqD] at h;subst h;exact SeqAt.EqAt.str_tuple _ _ l hu0
   |ref k=>
    simp only[eqD] at h;cases hs:ah S k with
    |none=>rw[hs] at h;cases h
    |some es=>rw[hs] at h;cases h;obtain⟨a,i,e,l⟩:=aP I R h2 hs;subst e;cases r2;exact SeqAt.EqAt.str_list _ _ l hu0
  |tup xs=>
   obtain⟨a,i,e,l⟩:=bq I h1;subst e;cases r1;cases y with
   |non=>cases h2.nons;cases r2;simp[eqD] at h;subst h;exact SeqAt.EqAt.tuple_none l hu0
   |bl j=>cases h2.bls;cases r2;simp[eqD] at h;subst h;exact SeqAt.EqAt.tuple_bool _ l hu0
   |int j=>cases h2.ints;obtain⟨t,rfl⟩:=r2;simp[eqD] at h;subst h;exact SeqAt.EqAt.tuple_int _ _ l hu0
   |str j=>cases h2.strs;obtain⟨t,rfl⟩:=r2;simp[eqD] at h;subst h;exact SeqAt.EqAt.tuple_str _ _ l hu0
   |tup ys=>obtain⟨a',i',e',l'⟩:=bq I h2;exact seq rfl e'
   |ref k=>obtain⟨c,hc,ec⟩:=h2.refs;exact seq rfl ec
  |ref k=>
   obtain⟨c,hc,ec⟩:=h1.refs;cases y with
   |tup ys=>obtain⟨a',i',e',l'⟩:=bq I h2;exact seq ec e'
   |ref k=>obtain⟨c,hc,ec'⟩:=h2.refs;exact seq ec ec'
   |non=>
    simp only[eqD] at h;cases hs:ah S k with
    |none=>rw[hs] at h;cases h
    |some es=>rw[hs] at h;cases h;obtain⟨a,i,e,l⟩:=aP I R h1 hs;subst e;cases r1;cases h2.nons;cases r2;exact SeqAt.EqAt.list_none l hu0
   |bl j=>
    simp only[eqD] at h;cases hs:ah S k with
    |none=>rw[hs] at h;cases h
    |some es=>rw[hs] at h;cases h;obtain⟨a,i,e,l⟩:=aP I R h1 hs;subst e;cases r1;cases h2.bls;cases r2;exact SeqAt.EqAt.list_bool _ l hu0
   |int j=>
    simp only[eqD] at h;cases hs:ah S k with
    |none=>rw[hs] at h;cases h
    |some es=>rw[hs] at h;cases h;obtain⟨a,i,e,l⟩:=aP I R h1 hs;subst e;cases r1;cases h2.ints;obtain⟨t,rfl⟩:=r2;exact SeqAt.EqAt.list_int _ _ l hu0
   |str j=>
    simp only[eqD] at h;cases hs:ah S k with
    |none=>rw[hs] at h;cases h
    |some es=>rw[hs] at h;cases h;obtain⟨a,i,e,l⟩:=aP I R h1 hs;subst e;cases r1;cases h2.strs;obtain⟨t,rfl⟩:=r2;exact SeqAt.EqAt.list_str _ _ l hu0
theorem Hn{pins:List (Addr × Obj)}{σ:L2.St}{s:Shared}(I:Inv X pins σ H s)(R:Rel X.K m S H)(n:Nat){A:Around}{x y:D}{v w:V}{u u':Value}{b:Bool}(h1:VD X.K m H x v)(h2:VD X.K m H y w)(r1:av v u)(r2:av w u')(h:eqD (n+1) S x y=some b)(hu:A.units+(n+1) < cLine) :
  Wn A s u u' b/\Wo A s u u' (!b):=by
 have hu0:A.units < cLine:=by omega
 have seq:∀ {a a':Addr},v = .ref a->w = .ref a'->Wn A s u u' b/\Wo A s u u' (!b):=by
  intro a a' e e';subst e e';cases r1;cases r2;exact uy I R (lv I R n) h1 h2 h hu
 cases x with
 |non=>
  cases h1.nons;cases r1;cases y with
  |non=>cases h2.nons;cases r2;simp[eqD] at h;subst h;exact⟨SeqAt.RcAt.none_none,PySem.SeqAt.RcNeAt.none_none⟩
  |bl j=>cases h2.bls;cases r2;simp[eqD] at h;subst h;exact⟨SeqAt.RcAt.none_bool _,PySem.SeqAt.RcNeAt.none_bool _⟩
  |int j=>cases h2.ints;obtain⟨t2,rfl⟩:=r2;simp[eqD] at h;subst h;exact⟨SeqAt.RcAt.none_int _ _,PySem.SeqAt.RcNeAt.none_int _ _⟩
  |str j=>cases h2.strs;obtain⟨t2,rfl⟩:=r2;simp[eqD] at h;subst h;exact⟨SeqAt.RcAt.none_str _ _,PySem.SeqAt.RcNeAt.none_str _ _⟩
  |tup ys=>obtain⟨a,i,e,l⟩:=bq I h2;subst e;cases r2;simp[eqD] at h;subst h;exact⟨SeqAt.RcAt.none_tuple l hu0,PySem.SeqAt.RcNeAt.none_tuple l hu0⟩
  |ref k=>
   simp only[eqD] at h;cases hs:ah S k with
   |none=>rw[hs] at h;cases h
   |some es=>rw[hs] at h;cases h;obtain⟨a,i,e,l⟩:=aP I R h2 hs;subst e;cases r2;exact⟨SeqAt.RcAt.none_list l hu0,PySem.SeqAt.RcNeAt.none_list l hu0⟩
 |bl i=>
  cases h1.bls;cases r1;cases y with
  |non=>cases h2.nons;cases r2;simp[eqD] at h;subst h;exact⟨SeqAt.RcAt.bool_none _,PySem.SeqAt.RcNeAt.bool_none _⟩
  |bl j=>cases h2.bls;cases r2;simp only[eqD] at h;cases h;exact⟨SeqAt.RcAt.bool_bool _ _,PySem.SeqAt.RcNeAt.bool_bool _ _⟩
  |int j=>cases h2.ints;obtain⟨t2,rfl⟩:=r2;simp only[eqD] at h;cases h;exact⟨SeqAt.RcAt.bool_int _ _ _,PySem.SeqAt.RcNeAt.bool_int _ _ _⟩
  |str j=>cases h2.strs;obtain⟨t2,rfl⟩:=r2;simp[eqD] at h;subst h;exact⟨SeqAt.RcAt.bool_str _ _ _,PySem.SeqAt.RcNeAt.bool_str _ _ _⟩
  |tup ys=>obtain⟨a,i,e,l⟩:=bq I h2;subst e;cases r2;simp[eqD] at h;subst h;exact⟨SeqAt.RcAt.bool_tuple _ l hu0,PySem.SeqAt.RcNeAt.bool_tuple _ l hu0⟩
  |ref k=>
   simp only[eqD] at h;cases hs:ah S k with
   |none=>rw[hs] at h;cases h
   |some es=>rw[hs] at h;cases h;obtain⟨a,i,e,l⟩:=aP I R h2 hs;subst e;cases r2;exact⟨SeqAt.RcAt.bool_list _ l hu0,PySem.SeqAt.RcNeAt.bool_list _ l hu0⟩
 |int i=>
  cases h1.ints;obtain⟨t1,rfl⟩:=r1;cases y with
  |non=>cases h2.nons;cases r2;simp[eqD] at h;subst h;exact⟨SeqAt.RcAt.int_none _ _,PySem.SeqAt.RcNeAt.int_none _ _⟩
  |bl j=>cases h2.bls;cases r2;simp only[eqD] at h;cases h;exact⟨SeqAt.RcAt.int_bool _ _ _,PySem.SeqAt.RcNeAt.int_bool _ _ _⟩
  |int j=>cases h2.ints;obtain⟨t2,rfl⟩:=r2;simp only[eqD] at h;cases h;exact⟨SeqAt.RcAt.int_int _ _ _ _,PySem.SeqAt.RcNeAt.int_int _ _ _ _⟩
  |str j=>cases h2.strs;obtain⟨t2,rfl⟩:=r2;simp[eqD] at h;subst h;exact⟨SeqAt.RcAt.int_str _ _ _ _,PySem.SeqAt.RcNeAt.int_str _ _ _ _⟩
  |tup ys=>obtain⟨a,i,e,l⟩:=bq I h2;subst e;cases r2;simp[eqD] at h;subst h;exact⟨SeqAt.RcAt.int_tuple _ _ l hu0,PySem.SeqAt.RcNeAt.int_tuple _ _ l hu0⟩
  |ref k=>
   simp only[eqD] at h;cases hs:ah S k with
   |none=>rw[hs] at h;cases h
   |some es=>rw[hs] at h;cases h;obtain⟨a,i,e,l⟩:=aP I R h2 hs;subst e;cases r2;exact⟨SeqAt.RcAt.int_list _ _ l hu0,PySem.SeqAt.RcNeAt.int_list _ _ l hu0⟩
 |str i=>
  cases h1.strs;obtain⟨t1,rfl⟩:=r1;cases y with
  |non=>cases h2.nons;cases r2;simp[eqD] at h;subst h;exact⟨SeqAt.RcAt.str_none _ _,PySem.SeqAt.RcNeAt.str_none _ _⟩
  |bl j=>cases h2.bls;cases r2;simp[eqD] at h;subst h;exact⟨SeqAt.RcAt.str_bool _ _ _,PySem.SeqAt.RcNeAt.str_bool _ _ _⟩
  |int j=>cases h2.ints;obtain⟨t2,rfl⟩:=r2;simp[eqD] at h;subst h;exact⟨SeqAt.RcAt.str_int _ _ _ _,PySem.SeqAt.RcNeAt.str_int _ _ _ _⟩
  |str j=>cases h2.strs;obtain⟨t2,rfl⟩:=r2;simp only[eqD] at h;cases h;exact⟨SeqAt.RcAt.str_str _ _ _ _,PySem.SeqAt.RcNeAt.str_str _ _ _ _⟩
  |tup ys=>obtain⟨a,i,e,l⟩:=bq I h2;subst e;cases r2;simp[eqD] at h;subst h;exact⟨SeqAt.RcAt.str_tuple _ _ l hu0,PySem.SeqAt.RcNeAt.str_tuple _ _ l hu0⟩
  |ref k=>
   simp only[eqD] at h;cases hs:ah S k with
   |none=>rw[hs] at h;cases h
   |some es=>rw[hs] at h;cases h;obtain⟨a,i,e,l⟩:=aP I R h2 hs;subst e;cases r2;exact⟨SeqAt.RcAt.str_list _ _ l hu0,PySem.SeqAt.RcNeAt.str_list _ _ l hu0⟩
 |tup xs=>
  obtain⟨a,i,e,l⟩:=bq I h1;cases y with
  |non=>subst e;cases r1;cases h2.nons;cases r2;simp[eqD] at h;subst h;exact⟨SeqAt.RcAt.tuple_none l hu0,PySem.SeqAt.RcNeAt.tuple_none l hu0⟩
  |bl j=>subst e;cases r1;cases h2.bls;cases r2;simp[eqD] at h;subst h;exact⟨SeqAt.RcAt.tuple_bool _ l hu0,PySem.SeqAt.RcNeAt.tuple_bool _ l hu0⟩
  |int j=>subst e;cases r1;cases h2.ints;obtain⟨t2,rfl⟩:=r2;simp[eqD] at h;subst h;exact⟨SeqAt.RcAt.tuple_int _ _ l hu0,PySem.SeqAt.RcNeAt.tuple_int _ _ l hu0⟩
  |str j=>subst e;cases r1;cases h2.strs;obtain⟨t2,rfl⟩:=r2;simp[eqD] at h;subst h;exact⟨SeqAt.RcAt.tuple_str _ _ l hu0,PySem.SeqAt.RcNeAt.tuple_str _ _ l hu0⟩
  |tup ys=>obtain⟨a',i',e',l'⟩:=bq I h2;exact seq e e'
  |ref k=>obtain⟨c,hc,ec⟩:=h2.refs;exact seq e ec
 |ref k=>
  obtain⟨c,hc,ec⟩:=h1.refs;cases y with
  |tup ys=>obtain⟨a',i',e',l'⟩:=bq I h2;exact seq ec e'
  |ref k=>obtain⟨c,hc,ec'⟩:=h2.refs;exact seq ec ec'
  |non=>
   simp only[eqD] at h;cases hs:ah S k with
   |none=>rw[hs] at h;cases h
   |some es=>rw[hs] at h;cases h;obtain⟨a,i,e,l⟩:=aP I R h1 hs;subst e;cases r1;cases h2.nons;cases r2;exact⟨SeqAt.RcAt.list_none l hu0,PySem.SeqAt.RcNeAt.list_none l hu0⟩
  |bl j=>
   simp only[eqD] at h;cases hs:ah S k with
   |none=>rw[hs] at h;cases h
   |some es=>rw[hs] at h;cases h;obtain⟨a,i,e,l⟩:=aP I R h1 hs;subst e;cases r1;cases h2.bls;cases r2;exact⟨SeqAt.RcAt.list_bool _ l hu0,PySem.SeqAt.RcNeAt.list_bool _ l hu0⟩
  |int j=>
   simp only[eqD] at h;cases hs:ah S k with
   |none=>rw[hs] at h;cases h
   |some es=>rw[hs] at h;cases h;obtain⟨a,i,e,l⟩:=aP I R h1 hs;subst e;cases r1;cases h2.ints;obtain⟨t2,rfl⟩:=r2;exact⟨SeqAt.RcAt.list_int _ _ l hu0,PySem.SeqAt.RcNeAt.list_int _ _ l hu0⟩
  |str j=>
   simp only[eqD] at h;cases hs:ah S k with
   |none=>rw[hs] at h;cases h
   |some es=>rw[hs] at h;cases h;obtain⟨a,i,e,l⟩:=aP I R h1 hs;subst e;cases r1;cases h2.strs;obtain⟨t2,rfl⟩:=r2;exact⟨SeqAt.RcAt.list_str _ _ l hu0,PySem.SeqAt.RcNeAt.list_str _ _ l hu0⟩
noncomputable def eqS(x y:D)(S:Sto):Option (D × Sto):=(eqD 60 S x y).map fun b=>(.bl b,S)
noncomputable def dlD(S:Sto)(x y:D):Option Bool:=match x,y with
 |.ref a,.ref b=>match S[a]?,S[b]? with
  |some (.dic _ _),some (.lst _)=>some false
  |_,_=>none
 |_,_=>none
noncomputable def neD(S:Sto)(x y:D):Option Bool:=match eqD 60 S x y with
 |some b=>some b
 |none=>dlD S x y
noncomputable def neS(x y:D)(S:Sto):Option (D × Sto):=(neD S x y).map fun b=>(.bl (!b),S)
theorem qp{x y:D}{b:Bool}(h:eqD 60 S x y=some b):neS x y S=some (.bl (!b),S):=by unfold neS neD;rw[h];rfl
theorem Dp(hu:X.A.units+64 < cLine):OpR X (W5 .Eq) (rS X.K eqS):=by
 intro pins s σ H x y v u Q I rx ry h;obtain⟨m,S,a,b,d,S',R,va,vb,e,q⟩:=h;unfold eqS at e;cases he:eqD 60 S a b with
 |none=>rw[he] at e;cases e
 |some c=>
  rw[he] at e;cases e;exact(Hn I R 59 va vb rx ry he (by omega)).1 _ _ _ _ ⟨.bl c,H,I,rfl,q m H _ (Aft.refl R) bH⟩
theorem Ho{pins:List (Addr × Obj)}{σ:L2.St}{s:Shared}{A:Around}(I:Inv X pins σ H s)(R:Rel X.K m S H)(hu:A.units < cLine){x y:D}{v w:V}{u u':Value}{c:Bool}(h1:VD X.K m H x v)(h2:VD X.K m H y w)(r1:av v u)(r2:av w u')(h:dlD S x y=some c):Wo A s u u' (!c):=by
 cases x with
 |ref a=>
  cases y with
  |ref b=>
   unfold dlD at h;dsimp only at h;split at h
   ·rename_i ks ds es ha hb;cases h;obtain⟨a',i,e,l⟩:=aP (es:=es) I R h2 (by unfold ah;rw[hb]);subst e;cases r2;obtain⟨c,hc,ec⟩:=h1.refs;subst ec;cases r1;obtain⟨a2,ha2,vs,hv,_⟩:=R.ob _ _ ha;rw[hc] at ha2;cases ha2;obtain⟨_,_,xs,_,o,es',ep,g1,g2,_⟩:=(show aU X.prog X.w H s.heap c (.dK _) from I.hok c _ hv);exact PySem.SeqAt.dict_list g1 g2.1 l hu
   ·cases h
  |_=>cases h
 |_=>cases h
theorem Dq(hu:X.A.units+64 < cLine):OpR X (W5 .NotEq) (rS X.K neS):=by
 intro pins s σ H x y v u Q I rx ry h;obtain⟨m,S,a,b,d,S',R,va,vb,e,q⟩:=h;unfold neS neD at e;cases he:eqD 60 S a b with
 |none=>
  rw[he] at e;cases hd:dlD S a b with
  |none=>dsimp only at e;rw[hd] at e;cases e
  |some c=>
   dsimp only at e;rw[hd] at e;cases e;exact Ho I R (by omega) va vb rx ry hd _ _ _ _ ⟨.bl (!c),H,I,rfl,q m H _ (Aft.refl R) bH⟩
 |some c=>
  rw[he] at e;cases e;exact(Hn I R 59 va vb rx ry he (by omega)).2 _ _ _ _ ⟨.bl (!c),H,I,rfl,q m H _ (Aft.refl R) bH⟩
end
theorem gH:fillsNumberSlot (.type "tuple") "mul" = pure false:=
 PySem.fillsNumberSlot_seq (id := "tuple.__mul__") (r:=some (.builtin "tuple.__rmul__")) F.slot_tuple_mul.lookup (by decide +kernel) F.slot_tuple_rmul.lookup (by decide +kernel)
theorem lw:seqRepeat? (.type "tuple")=pure (some (.builtin "tuple.__mul__")):=by
 unfold seqRepeat?;rw[Vn (T := "tuple") (name := "__mul__") (id := "tuple.__mul__") F.slot_tuple_mul.lookup (by decide +kernel),Vn (T := "tuple") (name := "__rmul__") (id := "tuple.__rmul__") F.slot_tuple_rmul.lookup (by decide +kernel)];rfl
theorem iX(a:Int)(t:Tok)(l:Addr)(items:Array Value)(n:Nat)(dd:Option Addr)(sl:Array (Option Value)) :
  Meets (Builtin.«int.__rmul__» ⟨[.int a t,.ref l],[]⟩) (fun _ R s=>s.heap.get? l=some { cls:=.type "tuple", dict:=dd,data:=.seq items n,slots:=sl }/\R (.ok (.ret Value.notImplemented)) s):=
 .of_wp fun prog w A R s h=>by
  obtain⟨hp,g,d,tk,os⟩:=s;obtain⟨hl,h⟩:=h
  wp_walk
  exact⟨_,rfl,h⟩
theorem si(l:Addr)(items:Array Value)(n:Nat)(dd:Option Addr)(sl:Array (Option Value))(x:Int)(u:Tok)(h2:2<=x)(h3:x<=1000)(hne:items.isEmpty=false)(hz:items.size * x.toNat<=1000) :
  Meets (Builtin.«tuple.__mul__» ⟨[.ref l,.int x u],[]⟩) (fun _ R s=>s.heap.get? l=some { cls:=.type "tuple", dict:=dd,data:=.seq items n,slots:=sl }/\R (.ok (.ret (Value.ref s.heap.objs.size))) { s with heap:=s.heap.push { cls:=Value.type "tuple", data:=Data.seq (YB (fun x1 x2=>x1++x2) #[] (Zj x.toNat items)) },toks:=s.toks }):=
 .of_wp fun prog w A R s h=>by
  obtain⟨hp,g,d,tk,os⟩:=s;obtain⟨hl,h⟩:=h;have c1:(decide (x < -(2 ^ 63)) || decide (x ≥ 2 ^ 63))=false:=by simp;omega
  have c2:(items.isEmpty || (x == 1))=false:=by rw[hne];simp;omega
  have c3:(decide (x<=0) || items.isEmpty)=false:=by rw[hne];simp;omega
  have e0:(items.size:Int) * x=((items.size * x.toNat:Nat):Int):=by
   rw[Int.natCast_mul,Int.toNat_of_nonneg (by omega)]
  have c4:¬ (items.size:Int) * x > (2 ^ 63 - 1) / 8:=by rw[e0];omega
  have c5:Builtin.Tuple.tupleTooMany ((items.size:Int) * x)=false:=by
   unfold Builtin.Tuple.tupleTooMany;rw[e0,Vp];exact decide_eq_false (by omega)
  wp_walk
  refine VP (decide_eq_false (by rw[c1];exact Zb)) ?_;refine VF (wpAny_tupleItemsOf hl rfl ?_);refine VP (decide_eq_false (by rw[c2];exact Zb)) ?_;refine VP (decide_eq_false (by rw[c3];exact Zb)) ?_;dsimp only;rw[if_neg c4];refine VP (decide_eq_false (by rw[c5];exact Zb)) ?_
  have hsz:(YB (fun x1 x2=>x1++x2) #[] (Zj x.toNat items)).size<=sizeLine:=by
   have e1:=eO items.toList x.toNat [];rw[Yv] at e1;have e2:items.toList.toArray=items:=by simp
   rw[e2] at e1;rw[e1,Zi,kP,Vp];have:items.toList.length=items.size:=by simp
   rw[this,Y9];omega
  wp_walk
  exact⟨_,rfl,h⟩
section
variable {X:Cx}
def Hq(K:Wu):R2:=fun x y H Q=>∃l k xs,x = .ref l/\y = .int k/\H l=some (.tup xs)/\2<=k/\k<=1000/\xs ≠ []/\xs.length * k.toNat<=1000/\∀p,H p=none->Q (.ref p) (upd H p (.tup (Zj k.toNat xs).flatten))
theorem yM:OpR X (WV .Mult) (Hq X.K):=by
 intro pins s σ H x y v u Q I rx ry h;obtain⟨l,k,xs,rfl,rfl,hH,h1,h2,hne,hz,q⟩:=h;cases rx;obtain⟨t,rfl⟩:=ry;obtain⟨its,r,⟨o,e,hc,n,hd⟩,_⟩:=I.tuple (SqT.of hH);obtain⟨oc,od,da,sl⟩:=o;dsimp only at hc hd;subst hc hd;have hl:=r.length
 have hnew:YB (fun x1 x2=>x1++x2) #[] (Zj k.toNat its.toArray)=(Zj k.toNat its).flatten.toArray:=by
  have:=eO its k.toNat [];rw[Yv] at this;exact this
 have hie:its.toArray.isEmpty=false:=by
  cases its with
  |nil=>exact absurd (Z3.mp (by rw[hl];rfl)) hne
  |cons _ _=>rfl
 refine VE (T := "tuple") (U := "int") (by decide) ⟨_,e,rfl⟩ (fun s'=>Vz s' k t) gH F.fills_int_mul XY lw F.slot_int_index.lookup
  (WZ XY (Vz s k t) F.entry_int_rmul (F.args_int_rmul_2 _ _) (iX k t l its.toArray n od sl)
   ⟨e,rfl,⟨_,e,rfl⟩,WZ F.slot_tuple_mul ⟨_,e,rfl⟩ F.entry_tuple_mul (F.args_tuple_mul_2 _ _) (si l its.toArray n od sl k t h1 h2 hie (by rw[Zi,<-hl];exact hz)) ⟨e,?_⟩⟩)
 rw[hnew];refine⟨.ref s.heap.objs.size,_,I.laid (t':=s.toks) (o:=.tup (Zj k.toNat xs).flatten) (fun b ob q=>Zl _ q) (Ze _) ?_,rfl,q _ I.fresh⟩;exact⟨by rw[kP,Y9];exact fZ hz,_,r.rep k.toNat,kE.new _ _⟩
end
noncomputable def Dt(a b:Nat)(S:Sto):Option (D × Sto):=match S[a]? with
 | some (.lst xs)=>(match S[b]? with
  |some (.lst ys)=>if xs.length+ys.length<=100000 then some (.ref S.length,S++[.lst (xs++ys)]) else none
  | _=>none)
 |_=>none
noncomputable def ij:D->D->Sto->Option (D × Sto)
 |.int i,.int j,S=>some (.int (i+j),S)
 |.tup xs,.tup ys,S=>if xs.length+ys.length<=1000 then some (.tup (xs++ys),S) else none
 |.ref a,.ref b,S=>Dt a b S
 |.str x,.str y,S=>if x.length+y.length<=100000 then some (.str (x++y),S) else none
 |_,_,_=>none
noncomputable def Hr:D->D->Sto->Option (D × Sto)
 |.int i,.int j,S=>some (.int (i - j),S)
 |_,_,_=>none
noncomputable def f9(i j:Int):Bool:=(decide (-(2 ^ 64) < i) && decide (i < 2 ^ 64)) || (decide (-(2 ^ 64) < j) && decide (j < 2 ^ 64))
noncomputable def jL:D->D->Sto->Option (D × Sto)
 |.int i,.int j,S=>if f9 i j=true then some (.int (i * j),S) else none
 | .ref n,.int k,S=>(match S[n]? with
  |some (.lst xs)=>if 0<=k/\xs.length * k.toNat<=1000/\k<=1000 then some (.ref S.length,S++[.lst (Zj k.toNat xs).flatten]) else none
  | _=>none)
 |.tup xs,.int k,S=>if (2<=k/\k<=1000)/\(!xs.isEmpty)=true/\xs.length * k.toNat<=1000 then some (.tup (Zj k.toNat xs).flatten,S) else none
 |_,_,_=>none
noncomputable def Du:D->D->Sto->Option (D × Sto)
 |.int i,.int j,S=>if 0 < j then some (.int (i % j),S) else none
 |_,_,_=>none
noncomputable def uz:D->D->Sto->Option (D × Sto)
 |.int i,.int j,S=>if 0 < j/\j < 1237940039285380274899124224 then some (.int (i / j),S) else none
 |_,_,_=>none
noncomputable def Dv:D->D->Sto->Option (D × Sto)
 |.int i,.int j,S=>if 0<=j/\j<=1000000/\i.natAbs < 2 ^ 64 then some (.int (i ^ j.toNat),S) else none
 |_,_,_=>none
inductive BOp where |add |sub |mul |mod |fdiv |pow
noncomputable def bI:BOp->D->D->Sto->Option (D × Sto)
 |.add=>ij |.sub=>Hr |.mul=>jL |.mod=>Du |.fdiv=>uz |.pow=>Dv
noncomputable def BOp.op:BOp->Wa
 |.add=>.Add |.sub=>.Sub |.mul=>.Mult |.mod=>.Mod |.fdiv=>.FloorDiv |.pow=>.Pow
section
variable {X:Cx} {K:Wu} {m:List Addr} {H:Hp} {S:Sto}
theorem eY{op:Wa}{f:D->D->Sto->Option (D × Sto)}{C:Int->Int->Prop}{g:Int->Int->Int}(ho:OpR X (WV op) (rI C fun i j=>.int (g i j)))
  (hf:∀a b S d S',f a b S=some (d,S')->∃i j,a = .int i/\b = .int j/\C i j/\d = .int (g i j)/\S'=S):OpR X (WV op) (rS X.K f):=by
 refine OpR.imp ho fun x y H Q h=>?_;obtain⟨m,S,a,b,d,S',R,va,vb,e,q⟩:=h;obtain⟨i,j,rfl,rfl,c,rfl,rfl⟩:=hf _ _ _ _ _ e;exact⟨i,j,va.ints,vb.ints,c,q m H _ (Aft.refl R) bE⟩
theorem oB:OpR X (WV .Add) (fun x y H Q=>∃m S xs ys,Rel X.K m S H/\VD X.K m H (.tup xs) x/\VD X.K m H (.tup ys) y/\xs.length+ys.length<=1000/\∀m' H' u,Aft X.K m H S m' H'->VD X.K m' H' (.tup (xs++ys)) u->Q u H'):=by
 refine OpR.imp yq fun x y H Q h=>?_;obtain⟨m,S,xs,ys,R,va,vb,hl,q⟩:=h;obtain⟨a,vs,rfl,sa,da⟩:=va.tups;obtain⟨b,ws,rfl,sb,db⟩:=vb.tups;have l1:=da.length;have l2:=db.length;refine⟨a,b,vs,ws,rfl,rfl,.of sa,.of sb,fZ (by omega),fun e=>?_,fun _ e=>?_,fun _ _=>f8 R (da.append db) q⟩
 ·subst e;have e:xs=[]:=Z3.mp (by simpa using l1);subst e;exact q m H _ (Aft.refl R) vb
 ·subst e;have e:ys=[]:=Z3.mp (by simpa using l2);subst e;rw[ZS] at q;exact q m H _ (Aft.refl R) va
theorem yN:OpR X (WV .Add) (rS X.K ij):=by
 refine OpR.imp (OpR.or CG (OpR.or oB (OpR.or nX n8))) fun x y H Q h=>?_;obtain⟨m,S,a,b,d,S',R,va,vb,e,q⟩:=h;cases a with
 |int i=>
  cases b with
  |int j=>cases e;exact .inl ⟨i,j,va.ints,vb.ints,q m H _ (Aft.refl R) bE⟩
  |_=>simp[ij] at e
 |tup xs=>
  cases b with
  |tup ys=>
   simp only[ij] at e;split at e
   ·rename_i hl;cases e;exact .inr (.inl ⟨m,S,xs,ys,R,va,vb,hl,q⟩)
   ·cases e
  |_=>simp[ij] at e
 |str i=>
  cases b with
  |str j=>
   simp only[ij] at e;split at e
   ·rename_i hl;cases e;exact .inr (.inr (.inl ⟨i,j,va.strs,vb.strs,by rw[Vp];omega,q m H _ (Aft.refl R) iW⟩))
   ·cases e
  |_=>simp[ij] at e
 |ref i=>
  cases b with
  |ref j=>
   simp only[ij,Dt] at e;split at e
   ·rename_i xs hx;split at e
    ·rename_i ys hy;split at e
     ·rename_i hl;cases e;obtain⟨a,vs,ha,hH,q1⟩:=R.lst hx;obtain⟨c,ws,hc,hG,q2⟩:=R.lst hy;obtain⟨a',ha',e1⟩:=va.refs;obtain⟨c',hc',e2⟩:=vb.refs;rw[ha] at ha';cases ha';rw[hc] at hc';cases hc';exact .inr (.inr (.inr ⟨a,c,vs,ws,e1,e2,hH,hG,by rw[Vp,<-q1.length,<-q2.length];omega,ls R (q1.append q2) q⟩))
     ·cases e
    ·cases e
   ·cases e
  |_=>simp[ij] at e
 |_=>cases b <;> simp[ij] at e
theorem lx{ds:List D}{vs:List V}(h:VDs K m H ds vs):∀n:Nat,VDs K m H (Zj n ds).flatten (Zj n vs).flatten
 |0=>by rw[Y3,Y3,Xf,Xf,VDs]
 |n+1=>by rw[ZY,ZY,Yb,Yb];exact h.append (lx h n)
theorem yO:OpR X (WV .Mult) (rS X.K jL):=by
 refine OpR.imp (OpR.or C0 (OpR.or CJ yM)) fun x y H Q h=>?_;obtain⟨m,S,a,b,d,S',R,va,vb,e,q⟩:=h;cases a with
 |int i=>
  cases b with
  |int j=>
   simp only[jL] at e;split at e
   ·rename_i hc;cases e;simp only[f9,YT,bAE,decide_eq_true_eq] at hc;exact .inr (.inl ⟨i,j,va.ints,vb.ints,hc,q m H _ (Aft.refl R) bE⟩)
   ·cases e
  |_=>simp[jL] at e
 |ref n=>
  cases b with
  |int k=>
   simp only[jL] at e;split at e
   ·rename_i xs hx;split at e
    ·rename_i hc;cases e;obtain⟨l,vs,hl,hH,vd⟩:=R.lst hx;obtain⟨l',hl',e1⟩:=va.refs;rw[hl] at hl';cases hl';exact .inl ⟨l,k,vs,e1,vb.ints,hH,by omega,by omega,by rw[Vp,<-vd.length];omega,ls R (lx vd k.toNat) q⟩
    ·cases e
   ·cases e
  |_=>simp[jL] at e
 |tup xs=>
  cases b with
  |int k=>
   simp only[jL] at e;split at e
   ·rename_i hc;cases e;obtain⟨l,vs,rfl,hH,vd⟩:=va.tups;have hl:=vd.length;refine .inr (.inr ⟨l,k,vs,rfl,vb.ints,hH,hc.1.1,hc.1.2,fun z=>?_,by rw[<-hl];exact hc.2.2,f8 R (lx vd k.toNat) q⟩);subst z;have:xs=[]:=Z3.mp hl;subst this;exact absurd hc.2.1 (by simp)
   ·cases e
  |_=>simp[jL] at e
 |_=>cases b <;> simp[jL] at e
theorem uA:OpR X (WV .FloorDiv) (rI (fun _ j=>0 < j/\j < 1237940039285380274899124224) fun i j=>.int (i / j)):=opI fun i j _ _ _ _ _ hc q=>by
 have h1:(0:Int) < j:=hc.1;have h2:j < 1237940039285380274899124224:=hc.2
 exact floordiv_int (by omega) (by rw[Int.fdiv_eq_ediv_of_nonneg i (by omega)];exact q) (.inl (PyProof.noPylong_of_log2 (by
  have h0:j.natAbs ≠ 0:=by omega
  have:j.natAbs.log2 < 90:=(Xw h0).mpr (by omega);omega)))
theorem yP(o:BOp):OpR X (WV o.op) (rS X.K (bI o)):=by
 cases o with
 |add=>exact yN
 |sub=>
  refine eY (C:=fun _ _=>True) (g:=fun i j=>i - j) (OpR.imp CH fun x y H Q ⟨i,j,a,b,_,q⟩=>⟨i,j,a,b,q⟩) fun a b S d S' e=>?_;cases a <;> cases b <;> simp[bI,Hr] at e;exact⟨_,_,rfl,rfl,trivial,e.1.symm,e.2.symm⟩
 |mul=>exact yO
 |mod=>
  refine eY CK fun a b S d S' e=>?_;cases a <;> cases b <;> simp[bI,Du] at e;rename_i i j;exact⟨i,j,rfl,rfl,e.1,e.2.1.symm,e.2.2.symm⟩
 |fdiv=>
  refine eY uA fun a b S d S' e=>?_;cases a <;> cases b <;> simp[bI,uz] at e;rename_i i j;exact⟨i,j,rfl,rfl,e.1,e.2.1.symm,e.2.2.symm⟩
 |pow=>
  refine eY CL fun a b S d S' e=>?_;cases a <;> cases b <;> simp[bI,Dv] at e;rename_i i j;exact⟨i,j,rfl,rfl,e.1,e.2.1.symm,e.2.2.symm⟩
noncomputable def sj(p:Int->Int->Bool):D->D->Sto->Option (D × Sto)
 |.int i,.int j,S=>some (.bl (p i j),S)
 |_,_,_=>none
noncomputable def BL:D->Bool
 |.non=>true
 |_=>false
noncomputable def isB(neg:Bool):D->D->Sto->Option (D × Sto)
 |d,.non,S=>some (.bl (neg != BL d),S)
 |.bl a,.bl b,S=>some (.bl (neg != (a == b)),S)
 |_,_,_=>none
noncomputable def cv:D->Bool
 |.non=>true |.bl _=>true |.int _=>true |.str _=>true |_=>false
noncomputable def eqF:D->D->Bool
 |.non,.non=>true
 |.bl a,.bl b=>a == b
 |.bl a,.int b=>(if a then 1 else 0) == b
 |.int a,.bl b=>a == (if b then 1 else 0)
 |.int a,.int b=>a == b
 |.str a,.str b=>a == b
 |_,_=>false
noncomputable def inF(x:D)(ds:List D):Bool:=ds.any fun y=>eqF y x
noncomputable def inD(x:D)(ds:List D)(S:Sto):Option Bool:=if (ds.all fun y=>(eqD 58 S y x).isSome)=true then some (ds.any fun y=>eqD 58 S y x == some true) else none
noncomputable def inS(neg:Bool)(x y:D)(S:Sto):Option (D × Sto):=match au y S with
 |some (_,ds)=>if cv x=true/\ds.all cv=true then some (.bl (neg != inF x ds),S) else (inD x ds S).map fun b=>(.bl (neg != b),S)
 |none=>none
inductive COp where |eq |ne |lt |le |gt |ge |is |isnot |isin |notin
noncomputable def az:COp->D->D->Sto->Option (D × Sto)
 |.eq=>eqS |.ne=>neS
 |.lt=>sj fun i j=>decide (i < j) |.le=>sj fun i j=>decide (i<=j) |.gt=>sj fun i j=>decide (j < i) |.ge=>sj fun i j=>decide (j<=i)
 |.is=>isB false |.isnot=>isB true |.isin=>inS false |.notin=>inS true
noncomputable def COp.op:COp->CmpOp
 |.eq=>.Eq |.ne=>.NotEq |.lt=>.Lt |.le=>.LtE |.gt=>.Gt |.ge=>.GtE |.is=>.Is |.isnot=>.IsNot |.isin=>.In |.notin=>.NotIn
theorem dj{op:CmpOp}{p:Int->Int->Bool}(ho:OpR X (W5 op) (rI0 fun i j=>.bl (p i j))):OpR X (W5 op) (rS X.K (sj p)):=by
 refine OpR.imp ho fun x y H Q h=>?_;obtain⟨m,S,a,b,d,S',R,va,vb,e,q⟩:=h;cases a <;> cases b <;> simp[sj] at e;obtain⟨rfl,rfl⟩:=e;exact⟨_,_,va.ints,vb.ints,q m H _ (Aft.refl R) bH⟩
theorem ip{x:D}{v:V}(h:VD K m H x v)(f:cv x=true):bC v=true:=by
 cases x <;> simp[cv] at f
 ·cases h.nons;rfl
 ·cases h.bls;rfl
 ·cases h.ints;rfl
 ·cases h.strs;rfl
theorem uB{x y:D}{v w:V}(h:VD K m H x v)(f:cv x=true)(h':VD K m H y w)(f':cv y=true):eqV v w=eqF x y:=by
 cases x <;> simp[cv] at f <;> cases y <;> simp[cv] at f' <;> simp[VD] at h h' <;> subst h <;> subst h' <;> rfl
theorem gb:∀ {ds:List D} {vs:List V},VDs K m H ds vs->ds.all cv=true->vs.all bC=true
 |[],vs,h,_=>by rw[VDs] at h;rw[h];rfl
 |d::ds,vs,h,f=>by
  rw[VDs] at h;obtain⟨x,r,rfl,p,q⟩:=h;rw[Z5,bAE] at f;rw[Z5,ip p f.1,gb q f.2];rfl
theorem oC{x:D}{v:V}(h:VD K m H x v)(f:cv x=true):∀ {ds:List D} {vs:List V},VDs K m H ds vs->ds.all cv=true->inV v vs=inF x ds
 |[],vs,h,_=>by rw[VDs] at h;rw[h];rfl
 |d::ds,vs,h',f'=>by
  rw[VDs] at h';obtain⟨y,r,rfl,p,q⟩:=h';rw[Z5,bAE] at f';have ih:=oC h f q f'.2;unfold inV inF at ih ⊢;rw[Yn,Yn,uB p f'.1 h f,ih]
theorem j6{x:D}{v:V}(h:VD K m H x v)(f:cv x=true):∀ {ds:List D} {vs:List V},VDs K m H ds vs->ds.all cv=true->(vs.countP fun z=>eqV z v)=ds.countP fun z=>eqF z x
 |[],vs,h,_=>by rw[VDs] at h;rw[h];rfl
 |d::ds,vs,h',f'=>by
  rw[VDs] at h';obtain⟨y,r,rfl,p,q⟩:=h';rw[Z5,bAE] at f';rw[Yt,Yt,uB p f'.1 h f,j6 h f q f'.2]
theorem gI{tu:Bool}{a:Addr}{vs:List V}(h:SqB K tu H a vs):SqL K H a vs\/SqT K H a vs:=by
 cases tu with
 |false=>exact .inl h
 |true=>exact .inr (.of h)
theorem ly{pins:List (Addr × Obj)}{σ:L2.St}{s:Shared}(I:Inv X pins σ H s)(R:Rel X.K m S H){x:D}{v:V}{u:Value}(vx:VD X.K m H x v)(rx:av v u){A:Around}(hu:A.units+58 < cLine){ds:List D}{vs:List V}{its:List Value}(vd:VDs X.K m H ds vs)(r:aG vs its){b:Bool}(h:inD x ds S=some b) :
  ∃e:Value->Bool,(∀w ∈ its,Wm A s w u (e w))/\its.any e=b:=by
 unfold inD at h;split at h
 ·rename_i hs;cases h;rw[Zk] at hs
  have at_:∀ (i:Nat) w,its[i]?=some w->∃y v',ds[i]?=some y/\VD X.K m H y v'/\av v' w:=fun i w hw=>by
   have hi:=(Za.mp hw).1;obtain⟨y,v',e1,e2,e3⟩:=lu vd r (j:=i) (by simpa using hi);refine⟨y,v',e1,e2,?_⟩
   have:its.toArray[i]=w:=by
    have:=(Za.mp hw).2
    simpa using this
   rw[<-this];exact e3
  refine⟨fun w=>@decide (∃ (i:Nat) (y:D),ds[i]?=some y/\its[i]?=some w/\eqD 58 S y x=some true) (Classical.propDecidable _),fun w hw=>?_,?_⟩
  ·obtain⟨i,hi⟩:=Yl hw;dsimp only;by_cases hq:∃ (i:Nat) (y:D),ds[i]?=some y/\its[i]?=some w/\eqD 58 S y x=some true
   ·rw[@decide_eq_true _ (Classical.propDecidable _) hq];obtain⟨j,y,e1,e2,e3⟩:=hq;obtain⟨y',v',f1,f2,f3⟩:=at_ j w e2;rw[e1] at f1;cases f1;exact lv I R 58 A y x v' v w u true f2 vx f3 rx e3 hu
   ·rw[@decide_eq_false _ (Classical.propDecidable _) hq];obtain⟨y,v',f1,f2,f3⟩:=at_ i w hi;obtain⟨c,hc⟩:=ZL.mp (hs y (Zp f1));cases c with
    |true=>exact absurd ⟨i,y,f1,hi,hc⟩ hq
    |false=>exact lv I R 58 A y x v' v w u false f2 vx f3 rx hc hu
  ·rw[ZZ,YL,YL];constructor
   ·rintro⟨w,_,hw⟩;obtain⟨i,y,e1,_,e3⟩:=@of_decide_eq_true _ (Classical.propDecidable _) hw;exact⟨y,Zp e1,by rw[e3];rfl⟩
   ·rintro⟨y,hy,e⟩;obtain⟨i,hi⟩:=Yl hy;obtain⟨v',hv,_⟩:=vd.get hi;obtain⟨w,hw,_⟩:=r.get hv;exact⟨w,Zp hw,@decide_eq_true _ (Classical.propDecidable _) ⟨i,y,hi,hw,by simpa using e⟩⟩
 ·cases h
theorem Dx(hu:X.A.units+64 < cLine):OpR X (W5 .In) (rS X.K (inS false)):=by
 intro pins s σ H x y v u Q I rx ry h;obtain⟨m,S,a,b,d,S',R,va,vb,e,q⟩:=h;unfold inS at e;split at e
 ·rename_i tu ds hi;obtain⟨p,vs,rfl,sq,vds⟩:=dX R vb hi;split at e
  ·rename_i hf;cases e;refine rK pins s σ H x _ v u Q I rx ry ⟨p,vs,rfl,gI sq,ip va hf.1,gb vds hf.2,q m H _ (Aft.refl R) ?_⟩;rw[if_neg (by decide),oC va hf.1 vds hf.2]
   simpa using bH
  ·cases hd:inD a ds S with
   |none=>rw[hd] at e;cases e
   |some c=>
    rw[hd] at e;cases e;cases ry;have ha:X.A.in1.units+58 < cLine:=by show X.A.units+1+58 < cLine;omega
    rcases gI sq with hq |hq
    ·obtain⟨its,r,pl,hz⟩:=I.list hq;obtain⟨e,he,hb⟩:=ly I R va rx ha vds r hd;refine Wp e pl.isList (fun w hw=>he w (by simpa using hw)) ⟨.bl _,H,I,rfl,?_⟩;rw[show its.toArray.any e=its.any e by simp,hb];exact q m H _ (Aft.refl R) (by simpa using bH)
    ·obtain⟨its,r,pl,hz⟩:=I.tuple hq;obtain⟨e,he,hb⟩:=ly I R va rx ha vds r hd;refine Wq e pl (fun w hw=>he w (by simpa using hw)) ⟨.bl _,H,I,rfl,?_⟩;rw[show its.toArray.any e=its.any e by simp,hb];exact q m H _ (Aft.refl R) (by simpa using bH)
 ·cases e
theorem sk(hu:X.A.units+64 < cLine):OpR X (W5 .NotIn) (rS X.K (inS true)):=by
 intro pins s σ H x y v u Q I rx ry h;obtain⟨m,S,a,b,d,S',R,va,vb,e,q⟩:=h;unfold inS at e;split at e
 ·rename_i tu ds hi;obtain⟨p,vs,rfl,sq,vds⟩:=dX R vb hi;split at e
  ·rename_i hf;cases e;refine kM pins s σ H x _ v u Q I rx ry ⟨p,vs,rfl,gI sq,ip va hf.1,gb vds hf.2,q m H _ (Aft.refl R) ?_⟩;rw[if_pos rfl,oC va hf.1 vds hf.2]
   simpa using bH
  ·cases hd:inD a ds S with
   |none=>rw[hd] at e;cases e
   |some c=>
    rw[hd] at e;cases e;cases ry;have ha:X.A.in1.units+58 < cLine:=by show X.A.units+1+58 < cLine;omega
    rcases gI sq with hq |hq
    ·obtain⟨its,r,pl,hz⟩:=I.list hq;obtain⟨e,he,hb⟩:=ly I R va rx ha vds r hd;refine Wr e pl.isList (fun w hw=>he w (by simpa using hw)) ⟨.bl _,H,I,rfl,?_⟩;rw[show its.toArray.any e=its.any e by simp,hb];exact q m H _ (Aft.refl R) (by simpa using bH)
    ·obtain⟨its,r,pl,hz⟩:=I.tuple hq;obtain⟨e,he,hb⟩:=ly I R va rx ha vds r hd;refine Ws e pl (fun w hw=>he w (by simpa using hw)) ⟨.bl _,H,I,rfl,?_⟩;rw[show its.toArray.any e=its.any e by simp,hb];exact q m H _ (Aft.refl R) (by simpa using bH)
 ·cases e
theorem uC{d:D}{v:V}(h:VD K m H d v):decide (v=V.non)=BL d:=by
 cases d with
 |non=>cases h.nons;rfl
 |bl _=>cases h.bls;rfl
 |int _=>cases h.ints;rfl
 |str _=>cases h.strs;rfl
 |tup _=>obtain⟨_,_,e,_⟩:=h.tups;subst e;rfl
 |ref _=>obtain⟨_,_,e⟩:=h.refs;subst e;rfl
theorem Dy:OpR X (W5 .Is) (rS X.K (isB false)):=by
 refine OpR.imp (OpR.or CO C2) fun x y H Q h=>?_;obtain⟨m,S,a,b,d,S',R,va,vb,e,q⟩:=h;cases b with
 |non=>
  simp[isB] at e;obtain⟨rfl,rfl⟩:=e;exact .inl ⟨vb.nons,q m H _ (Aft.refl R) (by rw[uC va];exact bH)⟩
 |bl j=>
  cases a with
  |bl i=>
   simp[isB] at e;obtain⟨rfl,rfl⟩:=e;exact .inr ⟨i,j,va.bls,vb.bls,q m H _ (Aft.refl R) bH⟩
  |_=>simp[isB] at e
 |_=>cases a <;> simp[isB] at e
theorem sr:OpR X (W5 .IsNot) (rS X.K (isB true)):=by
 refine OpR.imp (OpR.or xX rQ) fun x y H Q h=>?_;obtain⟨m,S,a,b,d,S',R,va,vb,e,q⟩:=h;cases b with
 |non=>
  simp[isB] at e;obtain⟨rfl,rfl⟩:=e;exact .inl ⟨vb.nons,q m H _ (Aft.refl R) (by rw[uC va];exact bH)⟩
 |bl j=>
  cases a with
  |bl i=>
   simp[isB] at e;obtain⟨rfl,rfl⟩:=e;exact .inr ⟨i,j,va.bls,vb.bls,q m H _ (Aft.refl R) (by simpa[bne] using bH)⟩
  |_=>simp[isB] at e
 |_=>cases a <;> simp[isB] at e
theorem eZ(hu:X.A.units+64 < cLine)(o:COp):OpR X (W5 o.op) (rS X.K (az o)):=by
 cases o with
 |eq=>exact Dp hu
 |ne=>exact Dq hu
 |lt=>exact dj G4
 |le=>exact dj G5
 |gt=>exact dj G6
 |ge=>exact dj G7
 |is=>exact Dy
 |isnot=>exact sr
 |isin=>exact Dx hu
 |notin=>exact sk hu
end
section
variable {X:Cx} {K:Wu} {m:List Addr} {H:Hp} {S:Sto}
noncomputable def ixS(d i:D)(S:Sto):Option (D × Sto):=match i with
 | .int k=>(match d with
  |.str z=>if z.length<=100000 then (atI z.cps.toList k).map fun c=>(.str ⟨#[c]⟩,S) else none
  | d=>(match au d S with
   |some (_,ds)=>(atI ds k).map fun x=>(x,S)
   | none=>none))
 |_=>none
theorem Dz{ds:List D}{vs:List V}{k:Int}{d:D}(h:VDs K m H ds vs)(e:atI ds k=some d):∃v,atI vs k=some v/\VD K m H d v:=by
 unfold atI at e ⊢;rw[<-h.length];cases hi:ixN ds.length k with
 |none=>rw[hi] at e;cases e
 |some j=>
  rw[hi] at e;exact h.get e
theorem uD{ds:List D}{tu:Bool}{a:Addr}{vs:List V}{k:Int}{d:D}{Q:VK}(sq:SqB K tu H a vs)(vd:VDs K m H ds vs)(e:atI ds k=some d)(q:∀v,VD K m H d v->Q v H):rIx K (.ref a) (.int k) H Q:=by
 obtain⟨v,ev,vv⟩:=Dz vd e;cases tu with
 |false=>exact .inl ⟨a,vs,k,v,rfl,rfl,sq,ev,q v vv⟩
 |true=>exact .inr (.inl ⟨a,vs,k,v,rfl,rfl,.of sq,ev,q v vv⟩)
theorem J2:IxR X (rS X.K ixS):=by
 intro value slice pins s σ H x y v u Q I rx ry h hs;refine tW value slice pins s σ H x y v u Q I rx ry ?_ hs;obtain⟨m,S,a,b,d,S',R,va,vb,e,q⟩:=h;cases b with
 |int k=>
  cases vb.ints
  have main:∀r,au a S=some r->(atI r.2 k).map (fun x=>(x,S))=some (d,S')->rIx X.K x (.int k) H Q:=by
   intro r hi e;cases ha:atI r.2 k with
   |none=>rw[ha] at e;cases e
   |some z=>
    rw[ha] at e;cases e;obtain⟨p,vs,rfl,sq,vds⟩:=dX (tu:=r.1) (ds:=r.2) R va hi;exact uD sq vds ha fun v vv=>q m H v (Aft.refl R) vv
  cases a with
  |str z=>
   simp only[ixS] at e;split at e
   ·rename_i hl;cases hc:atI z.cps.toList k with
    |none=>rw[hc] at e;cases e
    |some c=>
     rw[hc] at e;cases e;exact .inr (.inr ⟨z,k,c,va.strs,rfl,by rw[Vp];omega,hc,q m H _ (Aft.refl R) iW⟩)
   ·cases e
  |tup ds=>exact main (true,ds) rfl e
  |ref n=>
   simp only[ixS] at e;cases hi:au (.ref n) S with
   |none=>rw[hi] at e;cases e
   |some r=>rw[hi] at e;exact main r hi e
  |_=>simp[ixS,au] at e
 |_=>simp[ixS] at e
noncomputable def oD(x:XA)(y:XE):XE:=fun ρ S=>bnd (x ρ S) fun ds S1=>bnd (y ρ S1) fun i S2=>match i with
 |.int k=>(atI ds k).map fun d=>(d,S2)
 |_=>none
theorem DA{x:XA}{y:XE}{σ:L2.St}{H:Hp}{Q:VK}(h:tE K (oD x y) σ H Q):tOp (rIx K) (fq K x) (tE K y) σ H Q:=by
 obtain⟨m,ρ,S,d,S',E,R,e,q⟩:=h;obtain⟨ds,S1,e1,e⟩:=aa e;obtain⟨i,S2,e2,e⟩:=aa e;refine⟨m,ρ,S,ds,S1,E,R,e1,fun m1 H1 a vs A1 sq n1 n2 n3 vd=>⟨m1,ρ,S1,i,S2,E.mono R A1.ext,A1.rel,e2,fun m2 H2 w A2 vb=>?_⟩⟩;cases i with
 |int k=>
  cases vb.ints;dsimp only at e;cases ha:atI ds k with
  |none=>rw[ha] at e;cases e
  |some z=>
   rw[ha] at e;cases e;exact uD (tu:=false) (show SqL K H2 a vs from SqL.of (A2.ext.keep _ _ sq n1)) (vd.mono A1.rel A2.ext) ha fun v vv=>q m2 H2 v (A1.trans A2) vv
 |_=>cases e
noncomputable def aY(ds:List D)(lo hi:Option Int):List D:=(ds.drop (HT.sIx ds.length 0 lo)).take (HT.sIx ds.length ds.length hi - HT.sIx ds.length 0 lo)
theorem oE{ds:List D}{vs:List V}(h:VDs K m H ds vs)(lo hi:Option Int):VDs K m H (aY ds lo hi) (iI vs lo hi):=by
 unfold aY iI;rw[<-h.length];exact(h.drop _).take _
noncomputable def slS(lo hi:Option Int)(d:D)(S:Sto):Option (D × Sto):=match d with
 |.tup ds=>some (.tup (aY ds lo hi),S)
 | .ref n=>(match ah S n with
  |some ds=>some (.ref S.length,S++[.lst (aY ds lo hi)])
  | none=>none)
 |_=>none
def rSl(K:Wu):V->Option Int->Option Int->Hp->VK->Prop:=fun v lo hi H Q=>∃m S a d S',Rel K m S H/\VD K m H a v/\slS lo hi a S=some (d,S')/\∀m' H' u,Aft K m H S' m' H'->VD K m' H' d u->Q u H'
theorem oG{vs:List V}{lo hi:Option Int}(h:HT.sIx vs.length 0 lo=0/\HT.sIx vs.length vs.length hi=vs.length):iI vs lo hi=vs:=by
 unfold iI;rw[h.1,h.2];simp
theorem J3:SlR X (rSl X.K):=by
 intro pins s σ H x v vl vu lo hi sl Q I rx hs pl pu h;refine(SlR.or yr yf) pins s σ H x v vl vu lo hi sl Q I rx hs pl pu ?_;obtain⟨m,S,a,d,S',R,va,e,q⟩:=h;cases a with
 |tup ds=>
  cases e;obtain⟨p,vs,rfl,sq,vds⟩:=va.tups;refine .inl ⟨p,vs,rfl,.of sq,fun hw=>?_,fun _=>f8 R (oE vds lo hi) q⟩;have:=oE vds lo hi;rw[oG hw] at this;exact q m H _ (Aft.refl R) (lp sq this)
 |ref n=>
  simp only[slS] at e;cases hn:ah S n with
  |none=>rw[hn] at e;cases e
  |some ds=>
   rw[hn] at e;cases e;obtain⟨p,vs,hp,sq,vds⟩:=R.seq hn;obtain⟨p',hp',rfl⟩:=va.refs;rw[hp] at hp';cases hp';exact .inr ⟨p,vs,rfl,sq,ls R (oE vds lo hi) q⟩
 |_=>cases e
abbrev XO:=Rho->Sto->Option (Option Int × Sto)
def tOI(K:Wu)(x:XO):TO:=fun σ H Q=>∃m ρ S o S',EnvR K m H ρ σ/\Rel K m S H/\x ρ S=some (o,S')/\∀m' H',Aft K m H S' m' H'->Q o H'
noncomputable def oH:XO:=fun _ S=>some (none,S)
noncomputable def oI(x:XE):XO:=fun ρ S=>bnd (x ρ S) fun d S1=>match d with
 |.int i=>some (some i,S1)
 |_=>none
theorem yQ{σ:L2.St}{H:Hp}{Q:Option Int->Hp->Prop}(h:tOI K oH σ H Q):pW σ H Q:=by
 obtain⟨m,ρ,S,o,S',E,R,e,q⟩:=h;cases e;exact q m H (Aft.refl R)
theorem yR{x:XE}{σ:L2.St}{H:Hp}{Q:Option Int->Hp->Prop}(h:tOI K (oI x) σ H Q):BF (tE K x) σ H Q:=by
 obtain⟨m,ρ,S,o,S',E,R,e,q⟩:=h;obtain⟨d,S1,e1,e⟩:=aa e;refine⟨m,ρ,S,d,S1,E,R,e1,fun m1 H1 v A1 vd=>?_⟩;cases d with
 |int i=>cases e;exact⟨i,vd.ints,q m1 H1 A1⟩
 |_=>cases e
theorem PO.imp{e:Option Expr}{t t':TO}(h:PO X e t)(f:∀σ H Q,t' σ H Q->t σ H Q):PO X e t':=fun pins s σ H Q I q=>h pins s σ H Q I (f σ H Q q)
noncomputable def xSl(x:XE)(lo hi:XO):XE:=fun ρ S=>bnd (x ρ S) fun d S1=>bnd (lo ρ S1) fun l S2=>bnd (hi ρ S2) fun h S3=>slS l h d S3
theorem Hs{x:XE}{lo hi:XO}{σ:L2.St}{H:Hp}{Q:VK}(h:tE K (xSl x lo hi) σ H Q):tSl (rSl K) (tE K x) (tOI K lo) (tOI K hi) σ H Q:=by
 obtain⟨m,ρ,S,d,S',E,R,e,q⟩:=h;obtain⟨a,S1,e1,e⟩:=aa e;obtain⟨l,S2,e2,e⟩:=aa e;obtain⟨u,S3,e3,e⟩:=aa e;refine⟨m,ρ,S,a,S1,E,R,e1,fun m1 H1 v A1 vd=>⟨m1,ρ,S1,l,S2,E.mono R A1.ext,A1.rel,e2,fun m2 H2 A2=>⟨m2,ρ,S2,u,S3,E.mono R (A1.trans A2).ext,A2.rel,e3,fun m3 H3 A3=>?_⟩⟩⟩;exact⟨m3,S3,a,d,S',A3.rel,vd.mono A1.rel (A2.trans A3).ext,e,fun m4 H4 w A4 vw=>q m4 H4 w (((A1.trans A2).trans A3).trans A4) vw⟩
noncomputable def lA(d:D)(S:Sto):Option (Bool × Sto):=match d with
 |.non=>some (false,S)
 |.bl b=>some (b,S)
 |.int i=>some (i != 0,S)
 |.str y=>if y.length<=100000 then some ((y.length:Int) != 0,S) else none
 |.tup ds=>some (!ds.isEmpty,S)
 | .ref n=>(match ah S n with
  |some ds=>some (!ds.isEmpty,S)
  | none=>none)
theorem iY{ds:List D}{vs:List V}(h:VDs K m H ds vs):ds.isEmpty=vs.isEmpty:=by
 have:=h.length;cases ds <;> cases vs <;> simp at this ⊢
theorem DB{d:D}{v:V}{b:Bool}{S':Sto}(R:Rel K m S H)(vd:VD K m H d v)(e:lA d S=some (b,S')):S'=S/\xZ K v H b:=by
 cases d with
 |non=>cases e;cases vd.nons;exact⟨rfl,rfl⟩
 |bl _=>cases e;cases vd.bls;exact⟨rfl,rfl⟩
 |int _=>cases e;cases vd.ints;exact⟨rfl,rfl⟩
 |str y=>
  simp only[lA] at e;split at e
  ·rename_i hl;cases e;cases vd.strs;exact⟨rfl,by rw[Vp];omega,rfl⟩
  ·cases e
 |tup ds=>
  cases e;obtain⟨a,vs,rfl,sq,vds⟩:=vd.tups;exact⟨rfl,.inr (.inl ⟨vs,.of sq,by rw[iY vds]⟩)⟩
 |ref n=>
  simp only[lA] at e;cases hn:ah S n with
  |none=>rw[hn] at e;cases e
  |some ds=>
   rw[hn] at e;cases e;obtain⟨p,vs,hp,sq,vds⟩:=R.seq hn;obtain⟨p',hp',rfl⟩:=vd.refs;rw[hp] at hp';cases hp';exact⟨rfl,.inl ⟨vs,sq,by rw[iY vds]⟩⟩
noncomputable def yS(x:XE):XT:=fun ρ S=>bnd (x ρ S) fun d S1=>lA d S1
theorem DC{x:XE}{σ:L2.St}{H:Hp}{Q:Bool->Hp->Prop}(h:tT K (yS x) σ H Q):(tE K x) σ H fun v H'=>∃k,xZ K v H' k/\Q k H':=by
 obtain⟨m,ρ,S,b,S',E,R,e,q⟩:=h;obtain⟨d,S1,e1,e⟩:=aa e;refine⟨m,ρ,S,d,S1,E,R,e1,fun m1 H1 v A1 vd=>?_⟩;obtain⟨rfl,t⟩:=DB A1.rel vd e;exact⟨b,t,q m1 H1 A1⟩
noncomputable def xB(x:XE):XT:=fun ρ S=>bnd (x ρ S) fun d S1=>match d with
 |.bl b=>some (b,S1)
 |_=>none
theorem Ht{x:XE}{σ:L2.St}{H:Hp}{Q:Bool->Hp->Prop}(h:tT K (xB x) σ H Q):(tE K x) σ H fun v H'=>∃k,v = .bl k/\Q k H':=by
 obtain⟨m,ρ,S,b,S',E,R,e,q⟩:=h;obtain⟨d,S1,e1,e⟩:=aa e;refine⟨m,ρ,S,d,S1,E,R,e1,fun m1 H1 v A1 vd=>?_⟩;cases d with
 |bl k=>cases e;exact⟨b,vd.bls,q m1 H1 A1⟩
 |_=>cases e
noncomputable def fI(_:Bool)(ds:List D)(S:Sto):Option (D × Sto):=some (.int ds.length,S)
noncomputable def iZ(_:Bool)(ds:List D)(S:Sto):Option (D × Sto):=some (.tup ds,S)
noncomputable def uE:D->Bool
 |.bl _=>true
 |_=>false
noncomputable def su:D->Bool
 |.bl b=>b
 |_=>false
noncomputable def jM(tu:Bool)(ds:List D)(S:Sto):Option (D × Sto):=if tu=false/\ds.all uE=true then some (.bl (ds.all su),S) else none
def r1(r:V->Hp->VK->Prop):List V->Hp->VK->Prop
 |[x],H,Q=>r x H Q
 |_,_,_=>False
theorem gc{r:V->Hp->VK->Prop}{xs:List V}{H:Hp}{Q:VK}(h:r1 r xs H Q):∃x,xs=[x]/\r x H Q:=by
 match xs,h with
 |[x],h=>exact⟨x,rfl,h⟩
theorem sv:aV X (.builtin "len") (r1 (rSq X.K fI)):=by
 refine aV.imp kN fun xs H Q h=>?_;obtain⟨_,rfl,m,S,tu,ds,a,vs,d,S',R,rfl,sq,vd,e,q⟩:=gc h;cases e;exact⟨a,vs,rfl,gI sq,q m H _ (Aft.refl R) (by rw[vd.length];exact bE)⟩
theorem sy:aV X (.type "tuple") (r1 (rSq X.K iZ)):=by
 refine aV.imp jH fun xs H Q h=>?_;obtain⟨_,rfl,m,S,tu,ds,a,vs,d,S',R,rfl,sq,vd,e,q⟩:=gc h;cases e;cases tu with
 |false=>exact⟨a,vs,rfl,.inl ⟨sq,f8 R vd q⟩⟩
 |true=>exact⟨a,vs,rfl,.inr ⟨.of sq,q m H _ (Aft.refl R) (lp sq vd)⟩⟩
theorem uF:∀ {ds:List D} {vs:List V},VDs K m H ds vs->ds.all uE=true->vs=(ds.map su).map V.bl
 |[],vs,h,_=>by rw[VDs] at h;rw[h];rfl
 |d::ds,vs,h,f=>by
  rw[VDs] at h;obtain⟨x,r,rfl,p,q⟩:=h;rw[Z5,bAE] at f;cases d with
  |bl b=>rw[p.bls,uF q f.2];rfl
  |_=>simp[uE] at f
theorem DD(ds:List D):(ds.map su).all id=ds.all su:=by rw[Yh];rfl
theorem sA(hc:X.calm=true):aV X (.builtin "all") (r1 (rSq X.K jM)):=by
 refine aV.imp (rP hc) fun xs H Q h=>?_;obtain⟨_,rfl,m,S,tu,ds,a,vs,d,S',R,rfl,sq,vd,e,q⟩:=gc h;unfold jM at e;split at e
 ·rename_i hf;cases e;obtain⟨rfl,hf⟩:=hf;refine⟨a,ds.map su,rfl,?_,q m H _ (Aft.refl R) (by rw[DD];exact bH)⟩;rw[<-uF vd hf];exact sq
 ·cases e
def rTm(K:Wu)(f:Bool->List D->Option (List D)):V->Hp->VK->Prop:=fun v H Q=>∃m S tu ds a vs es,Rel K m S H/\v = .ref a/\SqB K tu H a vs/\VDs K m H ds vs/\f tu ds=some es ∧
 ∀m' H' p ws,Aft K m H S m' H'->H' p=some (.lst ws)->p ∉ m'->(∀b,b ∈ m->b ≠ p)->H p=none->VDs K m' H' es ws->Q (.ref p) H'
theorem i0:aV X (.type "list") (r1 (rTm X.K fun _ ds=>some ds)):=by
 refine aV.imp kO fun xs H Q h=>?_;obtain⟨_,rfl,m,S,tu,ds,a,vs,es,R,rfl,sq,vd,e,q⟩:=gc h;cases e;exact⟨a,vs,rfl,gI sq,qo R vd q⟩
noncomputable def uG:D->D->Sto->Option (D × Sto)
 |.int i,.int j,S=>some (.int (if j > i then j else i),S)
 |_,_,_=>none
noncomputable def uH:D->D->Sto->Option (D × Sto)
 |.int i,.int j,S=>some (.int (if j < i then j else i),S)
 |_,_,_=>none
noncomputable def two(f:D->D->Sto->Option (D × Sto)):List D->Sto->Option (D × Sto)
 |[a,b],S=>f a b S
 |_,_=>none
theorem yT{a b:D}{vs:List V}(h:VDs K m H [a,b] vs):∃v w,vs=[v,w]/\VD K m H a v/\VD K m H b w:=by
 rw[VDs] at h;obtain⟨v,r,rfl,p,q⟩:=h;rw[VDs] at q;obtain⟨w,r',rfl,p',q'⟩:=q;rw[VDs] at q';subst q';exact⟨v,w,rfl,p,p'⟩
theorem Hu{a:D}{vs:List V}(h:VDs K m H [a] vs):∃v,vs=[v]/\VD K m H a v:=by
 rw[VDs] at h;obtain⟨v,r,rfl,p,q⟩:=h;rw[VDs] at q;subst q;exact⟨v,rfl,p⟩
theorem mT{f:D->D->Sto->Option (D × Sto)}{as:List D}{r:D × Sto}(h:two f as S=some r):∃a b,as=[a,b]/\f a b S=some r:=by
 match as,h with
 |[a,b],h=>exact⟨a,b,rfl,h⟩
theorem oJ(hc:X.calm=true):aV X (.builtin "max") (rSA X.K (two uG)):=by
 refine aV.imp (rF hc) fun xs H Q h=>?_;obtain⟨m,S,as,d,S',R,vd,e,q⟩:=h;obtain⟨a,b,rfl,e2⟩:=mT e;obtain⟨v,w,rfl,p,p'⟩:=yT vd;cases a <;> cases b <;> simp[uG] at e2;obtain⟨rfl,rfl⟩:=e2;exact⟨_,_,by rw[p.ints,p'.ints],q m H _ (Aft.refl R) bE⟩
theorem oK(hc:X.calm=true):aV X (.builtin "min") (rSA X.K (two uH)):=by
 refine aV.imp (rG hc) fun xs H Q h=>?_;obtain⟨m,S,as,d,S',R,vd,e,q⟩:=h;obtain⟨a,b,rfl,e2⟩:=mT e;obtain⟨v,w,rfl,p,p'⟩:=yT vd;cases a <;> cases b <;> simp[uH] at e2;obtain⟨rfl,rfl⟩:=e2;exact⟨_,_,by rw[p.ints,p'.ints],q m H _ (Aft.refl R) bE⟩
inductive Ty where |int |bool |tuple |list |str
noncomputable def Ty.nm:Ty->String
 |.int => "int" |.bool => "bool" |.tuple => "tuple" |.list => "list" |.str => "str"
noncomputable def tyN(d:D)(S:Sto):Option String:=match d with
 |.non=>some "NoneType" |.bl _=>some "bool" |.int _=>some "int" |.str _=>some "str" |.tup _=>some "tuple"
 | .ref n=>(match S[n]? with
  |some (.lst _)=>some "list"
  |some (.frz _)=>some "list"
  |some (.dic _ _)=>some "dict"
  | none=>none)
noncomputable def dY(t:Ty)(n:String):Bool:=n == t.nm || (match t with |.int=>n == "bool" |_=>false)
noncomputable def gY(t:Ty)(d:D)(S:Sto):Option (D × Sto):=(tyN d S).map fun n=>(.bl (dY t n),S)
theorem yU(K:Wu)(t:Ty):(WH K (.type "NoneType") (.type t.nm)=some (dY t "NoneType"))/\(WH K (.type "bool") (.type t.nm)=some (dY t "bool"))/\(WH K (.type "int") (.type t.nm)=some (dY t "int")) ∧
  (WH K (.type "str") (.type t.nm)=some (dY t "str"))/\(WH K (.type "tuple") (.type t.nm)=some (dY t "tuple"))/\(WH K (.type "list") (.type t.nm)=some (dY t "list"))/\(WH K (.type "dict") (.type t.nm)=some (dY t "dict")):=by
 cases t <;> exact⟨by kernel_rfl,by kernel_rfl,by kernel_rfl,by kernel_rfl,by kernel_rfl,by kernel_rfl,by kernel_rfl⟩
theorem Hv{d:D}{v:V}{n:String}(R:Rel K m S H)(vd:VD K m H d v)(e:tyN d S=some n):TyOf K H v (.type n):=by
 cases d with
 |non=>cases e;cases vd.nons;exact .non
 |bl _=>cases e;cases vd.bls;exact .bl _
 |int _=>cases e;cases vd.ints;exact .int _
 |str _=>cases e;cases vd.strs;exact .str _
 |tup ds=>cases e;obtain⟨a,vs,rfl,sq,_⟩:=vd.tups;exact .tup sq
 |ref k=>
  simp only[tyN] at e;obtain⟨a,ha,rfl⟩:=vd.refs;cases hk:S[k]? with
  |none=>rw[hk] at e;cases e
  |some o=>
   rw[hk] at e;obtain⟨a',ha',r⟩:=R.ob k o hk;rw[ha] at ha';cases ha';cases o with
   |lst ds=>cases e;obtain⟨vs,h,_⟩:=r;exact .lst h
   |frz ds=>cases e;obtain⟨o,vs,h,_⟩:=r;exact .frz h
   |dic ks ds=>cases e;obtain⟨vs,h,_⟩:=r;exact .dK h
theorem uI{d:D}{n:String}(e:tyN d S=some n):n = "NoneType"\/n = "bool"\/n = "int"\/n = "str"\/n = "tuple"\/n = "list"\/n = "dict" := by
 cases d with
 |ref k=>
  simp only[tyN] at e;cases hk:S[k]? with
  |none=>rw[hk] at e;cases e
  |some o=>rw[hk] at e;cases o <;> cases e <;> simp
 |_=>cases e <;> simp
theorem DE{n:String}(K:Wu)(t:Ty)(h:n = "NoneType"\/n = "bool"\/n = "int"\/n = "str"\/n = "tuple"\/n = "list"\/n = "dict"):WH K (.type n) (.type t.nm)=some (dY t n):=by
 obtain⟨a,b,c,d,e,f,g⟩:=yU K t;rcases h with rfl |rfl |rfl |rfl |rfl |rfl |rfl <;> assumption
def Hw(K:Wu)(t:Ty)(te:TE):TE:=tCB (BI K) (cJ te (cJ (tC (.ty t.nm)) iC))
theorem yV{t:Ty}{x:XE}{σ:L2.St}{H:Hp}{Q:VK}(h:tE K (xUn (gY t) x) σ H Q):Hw K t (tE K x) σ H Q:=by
 obtain⟨m,ρ,S,d,S',E,R,e,q⟩:=h;obtain⟨a,S1,e1,e⟩:=aa e;refine⟨m,ρ,S,a,S1,E,R,e1,fun m1 H1 v A1 va=>?_⟩;unfold gY at e;cases hn:tyN a S1 with
 |none=>rw[hn] at e;cases e
 |some n=>
  rw[hn] at e;cases e;exact⟨v,t.nm,_,_,rfl,Hv A1.rel va hn,DE K t (uI hn),q m1 H1 _ A1 bH⟩
end
section
variable {X:Cx} {K:Wu} {m:List Addr} {H:Hp} {S:Sto}
noncomputable def i5(d:D)(S:Sto):Bool:=match d with
 |.ref n=>(ah S n).isSome
 |_=>false
noncomputable def isTup:D->Bool
 |.tup _=>true
 |_=>false
noncomputable def yW(c:D->Sto->Bool)(f:D->List D->Sto->Option (D × Sto))(x:XE)(y:XA):XE:=fun ρ S=>bnd (x ρ S) fun d S1=>if c d S1=true then bnd (y ρ S1) fun as S2=>f d as S2 else none
def rM(K:Wu)(f:D->List D->Sto->Option (D × Sto)):V->List V->Hp->VK->Prop:=fun v vs H Q=>∃m S a as d S',Rel K m S H/\VD K m H a v/\VDs K m H as vs/\f a as S=some (d,S')/\∀m' H' u,Aft K m H S' m' H'->VD K m' H' d u->Q u H'
theorem uJ{T:String}{c:D->Sto->Bool}{f:D->List D->Sto->Option (D × Sto)}{x:XE}{y:XA}{σ:L2.St}{H:Hp}{Q:VK}(hT:∀ {m H S d v},Rel K m S H->VD K m H d v->c d S=true->tyV K T v H)(h:tE K (yW c f x y) σ H Q):tBM K T (rM K f) (tE K x) (tAr K y) σ H Q:=by
 obtain⟨m,ρ,S,d,S',E,R,e,q⟩:=h;obtain⟨a,S1,e1,e⟩:=aa e;split at e
 ·rename_i hc;obtain⟨as,S2,e2,e⟩:=aa e;refine⟨m,ρ,S,a,S1,E,R,e1,fun m1 H1 v A1 va=>⟨hT A1.rel va hc,m1,ρ,S1,as,S2,E.mono R A1.ext,A1.rel,e2,fun m2 H2 vs A2 vb=>?_⟩⟩;exact⟨m2,S2,a,as,d,S',A2.rel,va.mono A1.rel A2.ext,vb,e,fun m3 H3 u A3 vd=>q m3 H3 u ((A1.trans A2).trans A3) vd⟩
 ·cases e
theorem DF{d:D}{v:V}(R:Rel K m S H)(vd:VD K m H d v)(h:i5 d S=true):tyV K "list" v H:=by
 cases d with
 |ref n=>
  simp only[i5] at h;obtain⟨ds,hs⟩:=ZL.mp h;obtain⟨p,vs,hp,sq,vds⟩:=R.seq hs;obtain⟨p',hp',rfl⟩:=vd.refs;rw[hp] at hp';cases hp';exact .inl ⟨rfl,vs,sq⟩
 |_=>cases h
theorem DG{d:D}{v:V}(R:Rel K m S H)(vd:VD K m H d v)(h:(fun d (_:Sto)=>isTup d) d S=true):tyV K "tuple" v H:=by
 cases d with
 |tup ds=>
  obtain⟨a,vs,rfl,sq,_⟩:=vd.tups;exact .inr (.inl ⟨rfl,.inr ⟨vs,sq⟩⟩)
 |_=>cases h
noncomputable def chg(n:Nat)(S:Sto)(f:List D->Option (D × List D)):Option (D × Sto):=match S[n]? with
 |some (.lst ds)=>(f ds).map fun r=>(r.1,S.set n (.lst r.2))
 |_=>none
theorem uK{n:Nat}{S S':Sto}{f:List D->Option (D × List D)}{d:D}(h:chg n S f=some (d,S')):∃ds es,S[n]?=some (.lst ds)/\f ds=some (d,es)/\S'=S.set n (.lst es):=by
 unfold chg at h;cases hn:S[n]? with
 |none=>rw[hn] at h;cases h
 |some o=>
  rw[hn] at h;cases o with
  |lst ds=>
   dsimp only at h;cases hf:f ds with
   |none=>rw[hf] at h;cases h
   |some r=>rw[hf] at h;cases h;exact⟨ds,r.2,rfl,hf,rfl⟩
  |_=>cases h
noncomputable def oM(d:D)(as:List D)(S:Sto):Option (D × Sto):=match d,as with
 |.ref n,[e]=>chg n S fun ds=>if ds.length < 100000 then some (.non,ds++[e]) else none
 |_,_=>none
noncomputable def J4(d:D)(as:List D)(S:Sto):Option (D × Sto):=match d,as with
 |.ref n,[.int i]=>chg n S fun ds=>match ixN ds.length i with
  |some k=>(ds[k]?).map fun x=>(x,ds.eraseIdx k)
  |none=>none
 |_,_=>none
theorem uL{n:Nat}{v:V}{ds:List D}(R:Rel K m S H)(vd:VD K m H (.ref n) v)(hn:S[n]?=some (.lst ds)):∃a vs,v = .ref a/\m[n]?=some a/\H a=some (.lst vs)/\VDs K m H ds vs:=by
 obtain⟨a,vs,ha,hH,q⟩:=R.lst hn;obtain⟨a',ha',e⟩:=vd.refs;rw[ha] at ha';cases ha';exact⟨a,vs,e,ha,hH,q⟩
theorem j7{n:Nat}{a:Addr}{es:List D}{ws:List V}(R:Rel K m S H)(ha:m[n]?=some a)(vd:VDs K m H es ws):Aft K m H (S.set n (.lst es)) m (upd H a (.lst ws)):=let ⟨x,y⟩:=R.write ha vd;⟨x,y⟩
theorem DH:MtR X "list.append" (rM X.K oM):=by
 intro pins s σ H x xs v us Q I rx rs h;refine jX pins s σ H x xs v us Q I rx rs ?_;obtain⟨m,S,a,as,d,S',R,va,vs,e,q⟩:=h;unfold oM at e;split at e
 ·rename_i n z;obtain⟨ds,es,hn,hf,rfl⟩:=uK e;split at hf
  ·rename_i hl;cases hf;obtain⟨p,ws,rfl,hp,hH,vds⟩:=uL R va hn;obtain⟨y,rfl,vy⟩:=Hu vs;refine⟨p,ws,y,rfl,rfl,hH,by rw[Vp,<-vds.length];omega,q m _ _ (j7 R hp (vds.append (.cons vy .nil))) lg⟩
  ·cases hf
 ·cases e
noncomputable def uM(d:D)(as:List D)(S:Sto):Option (D × Sto):=match d,as with
 |.tup ds,[x]=>if cv x=true/\ds.all cv=true then some (.int (ds.countP fun z=>eqF z x:Nat),S) else none
 |_,_=>none
theorem yX:MtR X "tuple.count" (rM X.K uM):=by
 intro pins s σ H x xs v us Q I rx rs h;refine rR X.K rfl pins s σ H x xs v us Q I rx rs ?_;obtain⟨m,S,a,as,d,S',R,va,vs,e,q⟩:=h;unfold uM at e;split at e
 ·rename_i ds z;split at e
  ·rename_i hf;cases e;obtain⟨p,ws,rfl,sq,vds⟩:=va.tups;obtain⟨y,rfl,vy⟩:=Hu vs;exact⟨p,ws,y,rfl,rfl,.of sq,ip vy hf.1,gb vds hf.2,q m H _ (Aft.refl R) (by rw[j6 vy hf.1 vds hf.2];exact bE)⟩
  ·cases e
 ·cases e
noncomputable def lB(o i v:D)(S:Sto):Option Sto:=match o,i with
 | .ref n,.int k=>(match S[n]? with
  |some (.lst ds)=>(ixN ds.length k).map fun j=>S.set n (.lst (ds.set j v))
  | _=>none)
 |_,_=>none
def Hx(K:Wu):xR:=fun o i v H Q=>∃m S a b c S',Rel K m S H/\VD K m H a o/\VD K m H b i/\VD K m H c v/\lB a b c S=some S'/\∀m' H',Aft K m H S' m' H'->Q H'
theorem Hy:Cw X (Hx X.K):=by
 intro pins s σ H o i v ov iv u Q I ro ri rv h;refine tX pins s σ H o i v ov iv u Q I ro ri rv ?_;obtain⟨m,S,a,b,c,S',R,va,vb,vc,e,q⟩:=h;unfold lB at e;split at e
 ·rename_i n k;cases hn:S[n]? with
  |none=>rw[hn] at e;cases e
  |some ob=>
   rw[hn] at e;cases ob with
   |lst ds=>
    dsimp only at e;cases hj:ixN ds.length k with
    |none=>rw[hj] at e;cases e
    |some j=>
     rw[hj] at e;cases e;obtain⟨p,ws,rfl,hp,hH,vds⟩:=uL R va hn;cases vb.ints;exact⟨p,ws,k,j,rfl,rfl,hH,by rw[<-vds.length];exact hj,q m _ (j7 R hp (vds.set vc))⟩
   |_=>cases e
 ·cases e
mutual
noncomputable def bP(t:D->Option Dw.D):List D->Option (List Dw.D)
 |[]=>some []
 |d::ds=>match t d,bP t ds with
  |some x,some xs=>some (x::xs)
  |_,_=>none
end
noncomputable def ce:Nat->Sto->D->Option Dw.D
 |0,_,_=>none
 |n+1,S,d=>match d with
  |.non=>some .non
  |.bl b=>some (.bl b)
  |.int i=>some (.int i)
  |.str x=>some (.str x)
  |.tup ds=>(bP (ce n S) ds).map .tup
  | .ref k=>(match S[k]? with
   |some (.lst ds)=>(bP (ce n S) ds).map .lst
   |some (.dic ks ds)=>(bP (ce n S) ds).map (.dic ks)
   | _=>none)
theorem gf{t:D->Option Dw.D}(ht:∀d x v,t d=some x->VD K m H d v->Dw.Br [] H x v):∀ {ds:List D} {xs:List Dw.D} {vs:List V},bP t ds=some xs->VDs K m H ds vs->Dw.BrL [] H xs vs
 |[],xs,vs,e,h=>by rw[VDs] at h;simp only[bP] at e;cases e;rw[h,Dw.BrL]
 |d::ds,xs,vs,e,h=>by
  rw[VDs] at h;obtain⟨y,r,rfl,p,q⟩:=h;simp only[bP] at e;cases h1:t d with
  |none=>rw[h1] at e;cases e
  |some x=>
   cases h2:bP t ds with
   |none=>rw[h1,h2] at e;cases e
   |some ys=>
    rw[h1,h2] at e;cases e;rw[Dw.BrL];exact⟨y,r,rfl,ht _ _ _ h1 p,gf ht h2 q⟩
theorem j8{t:D->Option Dw.D}:∀ {ds:List D} {xs:List Dw.D},bP t ds=some xs->xs.length=ds.length
 |[],xs,e=>by simp only[bP] at e;cases e;rfl
 |d::ds,xs,e=>by
  simp only[bP] at e;cases h1:t d with
  |none=>rw[h1] at e;cases e
  |some x=>
   cases h2:bP t ds with
   |none=>rw[h1,h2] at e;cases e
   |some ys=>rw[h1,h2] at e;cases e;simp[j8 h2]
theorem iq(R:Rel K m S H):∀ (n:Nat) (d:D) (x:Dw.D) (v:V),ce n S d=some x->VD K m H d v->Dw.Br [] H x v
 |0,_,_,_,e,_=>by simp[ce] at e
 |n+1,d,x,v,e,h=>by
  cases d with
  |non=>simp only[ce] at e;cases e;rw[Dw.Br];exact h.nons
  |bl _=>simp only[ce] at e;cases e;rw[Dw.Br];exact h.bls
  |int _=>simp only[ce] at e;cases e;rw[Dw.Br];exact h.ints
  |str _=>simp only[ce] at e;cases e;rw[Dw.Br];exact h.strs
  |tup ds=>
   simp only[ce] at e;cases ht:bP (ce n S) ds with
   |none=>rw[ht] at e;cases e
   |some xs=>
    rw[ht] at e;cases e;obtain⟨a,vs,rfl,sq,p⟩:=h.tups;rw[Dw.Br];exact⟨a,vs,rfl,sq,gf (iq R n) ht p⟩
  |ref k=>
   simp only[ce] at e;obtain⟨a,ha,rfl⟩:=h.refs;cases hk:S[k]? with
   |none=>rw[hk] at e;cases e
   |some o=>
    rw[hk] at e;obtain⟨a',ha',r⟩:=R.ob k o hk;rw[ha] at ha';cases ha';cases o with
    |lst ds=>
     dsimp only at e;cases ht:bP (ce n S) ds with
     |none=>rw[ht] at e;cases e
     |some xs=>
      rw[ht] at e;cases e;obtain⟨vs,hH,p⟩:=r;rw[Dw.Br];exact⟨a,vs,rfl,by simp,hH,gf (iq R n) ht p⟩
    |frz ds=>cases e
    |dic ks ds=>
     dsimp only at e;cases ht:bP (ce n S) ds with
     |none=>rw[ht] at e;cases e
     |some xs=>
      rw[ht] at e;cases e;obtain⟨vs,hH,hl,p⟩:=r;rw[Dw.Br];exact⟨a,vs,rfl,by simp,hH,by rw[j8 ht];exact hl,gf (iq R n) ht p⟩
open Classical in
noncomputable def i6(d:D)(S:Sto):Option (D × Sto):=match ce 100 S d with
 |some t=>if Dw.Shn t then some (.str (Dw.aK t).shown,S) else none
 |none=>none
theorem oO{k:Nat}(hr:Room k X.A):aV X (.builtin "repr") (r1 (rS1 X.K i6)):=by
 refine aV.imp (Dw.ow hr) fun xs H Q h=>?_;obtain⟨x,rfl,m,S,a,d,S',R,va,e,q⟩:=gc h;unfold i6 at e;cases ht:ce 100 S a with
 |none=>rw[ht] at e;cases e
 |some t=>
  rw[ht] at e;dsimp only at e;split at e
  ·rename_i hs;cases e;exact⟨x,[],t,rfl,iq R 100 a t x ht va,hs,q m H _ (Aft.refl R) iW⟩
  ·cases e
end
abbrev Nxt:=Nat->Sto->Option (Option D)
abbrev XI:=Rho->Sto->Option (Nxt × Sto)
structure ExtB(B:List Addr)(m:List Addr)(H:Hp)(m':List Addr)(H':Hp):Prop where
 pre:m <+: m'
 keep:∀a o,H a=some o->a ∉ m->a ∉ B->H' a=some o
 new:∀a,a ∈ m'->a ∉ m->H a=none
 nb:∀b,b ∈ B->b ∉ m'
def AtB(B:List Addr)(m:List Addr)(H:Hp):Prop:=∀b,b ∈ B->(∃vs,H b=some (.lst vs))/\b ∉ m
theorem Ext.toB{B m m':List Addr}{H H':Hp}(hB:AtB B m H)(x:Ext m H m' H'):ExtB B m H m' H':=⟨x.pre,fun a o h n _=>x.keep a o h n,x.new,fun b hb z=>by
 obtain⟨⟨vs,e⟩,n⟩:=hB b hb;have:=x.new b z n;rw[e] at this;cases this⟩
theorem ExtB.trans{B m m1 m2:List Addr}{H H1 H2:Hp}(x:ExtB B m H m1 H1)(y:ExtB B m1 H1 m2 H2):ExtB B m H m2 H2:=by
 refine⟨x.pre.trans y.pre,fun a o h n nb=>?_,fun a h n=>?_,y.nb⟩
 ·have n1:a ∉ m1:=fun z=>by have:=x.new a z n;rw[this] at h;cases h
  exact y.keep a o (x.keep a o h n nb) n1 nb
 ·by_cases h1:a ∈ m1
  ·exact x.new a h1 n
  ·cases e:H a with
   |none=>rfl
   |some o=>
    by_cases hb:a ∈ B
    ·exact absurd h (y.nb a hb)
    ·have:=x.keep a o e n hb;rw[y.new a h h1] at this;cases this
theorem AtB.ext{B m m':List Addr}{H H':Hp}(hB:AtB B m H)(x:Ext m H m' H'):AtB B m' H':=fun b hb=>by
 obtain⟨⟨vs,e⟩,n⟩:=hB b hb;exact⟨⟨vs,x.keep _ _ e n⟩,(x.toB hB).nb b hb⟩
def IOk(K:Wu)(B:List Addr)(J:It)(nx:Nxt)(m0:List Addr)(H0:Hp):Prop:=∀ (m:List Addr) (S:Sto) (H:Hp) (i:Nat),ExtB B m0 H0 m H->Rel K m S H ->
 (nx i S=some none->J.stop i H)/\(∀d,nx i S=some (some d)->J.go i H/\∀x H',J.yld i H x H'->Aft K m H S m H'/\VD K m H' d x)
def tIt(K:Wu)(B:List Addr)(x:XI):TI:=fun σ H R=>∃m ρ S nx S',EnvR K m H ρ σ/\Rel K m S H/\AtB B m H/\x ρ S=some (nx,S')/\∀m' H' J,Aft K m H S' m' H'->IOk K B J nx m' H'->R J H'
noncomputable def nxL(ds:List D):Nxt:=fun i _=>some ds[i]?
noncomputable def nxS(n:Nat):Nxt:=fun i S=>(ah S n).map fun ds=>ds[i]?
noncomputable def nxR(lo:Int)(n:Nat):Nxt:=fun i _=>some (if i < n then some (.int (lo+i)) else none)
noncomputable def cq(i:Nat)(d:D):D:=.tup [.int i,d]
noncomputable def enm(ds:List D)(i:Nat):Option (Option D):=if i<=ds.length then some (ds[i]?.map (cq i)) else none
noncomputable def mU(ds:List D):Nxt:=fun i _=>enm ds i
noncomputable def uN(n:Nat):Nxt:=fun i S=>(ah S n).bind fun ds=>enm ds i
section
variable {X:Cx} {K:Wu} {m B:List Addr} {H:Hp} {S:Sto}
theorem yY{m0 m:List Addr}{H0 H:Hp}{S0:Sto}{a:Addr}{xs:List V}(R:Rel K m0 S0 H0)(hB:AtB B m0 H0)(x:ExtB B m0 H0 m H)(h:H0 a=some (.tup xs)):H a=some (.tup xs):=x.keep _ _ h (R.notTup h) fun z=>by
 obtain⟨⟨vs,e⟩,_⟩:=hB a z;rw[e] at h;cases h
theorem VDs.monoB{m0 m:List Addr}{H0 H:Hp}{S0:Sto}{ds:List D}{vs:List V}(R:Rel K m0 S0 H0)(hB:AtB B m0 H0)(x:ExtB B m0 H0 m H)(h:VDs K m0 H0 ds vs):VDs K m H ds vs:=VDs.mono0 x.pre (fun _ _=>yY R hB x) h
theorem VD.monoB{m0 m:List Addr}{H0 H:Hp}{S0:Sto}{d:D}{v:V}(R:Rel K m0 S0 H0)(hB:AtB B m0 H0)(x:ExtB B m0 H0 m H)(h:VD K m0 H0 d v):VD K m H d v:=VD.mono0 x.pre (fun _ _=>yY R hB x) h
theorem EnvR.monoB{m0 m:List Addr}{H0 H:Hp}{S0:Sto}{ρ:Rho}{σ:L2.St}(R:Rel K m0 S0 H0)(hB:AtB B m0 H0)(x:ExtB B m0 H0 m H)(h:EnvR K m0 H0 ρ σ):EnvR K m H ρ σ:=
 ⟨h.len,fun i d e=>let ⟨v,p,q⟩:=h.at_ i d e;⟨v,p,VD.monoB R hB x q⟩⟩
theorem mV{a:Addr}{nx:Nxt}{m0:List Addr}{H0:Hp}(h:∀m S H i o,ExtB B m0 H0 m H->Rel K m S H->nx i S=some o->∃ds vs,o=ds[i]?/\SqL K H a vs/\VDs K m H ds vs):IOk K B (Itl K a) nx m0 H0:=by
 intro m S H i x R;refine⟨fun e=>?_,fun d e=>?_⟩
 ·obtain⟨ds,vs,e',sq,vd⟩:=h m S H i _ x R e;exact⟨vs,sq,by rw[<-vd.length];exact Z7.mp e'.symm⟩
 ·obtain⟨ds,vs,e',sq,vd⟩:=h m S H i _ x R e;obtain⟨v,hv,vv⟩:=vd.get e'.symm;refine⟨⟨vs,v,sq,hv⟩,fun y H' ⟨eH,hy⟩=>?_⟩;subst eH;have:=hy vs sq;rw[hv] at this;cases this;exact⟨Aft.refl R,vv⟩
theorem yZ{a:Addr}{ds:List D}{vs:List V}{m0:List Addr}{H0:Hp}{S0:Sto}(R0:Rel K m0 S0 H0)(hB:AtB B m0 H0)(sq:H0 a=some (.tup vs))(vd:VDs K m0 H0 ds vs):IOk K B (Itt K a) (nxL ds) m0 H0:=by
 intro m S H i x R;have sq':SqT K H a vs:=.of (yY R0 hB x sq);have vd':=vd.monoB R0 hB x;refine⟨fun e=>⟨vs,sq',?_⟩,fun d e=>?_⟩
 ·rw[<-vd'.length];exact Z7.mp (Option.some.inj e)
 ·obtain⟨v,hv,vv⟩:=vd'.get (Option.some.inj e);refine⟨⟨vs,v,sq',hv⟩,fun y H' ⟨eH,hy⟩=>?_⟩;subst eH;have:=hy vs sq';rw[hv] at this;cases this;exact⟨Aft.refl R,vv⟩
theorem qq{lo:Int}{n:Nat}{m0:List Addr}{H0:Hp}:IOk K B (Itr lo n) (nxR lo n) m0 H0:=by
 intro m S H i x R;unfold nxR;refine⟨fun e=>?_,fun d e=>?_⟩
 ·split at e
  ·cases e
  ·show n<=i;omega
 ·split at e
  ·rename_i hi;cases e;exact⟨hi,fun y H' ⟨eH,hy⟩=>by subst eH;subst hy;exact⟨Aft.refl R,bE⟩⟩
  ·cases e
theorem lD{a:Addr}{sqf:Wu->Hp->Addr->List V->Prop}{nx:Nxt}{m0:List Addr}{H0:Hp}(h:∀m S H i o,ExtB B m0 H0 m H->Rel K m S H->nx i S=some o->∃ds vs,enm ds i=some o/\sqf K H a vs/\VDs K m H ds vs):IOk K B (Ite K a sqf) nx m0 H0:=by
 intro m S H i x R;refine⟨fun e=>?_,fun d e=>?_⟩
 ·obtain⟨ds,vs,e',sq,vd⟩:=h m S H i _ x R e;unfold enm at e';split at e'
  ·rename_i hl;refine⟨vs,sq,?_⟩;rw[<-vd.length];cases hd:ds[i]? with
   |none=>have:=Z7.mp hd;omega
   |some z=>rw[hd] at e';cases e'
  ·cases e'
 ·obtain⟨ds,vs,e',sq,vd⟩:=h m S H i _ x R e;unfold enm at e';split at e'
  ·cases hd:ds[i]? with
   |none=>rw[hd] at e';cases e'
   |some z=>
    rw[hd] at e';cases e';obtain⟨v,hv,vv⟩:=vd.get hd;refine⟨⟨vs,v,sq,hv⟩,fun y H' ⟨T,hT,ey,hy⟩=>?_⟩;subst ey;have eH:=hy vs v sq hv;subst eH;have xb:=Ext.beside R hT (.tup [.int i,v]);exact⟨⟨xb,R.beside hT _⟩,lp ao (.cons bE (.cons (vv.mono R xb) .nil))⟩
  ·cases e'
noncomputable def KB(d:D):Option Nxt:=match d with
 |.tup ds=>some (nxL ds)
 |.ref n=>some (nxS n)
 |_=>none
noncomputable def xIV(x:XE):XI:=fun ρ S=>bnd (x ρ S) fun d S1=>match d with
 |.tup ds=>some (nxL ds,S1)
 |.ref n=>if (ah S1 n).isSome=true then some (nxS n,S1) else none
 |_=>none
noncomputable def xIT(x:XA):XI:=fun ρ S=>bnd (x ρ S) fun ds S1=>some (nxL ds,S1)
noncomputable def xEV(x:XE):XI:=fun ρ S=>bnd (x ρ S) fun d S1=>match d with
 |.tup ds=>some (mU ds,S1)
 |.ref n=>if (ah S1 n).isSome=true then some (uN n,S1) else none
 |_=>none
noncomputable def xET(x:XA):XI:=fun ρ S=>bnd (x ρ S) fun ds S1=>some (mU ds,S1)
noncomputable def lim(i:Int):Bool:=decide (-(2 ^ 62)<=i) && decide (i < 2 ^ 62)
noncomputable def xR1(x:XE):XI:=fun ρ S=>bnd (x ρ S) fun d S1=>match d with
 |.int j=>if lim j=true then some (nxR 0 j.toNat,S1) else none
 |_=>none
noncomputable def xR2(x y:XE):XI:=fun ρ S=>bnd (x ρ S) fun d S1=>bnd (y ρ S1) fun e S2=>match d,e with
 |.int i,.int j=>if lim i=true/\lim j=true then some (nxR i (j - i).toNat,S2) else none
 |_,_=>none
theorem gJ{i:Int}(h:lim i=true):-(2 ^ 62)<=i/\i < 2 ^ 62:=by simpa[lim] using h
theorem ir{n:Nat}{a:Addr}{m0:List Addr}(ha:m0[n]?=some a){m:List Addr}{S:Sto}{H:Hp}(x:m0 <+: m)(R:Rel K m S H){ds:List D}(hs:ah S n=some ds):∃vs,SqL K H a vs/\VDs K m H ds vs:=by
 obtain⟨p,vs,hp,sq,vd⟩:=R.seq hs;have:=io x ha;rw[this] at hp;cases hp;exact⟨vs,sq,vd⟩
theorem Hz{a:Addr}(hB:AtB B m H)(h:H a=none):a ∉ B:=fun z=>by
 obtain⟨⟨vs,e⟩,_⟩:=hB a z;rw[h] at e;cases e
theorem J5{x:XE}{σ:L2.St}{H:Hp}{R:It->Hp->Prop}(h:tIt K B (xIV x) σ H R):tM K (tE K x) σ H R\/GY K (tE K x) σ H R:=by
 obtain⟨m,ρ,S,nx,S',E,Rl,hB,e,q⟩:=h;obtain⟨d,S1,e1,e⟩:=aa e;cases d with
 |tup ds=>
  cases e;refine .inr ⟨m,ρ,S,_,_,E,Rl,e1,fun m1 H1 v A1 vd=>?_⟩;obtain⟨a,vs,rfl,sq,vds⟩:=vd.tups;exact⟨a,rfl,⟨vs,.of sq⟩,q m1 H1 _ A1 (yZ A1.rel (hB.ext A1.ext) sq vds)⟩
 |ref n=>
  dsimp only at e;split at e
  ·rename_i hs;cases e;refine .inl ⟨m,ρ,S,_,_,E,Rl,e1,fun m1 H1 v A1 vd=>?_⟩;obtain⟨a,ha,rfl⟩:=vd.refs;obtain⟨ds,hds⟩:=ZL.mp hs;obtain⟨vs,sq,vds⟩:=ir ha (Z1 _) A1.rel hds;refine⟨a,rfl,⟨vs,sq⟩,q m1 H1 _ A1 (mV fun m2 S2 H2 i o x2 R2 e2=>?_)⟩;unfold nxS at e2;cases h2:ah S2 n with
   |none=>rw[h2] at e2;cases e2
   |some es=>
    rw[h2] at e2;cases e2;obtain⟨ws,sq2,vd2⟩:=ir ha x2.pre R2 h2;exact⟨es,ws,rfl,sq2,vd2⟩
  ·cases e
 |_=>cases e
theorem J6{x:XA}{σ:L2.St}{H:Hp}{R:It->Hp->Prop}(h:tIt K B (xIT x) σ H R):tM K (fq K x) σ H R:=by
 obtain⟨m,ρ,S,nx,S',E,Rl,hB,e,q⟩:=h;obtain⟨ds,S1,e1,e⟩:=aa e;cases e;refine⟨m,ρ,S,_,_,E,Rl,e1,fun m1 H1 a vs A1 sq n1 n2 n3 vd=>⟨a,rfl,⟨vs,.of sq⟩,q m1 H1 _ A1 (mV fun m2 S2 H2 i o x2 R2 e2=>?_)⟩⟩;cases e2;exact⟨ds,vs,rfl,.of (x2.keep _ _ sq n1 (Hz hB n3)),vd.monoB A1.rel (hB.ext A1.ext) x2⟩
theorem HA{x:XE}{σ:L2.St}{H:Hp}{R:It->Hp->Prop}(h:tIt K B (xEV x) σ H R):C4 K (cJ (tE K x) iC) σ H R\/Hm K (cJ (tE K x) iC) σ H R:=by
 obtain⟨m,ρ,S,nx,S',E,Rl,hB,e,q⟩:=h;obtain⟨d,S1,e1,e⟩:=aa e;cases d with
 |tup ds=>
  cases e;refine .inr ⟨m,ρ,S,_,_,E,Rl,e1,fun m1 H1 v A1 vd=>?_⟩;obtain⟨a,vs,rfl,sq,vds⟩:=vd.tups;refine⟨a,vs,rfl,.of sq,q m1 H1 _ A1 (lD fun m2 S2 H2 i o x2 R2 e2=>⟨ds,vs,e2,.of (yY A1.rel (hB.ext A1.ext) x2 sq),vds.monoB A1.rel (hB.ext A1.ext) x2⟩)⟩
 |ref n=>
  dsimp only at e;split at e
  ·rename_i hs;cases e;refine .inl ⟨m,ρ,S,_,_,E,Rl,e1,fun m1 H1 v A1 vd=>?_⟩;obtain⟨a,ha,rfl⟩:=vd.refs;obtain⟨ds,hds⟩:=ZL.mp hs;obtain⟨vs,sq,vds⟩:=ir ha (Z1 _) A1.rel hds;refine⟨a,vs,rfl,sq,q m1 H1 _ A1 (lD fun m2 S2 H2 i o x2 R2 e2=>?_)⟩;unfold uN at e2;cases h2:ah S2 n with
   |none=>rw[h2] at e2;cases e2
   |some es=>
    rw[h2] at e2;obtain⟨ws,sq2,vd2⟩:=ir ha x2.pre R2 h2;exact⟨es,ws,e2,sq2,vd2⟩
  ·cases e
 |_=>cases e
theorem HB{x:XA}{σ:L2.St}{H:Hp}{R:It->Hp->Prop}(h:tIt K B (xET x) σ H R):C4 K (cJ (fq K x) iC) σ H R:=by
 obtain⟨m,ρ,S,nx,S',E,Rl,hB,e,q⟩:=h;obtain⟨ds,S1,e1,e⟩:=aa e;cases e;exact⟨m,ρ,S,_,_,E,Rl,e1,fun m1 H1 a vs A1 sq n1 n2 n3 vd=>⟨a,vs,rfl,.of sq,q m1 H1 _ A1 (lD fun m2 S2 H2 i o x2 R2 e2=>⟨ds,vs,e2,.of (x2.keep _ _ sq n1 (Hz hB n3)),vd.monoB A1.rel (hB.ext A1.ext) x2⟩)⟩⟩
theorem HC{x:XE}{σ:L2.St}{H:Hp}{R:It->Hp->Prop}(h:tIt K B (xR1 x) σ H R):BB (cJ (tE K x) iC) σ H R:=by
 obtain⟨m,ρ,S,nx,S',E,Rl,hB,e,q⟩:=h;obtain⟨d,S1,e1,e⟩:=aa e;refine⟨m,ρ,S,d,S1,E,Rl,e1,fun m1 H1 v A1 vd=>?_⟩;cases d with
 |int j=>
  dsimp only at e;split at e
  ·rename_i hl;cases e;exact⟨j,by rw[vd.ints],(gJ hl).1,(gJ hl).2,q m1 H1 _ A1 qq⟩
  ·cases e
 |_=>cases e
theorem HD{x y:XE}{σ:L2.St}{H:Hp}{R:It->Hp->Prop}(h:tIt K B (xR2 x y) σ H R):BC (cJ (tE K x) (cJ (tE K y) iC)) σ H R:=by
 obtain⟨m,ρ,S,nx,S',E,Rl,hB,e,q⟩:=h;obtain⟨d,S1,e1,e⟩:=aa e;obtain⟨c,S2,e2,e⟩:=aa e;refine⟨m,ρ,S,d,S1,E,Rl,e1,fun m1 H1 v A1 vd=>⟨m1,ρ,S1,c,S2,E.mono Rl A1.ext,A1.rel,e2,fun m2 H2 w A2 vc=>?_⟩⟩;cases d with
 |int i=>
  cases c with
  |int j=>
   dsimp only at e;split at e
   ·rename_i hl;cases e;exact⟨i,j,by rw[vd.ints,vc.ints],⟨(gJ hl.1).1,(gJ hl.1).2,(gJ hl.2).1,(gJ hl.2).2⟩,q m2 H2 _ (A1.trans A2) qq⟩
   ·cases e
  |_=>cases e
 |_=>cases e
inductive Tg where
 |name (i:Nat) |tup (ts:List Tg)
mutual
noncomputable def am:Tg->D->Rho->Option Rho
 |.name i,d,ρ=>if i < ρ.length then some (ρ.set i (some d)) else none
 |.tup ts,.tup ds,ρ=>ax ts ds ρ
 |_,_,_=>none
noncomputable def ax:List Tg->List D->Rho->Option Rho
 |[],[],ρ=>some ρ
 |t::ts,d::ds,ρ=>match am t d ρ with
  |some ρ'=>ax ts ds ρ'
  |none=>none
 |_,_,_=>none
end
def tTg(K:Wu)(t:Tg):TG:=fun x σ H Q=>∃m S ρ d ρ',Rel K m S H/\EnvR K m H ρ σ/\VD K m H d x/\am t d ρ=some ρ'/\∀σ',EnvR K m H ρ' σ'->Q σ' H
def uO(K:Wu)(ts:List Tg):TGs:=fun xs σ H Q=>∃m S ρ ds ρ',Rel K m S H/\EnvR K m H ρ σ/\VDs K m H ds xs/\ax ts ds ρ=some ρ'/\∀σ',EnvR K m H ρ' σ'->Q σ' H
theorem EnvR.set{ρ:Rho}{σ:L2.St}{i:Nat}{d:D}{v:V}(E:EnvR K m H ρ σ)(h:VD K m H d v):EnvR K m H (ρ.set i (some d)) (σ.set i (some v)):=by
 refine⟨by simp[E.len],fun j d' e=>?_⟩;rw[Yk] at e;rw[Yk,<-E.len];by_cases hj:i=j
 ·rw[if_pos hj] at e ⊢;split at e
  ·rename_i hl;rw[if_pos hl];cases e;exact⟨v,rfl,h⟩
  ·cases e
 ·rw[if_neg hj] at e ⊢;exact E.at_ j d' e
theorem lF{i:Nat}{x:V}{σ:L2.St}{H:Hp}{Q:L2.St->Hp->Prop}(h:tTg K (.name i) x σ H Q):jR i x σ H Q:=by
 obtain⟨m,S,ρ,d,ρ',R,E,vd,e,q⟩:=h;simp only[am] at e;split at e
 ·cases e;exact q _ (E.set vd)
 ·cases e
theorem DI{ts:List Tg}{n:Nat}{x:V}{σ:L2.St}{H:Hp}{Q:L2.St->Hp->Prop}(hn:n=ts.length)(h:tTg K (.tup ts) x σ H Q):GV K n (uO K ts) x σ H Q:=by
 obtain⟨m,S,ρ,d,ρ',R,E,vd,e,q⟩:=h;cases d with
 |tup ds=>
  simp only[am] at e;obtain⟨a,vs,rfl,sq,vds⟩:=vd.tups;refine⟨a,vs,rfl,.of sq,?_,m,S,ρ,ds,ρ',R,E,vds,e,q⟩
  have len:∀ (ts:List Tg) (ds:List D) (ρ ρ':Rho),ax ts ds ρ=some ρ'->ts.length=ds.length:=by
   intro ts
   induction ts with
   |nil=>intro ds ρ ρ' e;cases ds with |nil=>rfl |cons _ _=>simp[ax] at e
   |cons t ts ih=>
    intro ds ρ ρ' e;cases ds with
    |nil=>simp[ax] at e
    |cons d ds=>
     simp only[ax] at e;split at e
     ·simp[ih _ _ _ e]
     ·cases e
  rw[hn,<-vds.length];exact(len _ _ _ _ e).symm
 |_=>simp[am] at e
theorem y6{xs:List V}{σ:L2.St}{H:Hp}{Q:L2.St->Hp->Prop}(h:uO K [] xs σ H Q):GU xs σ H Q:=by
 obtain⟨m,S,ρ,ds,ρ',R,E,vd,e,q⟩:=h;cases ds with
 |nil=>simp[ax] at e;subst e;rw[VDs] at vd;exact⟨vd,q _ E⟩
 |cons _ _=>simp[ax] at e
theorem uQ{t:Tg}{ts:List Tg}{xs:List V}{σ:L2.St}{H:Hp}{Q:L2.St->Hp->Prop}(h:uO K (t::ts) xs σ H Q):BA (tTg K t) (uO K ts) xs σ H Q:=by
 obtain⟨m,S,ρ,ds,ρ',R,E,vd,e,q⟩:=h;cases ds with
 |nil=>simp[ax] at e
 |cons d ds=>
  simp only[ax] at e;rw[VDs] at vd;obtain⟨y,r,rfl,p,p'⟩:=vd;cases hb:am t d ρ with
  |none=>rw[hb] at e;cases e
  |some ρ1=>
   rw[hb] at e;exact⟨y,r,rfl,m,S,ρ,d,ρ1,R,E,p,hb,fun σ' E'=>⟨m,S,ρ1,ds,ρ',R,E',p',e,q⟩⟩
theorem PG.imp{e:Expr}{t t':TG}(h:PG X e t)(f:∀x σ H Q,t' x σ H Q->t x σ H Q):PG X e t':=fun pins s σ H v u Q I r q=>h pins s σ H v u Q I r (f v σ H Q q)
theorem PGs.imp{es:List Expr}{t t':TGs}(h:PGs X es t)(f:∀x σ H Q,t' x σ H Q->t x σ H Q):PGs X es t':=fun pins s σ H v u Q I r q=>h pins s σ H v u Q I r (f v σ H Q q)
end
inductive Fl where
 |nx |bk |ct |rt (d:D)
abbrev XS:=Rho->Sto->Option (Fl × Rho × Sto)
def qr(K:Wu)(m:List Addr)(H:Hp)(fl:Fl)(ρ:Rho)(D:Ends):Prop:=match fl with
 |.nx=>∀σ,EnvR K m H ρ σ->D.nx σ H
 |.bk=>∀σ,EnvR K m H ρ σ->D.bk σ H
 |.ct=>∀σ,EnvR K m H ρ σ->D.ct σ H
 |.rt d=>∀v,VD K m H d v->D.rt v H
def tSt(K:Wu)(x:XS):TS:=fun D σ H=>∃m ρ S fl ρ' S',EnvR K m H ρ σ/\Rel K m S H/\x ρ S=some (fl,ρ',S')/\∀m' H',Aft K m H S' m' H'->qr K m' H' fl ρ' D
section
variable {X:Cx} {K:Wu} {m:List Addr} {H:Hp} {S:Sto}
noncomputable def oP(x y:XS):XS:=fun ρ S=>match x ρ S with
 |none=>none
 |some (.nx,ρ1,S1)=>y ρ1 S1
 |some r=>some r
noncomputable def BM:XS:=fun ρ S=>some (.nx,ρ,S)
theorem y7{D:Ends}{σ:L2.St}{H:Hp}(h:tSt K BM D σ H):Bw D σ H:=by
 obtain⟨m,ρ,S,fl,ρ',S',E,R,e,q⟩:=h;cases e;exact q m H (Aft.refl R) σ E
theorem DJ{x y:XS}{D:Ends}{σ:L2.St}{H:Hp}(h:tSt K (oP x y) D σ H):GQ (tSt K x) (tSt K y) D σ H:=by
 obtain⟨m,ρ,S,fl,ρ',S',E,R,e,q⟩:=h;unfold oP at e;cases hx:x ρ S with
 |none=>rw[hx] at e;cases e
 |some r=>
  obtain⟨f1,ρ1,S1⟩:=r;rw[hx] at e;refine⟨m,ρ,S,f1,ρ1,S1,E,R,hx,fun m1 H1 A1=>?_⟩;cases f1 with
  |nx=>exact fun σ1 E1=>⟨m1,ρ1,S1,fl,ρ',S',E1,A1.rel,e,fun m2 H2 A2=>q m2 H2 (A1.trans A2)⟩
  |bk=>cases e;exact q m1 H1 A1
  |ct=>cases e;exact q m1 H1 A1
  |rt d=>cases e;exact q m1 H1 A1
noncomputable def mW(x:XE):XS:=fun ρ S=>match x ρ S with
 |none=>none
 |some (_,S1)=>some (.nx,ρ,S1)
noncomputable def uR(x:XE):XS:=fun ρ S=>match x ρ S with
 |none=>none
 |some (d,S1)=>some (.rt d,ρ,S1)
noncomputable def HE:XS:=fun ρ S=>some (.ct,ρ,S)
theorem y8{x:XE}{D:Ends}{σ:L2.St}{H:Hp}(h:tSt K (mW x) D σ H):Bz (tE K x) D σ H:=by
 obtain⟨m,ρ,S,fl,ρ',S',E,R,e,q⟩:=h;unfold mW at e;cases hx:x ρ S with
 |none=>rw[hx] at e;cases e
 |some r=>
  obtain⟨d,S1⟩:=r;rw[hx] at e;cases e;exact⟨m,ρ,S,d,_,E,R,hx,fun m1 H1 v A1 _=>q m1 H1 A1 σ (E.mono R A1.ext)⟩
theorem DK{x:XE}{D:Ends}{σ:L2.St}{H:Hp}(h:tSt K (uR x) D σ H):GR (tE K x) D σ H:=by
 obtain⟨m,ρ,S,fl,ρ',S',E,R,e,q⟩:=h;unfold uR at e;cases hx:x ρ S with
 |none=>rw[hx] at e;cases e
 |some r=>
  obtain⟨d,S1⟩:=r;rw[hx] at e;cases e;exact⟨m,ρ,S,d,_,E,R,hx,fun m1 H1 v A1 vd=>q m1 H1 A1 v vd⟩
theorem DL{D:Ends}{σ:L2.St}{H:Hp}(h:tSt K HE D σ H):Bx D σ H:=by
 obtain⟨m,ρ,S,fl,ρ',S',E,R,e,q⟩:=h;cases e;exact q m H (Aft.refl R) σ E
noncomputable def xIf(c:XT)(x y:XS):XS:=fun ρ S=>match c ρ S with
 |none=>none
 |some (b,S1)=>if b=true then x ρ S1 else y ρ S1
theorem HF{c:XT}{x y:XS}{D:Ends}{σ:L2.St}{H:Hp}(h:tSt K (xIf c x y) D σ H):GS (tT K c) (tSt K x) (tSt K y) D σ H:=by
 obtain⟨m,ρ,S,fl,ρ',S',E,R,e,q⟩:=h;unfold xIf at e;cases hc:c ρ S with
 |none=>rw[hc] at e;cases e
 |some r=>
  obtain⟨b,S1⟩:=r;rw[hc] at e;dsimp only at e;refine⟨m,ρ,S,b,S1,E,R,hc,fun m1 H1 A1=>?_⟩;dsimp only;split
  ·rename_i hb;rw[if_pos hb] at e;exact⟨m1,ρ,S1,fl,ρ',S',E.mono R A1.ext,A1.rel,e,fun m2 H2 A2=>q m2 H2 (A1.trans A2)⟩
  ·rename_i hb;rw[if_neg hb] at e;exact⟨m1,ρ,S1,fl,ρ',S',E.mono R A1.ext,A1.rel,e,fun m2 H2 A2=>q m2 H2 (A1.trans A2)⟩
noncomputable def i7(x:XE)(t:Tg):XS:=fun ρ S=>match x ρ S with
 |none=>none
 |some (d,S1)=>(am t d ρ).map fun ρ1=>(.nx,ρ1,S1)
theorem oQ{x:XE}{t:Tg}{D:Ends}{σ:L2.St}{H:Hp}(h:tSt K (i7 x t) D σ H):tI (tE K x) (tTg K t) D σ H:=by
 obtain⟨m,ρ,S,fl,ρ',S',E,R,e,q⟩:=h;unfold i7 at e;cases hx:x ρ S with
 |none=>rw[hx] at e;cases e
 |some r=>
  obtain⟨d,S1⟩:=r;rw[hx] at e;dsimp only at e;cases hb:am t d ρ with
  |none=>rw[hb] at e;cases e
  |some ρ1=>
   rw[hb] at e;cases e;exact⟨m,ρ,S,d,_,E,R,hx,fun m1 H1 v A1 vd=>⟨m1,_,ρ,d,_,A1.rel,E.mono R A1.ext,vd,hb,fun σ' E'=>q m1 H1 A1 σ' E'⟩⟩
noncomputable def mX(v o i:XE):XS:=fun ρ S=>match v ρ S with
 |none=>none
 |some (dv,S1)=>match o ρ S1 with
  |none=>none
  |some (d_o,S2)=>match i ρ S2 with
   |none=>none
   |some (di,S3)=>(lB d_o di dv S3).map fun S4=>(.nx,ρ,S4)
theorem y9{v o i:XE}{D:Ends}{σ:L2.St}{H:Hp}(h:tSt K (mX v o i) D σ H):tI (tE K v) (GW (tE K o) (tE K i) (Hx K)) D σ H:=by
 obtain⟨m,ρ,S,fl,ρ',S',E,R,e,q⟩:=h;unfold mX at e;cases h1:v ρ S with
 |none=>rw[h1] at e;cases e
 |some r1=>
  obtain⟨dv,S1⟩:=r1;rw[h1] at e;dsimp only at e;cases h2:o ρ S1 with
  |none=>rw[h2] at e;cases e
  |some r2=>
   obtain⟨d2,S2⟩:=r2;rw[h2] at e;dsimp only at e;cases h3:i ρ S2 with
   |none=>rw[h3] at e;cases e
   |some r3=>
    obtain⟨d3,S3⟩:=r3;rw[h3] at e;dsimp only at e;cases h4:lB d2 d3 dv S3 with
    |none=>rw[h4] at e;cases e
    |some S4=>
     rw[h4] at e;cases e;refine⟨m,ρ,S,dv,S1,E,R,h1,fun m1 H1 v1 A1 vd1=>⟨m1,ρ,S1,d2,S2,E.mono R A1.ext,A1.rel,h2,fun m2 H2 v2 A2 vd2=>⟨m2,ρ,S2,d3,S3,E.mono R (A1.trans A2).ext,A2.rel,h3,fun m3 H3 v3 A3 vd3=>?_⟩⟩⟩;exact⟨m3,S3,d2,d3,dv,_,A3.rel,vd2.mono A2.rel A3.ext,vd3,vd1.mono A1.rel (A2.trans A3).ext,h4,fun m4 H4 A4=>q m4 H4 (((A1.trans A2).trans A3).trans A4) σ (E.mono R (((A1.trans A2).trans A3).trans A4).ext)⟩
noncomputable def dm(nx:Nxt)(tg:Tg)(b:XS):Nat->Nat->XS
 |0,_=>fun _ _=>none
 |k+1,i=>fun ρ S=>match nx i S with
  |none=>none
  |some none=>some (.nx,ρ,S)
  |some (some d)=>match am tg d ρ with
   |none=>none
   |some ρ1=>match b ρ1 S with
    |none=>none
    |some (.nx,ρ2,S2)=>dm nx tg b k (i+1) ρ2 S2
    |some (.ct,ρ2,S2)=>dm nx tg b k (i+1) ρ2 S2
    |some (.bk,ρ2,S2)=>some (.nx,ρ2,S2)
    |some (.rt d,ρ2,S2)=>some (.rt d,ρ2,S2)
noncomputable def uS(it:XI)(tg:Tg)(b:XS)(k:Nat):XS:=fun ρ S=>match it ρ S with
 |none=>none
 |some (nx,S1)=>dm nx tg b k 0 ρ S1
theorem zc{nx:Nxt}{tg:Tg}{b:XS}{J:It}{m1:List Addr}{H1:Hp}{D:Ends}(hI:IOk K [] J nx m1 H1)(k:Nat){m:List Addr}{ρ:Rho}{S:Sto}{σ:L2.St}{H:Hp}{fl:Fl}{ρ':Rho}{S':Sto}(E:EnvR K m H ρ σ)(R:Rel K m S H)(x:Ext m1 H1 m H)(e:dm nx tg b k 0 ρ S=some (fl,ρ',S'))(q:∀m' H',Aft K m H S' m' H'->qr K m' H' fl ρ' D) :
  ∃W:Nat->Nat->L2.St->Hp->Prop,(∃m,W 0 m σ H)/\∀i m σ H,W i m σ H ->
   (J.stop i H/\D.nx σ H)\/(J.go i H/\∃N:L2.St->Hp->Prop,(∀σ' H',N σ' H'->∃m',m' < m/\W (i+1) m' σ' H')/\∀x H',J.yld i H x H'->tTg K tg x σ H' fun σ2 H2=>tSt K b { D with nx:=N,ct:=N,bk:=D.nx } σ2 H2):=by
 refine⟨fun i k σ H=>∃m ρ S fl ρ' S',EnvR K m H ρ σ/\Rel K m S H/\Ext m1 H1 m H/\dm nx tg b k i ρ S=some (fl,ρ',S')/\∀m' H',Aft K m H S' m' H'->qr K m' H' fl ρ' D,⟨k,m,ρ,S,fl,ρ',S',E,R,x,e,q⟩,?_⟩;intro i k σ H ⟨m,ρ,S,fl,ρ',S',E,R,x,e,q⟩;cases k with
 |zero=>simp[dm] at e
 |succ k=>
  simp only[dm] at e;cases hn:nx i S with
  |none=>rw[hn] at e;cases e
  |some o=>
   rw[hn] at e;obtain⟨h1,h2⟩:=hI m S H i (x.toB fun b hb=>absurd hb (by simp)) R;cases o with
   |none=>cases e;exact .inl ⟨h1 hn,q m H (Aft.refl R) σ E⟩
   |some d=>
    obtain⟨go,hy⟩:=h2 d hn;dsimp only at e;cases hb:am tg d ρ with
    |none=>rw[hb] at e;cases e
    |some ρ1=>
     rw[hb] at e;dsimp only at e;cases hx:b ρ1 S with
     |none=>rw[hx] at e;cases e
     |some r=>
      obtain⟨f2,ρ2,S2⟩:=r;rw[hx] at e;refine .inr ⟨go,fun σ' H'=>∃m ρ S fl ρ' S',EnvR K m H' ρ σ'/\Rel K m S H'/\Ext m1 H1 m H'/\dm nx tg b k (i+1) ρ S=some (fl,ρ',S')/\∀m' H'',Aft K m H' S' m' H''->qr K m' H'' fl ρ' D,fun σ' H' z=>⟨k,YM k,z⟩,fun y H' yl=>?_⟩;obtain⟨A,vd⟩:=hy y H' yl;refine⟨m,S,ρ,d,ρ1,A.rel,E.mono R A.ext,vd,hb,fun σ2 E2=>⟨m,ρ1,S,f2,ρ2,S2,E2,A.rel,hx,fun m3 H3 A3=>?_⟩⟩;cases f2 with
      |nx=>exact fun σ3 E3=>⟨m3,ρ2,S2,fl,ρ',S',E3,A3.rel,(x.trans A.ext).trans A3.ext,e,fun m4 H4 A4=>q m4 H4 ((A.trans A3).trans A4)⟩
      |ct=>exact fun σ3 E3=>⟨m3,ρ2,S2,fl,ρ',S',E3,A3.rel,(x.trans A.ext).trans A3.ext,e,fun m4 H4 A4=>q m4 H4 ((A.trans A3).trans A4)⟩
      |bk=>cases e;exact fun σ3 E3=>q m3 H3 (A.trans A3) σ3 E3
      |rt d=>cases e;exact fun v vd=>q m3 H3 (A.trans A3) v vd
theorem DM{it:XI}{tg:Tg}{b:XS}{k:Nat}{D:Ends}{σ:L2.St}{H:Hp}(h:tSt K (uS it tg b k) D σ H):GZ (tIt K [] it) (tTg K tg) (tSt K b) D σ H:=by
 obtain⟨m,ρ,S,fl,ρ',S',E,R,e,q⟩:=h;unfold uS at e;cases hi:it ρ S with
 |none=>rw[hi] at e;cases e
 |some r=>
  obtain⟨nx,S1⟩:=r;rw[hi] at e;exact⟨m,ρ,S,nx,S1,E,R,fun b hb=>absurd hb (by simp),hi,fun m1 H1 J A1 hI=>zc hI k (E.mono R A1.ext) A1.rel (Ext.refl _ _) e fun m2 H2 A2=>q m2 H2 (A1.trans A2)⟩
noncomputable def bF(c:XT)(b:XS):Nat->XS
 |0=>fun _ _=>none
 |k+1=>fun ρ S=>match c ρ S with
  |none=>none
  |some (false,S1)=>some (.nx,ρ,S1)
  |some (true,S1)=>match b ρ S1 with
   |none=>none
   |some (.nx,ρ2,S2)=>bF c b k ρ2 S2
   |some (.ct,ρ2,S2)=>bF c b k ρ2 S2
   |some (.bk,ρ2,S2)=>some (.nx,ρ2,S2)
   |some (.rt d,ρ2,S2)=>some (.rt d,ρ2,S2)
theorem uT{c:XT}{b:XS}{k:Nat}{D:Ends}{σ:L2.St}{H:Hp}(h:tSt K (bF c b k) D σ H):tJ (tT K c) (tSt K b) D σ H:=by
 refine⟨fun k σ H=>tSt K (bF c b k) D σ H,⟨k,h⟩,fun k σ H h=>?_⟩;obtain⟨m,ρ,S,fl,ρ',S',E,R,e,q⟩:=h;cases k with
 |zero=>simp[bF] at e
 |succ k=>
  simp only[bF] at e;cases hc:c ρ S with
  |none=>rw[hc] at e;cases e
  |some r=>
   obtain⟨bb,S1⟩:=r;rw[hc] at e;refine⟨m,ρ,S,bb,S1,E,R,hc,fun m1 H1 A1=>?_⟩;cases bb with
   |false=>cases e;exact q m1 H1 A1 σ (E.mono R A1.ext)
   |true=>
    dsimp only at e;cases hx:b ρ S1 with
    |none=>rw[hx] at e;cases e
    |some r=>
     obtain⟨f2,ρ2,S2⟩:=r;rw[hx] at e;refine⟨fun σ' H'=>tSt K (bF c b k) D σ' H',fun σ' H' z=>⟨k,YM k,z⟩,m1,ρ,S1,f2,ρ2,S2,E.mono R A1.ext,A1.rel,hx,fun m3 H3 A3=>?_⟩;cases f2 with
     |nx=>exact fun σ3 E3=>⟨m3,ρ2,S2,fl,ρ',S',E3,A3.rel,e,fun m4 H4 A4=>q m4 H4 ((A1.trans A3).trans A4)⟩
     |ct=>exact fun σ3 E3=>⟨m3,ρ2,S2,fl,ρ',S',E3,A3.rel,e,fun m4 H4 A4=>q m4 H4 ((A1.trans A3).trans A4)⟩
     |bk=>cases e;exact fun σ3 E3=>q m3 H3 (A1.trans A3) σ3 E3
     |rt d=>cases e;exact fun v vd=>q m3 H3 (A1.trans A3) v vd
end
mutual
noncomputable def cN:Tg->Rho->Bool
 |.name i,ρ=>match ρ[i]? with
  |some none=>true
  |_=>false
 |.tup ts,ρ=>dZ ts ρ
noncomputable def dZ:List Tg->Rho->Bool
 |[],_=>true
 |t::ts,ρ=>cN t ρ && dZ ts ρ
end
structure LeR(ρ ρ':Rho):Prop where
 len:ρ.length=ρ'.length
 at_:∀ (i:Nat) (d:D),ρ[i]?=some (some d)->ρ'[i]?=some (some d)
theorem LeR.refl(ρ:Rho):LeR ρ ρ:=⟨rfl,fun _ _ h=>h⟩
mutual
theorem mY{ρ0:Rho}:∀ {t:Tg} {d:D} {ρ ρ':Rho},LeR ρ0 ρ->cN t ρ0=true->am t d ρ=some ρ'->LeR ρ0 ρ'
 |.name i,d,ρ,ρ',l,f,e=>by
  simp only[am] at e;split at e
  ·cases e;refine⟨by simp[l.len],fun j d' h=>?_⟩;rw[Yk];by_cases hj:i=j
   ·subst hj;simp only[cN] at f;rw[h] at f;cases f
   ·rw[if_neg hj];exact l.at_ j d' h
  ·cases e
 |.tup ts,.tup ds,ρ,ρ',l,f,e=>by
  simp only[am] at e;simp only[cN] at f;exact j9 l f e
 |.tup ts,.non,_,_,_,_,e=>by simp[am] at e
 |.tup ts,.bl _,_,_,_,_,e=>by simp[am] at e
 |.tup ts,.int _,_,_,_,_,e=>by simp[am] at e
 |.tup ts,.str _,_,_,_,_,e=>by simp[am] at e
 |.tup ts,.ref _,_,_,_,_,e=>by simp[am] at e
theorem j9{ρ0:Rho}:∀ {ts:List Tg} {ds:List D} {ρ ρ':Rho},LeR ρ0 ρ->dZ ts ρ0=true->ax ts ds ρ=some ρ'->LeR ρ0 ρ'
 |[],[],ρ,ρ',l,_,e=>by simp only[ax] at e;cases e;exact l
 |[],_::_,_,_,_,_,e=>by simp[ax] at e
 |_::_,[],_,_,_,_,e=>by simp[ax] at e
 |t::ts,d::ds,ρ,ρ',l,f,e=>by
  simp only[ax] at e;simp only[dZ,bAE] at f;cases hb:am t d ρ with
  |none=>rw[hb] at e;cases e
  |some ρ1=>rw[hb] at e;exact j9 (mY l f.1 hb) f.2 e
end
section
variable {X:Cx} {K:Wu} {m:List Addr} {H:Hp} {S:Sto}
theorem EnvR.weaken{ρ ρ':Rho}{σ:L2.St}(E:EnvR K m H ρ' σ)(l:LeR ρ ρ'):EnvR K m H ρ σ:=⟨l.len.trans E.len,fun i d h=>E.at_ i d (l.at_ i d h)⟩
noncomputable def aW(nx:Nxt)(tg:Tg)(c:XA)(ρ:Rho):Nat->Nat->Sto->Option (List D × Sto)
 |0,_,_=>none
 |k+1,i,S=>match nx i S with
  |none=>none
  |some none=>some ([],S)
  |some (some d)=>match am tg d ρ with
   |none=>none
   |some ρ1=>bnd (c ρ1 S) fun es S1=>bnd (aW nx tg c ρ k (i+1) S1) fun rs S2=>some (es++rs,S2)
noncomputable def uU(t:XT)(c:XA):XA:=fun ρ S=>bnd (t ρ S) fun b S1=>if b=true then c ρ S1 else some ([],S1)
noncomputable def BN(x:XE):XA:=fun ρ S=>bnd (x ρ S) fun d S1=>some ([d],S1)
noncomputable def gK(it:XI)(tg:Tg)(c:XA)(k:Nat):XA:=fun ρ S=>if cN tg ρ=true then bnd (it ρ S) fun nx S1=>aW nx tg c ρ k 0 S1 else none
noncomputable def i8(own:Nat)(it:XI)(tg:Tg)(c:XA)(k:Nat):XA:=fun ρ S=>bnd (it ρ S) fun nx S1=>if cN tg (ρ++Zj own none)=true then
 (bnd (aW nx tg c (ρ++Zj own none) k 0 S1) fun es S2=>if es.length<=100000 then some (es,S2) else none) else none
def tCl(K:Wu)(acc:Addr)(c:XA):TS:=fun D σ H=>∃m ρ S es S' zs vs,EnvR K m H ρ σ/\Rel K m S H/\acc ∉ m/\H acc=some (.lst vs)/\VDs K m H zs vs/\zs.length+es.length<=100000/\c ρ S=some (es,S') ∧
 ∀m' H' σ' vs',ExtB [acc] m H m' H'->Rel K m' S' H'->H' acc=some (.lst vs')->VDs K m' H' (zs++es) vs'->EnvR K m' H' ρ σ'->D.nx σ' H'
theorem uV{acc:Addr}{vs:List V}(h:H acc=some (.lst vs))(n:acc ∉ m):AtB [acc] m H:=fun b hb=>by simp at hb;subst hb;exact⟨⟨vs,h⟩,n⟩
theorem ExtB.refl{acc:Addr}(n:acc ∉ m):ExtB [acc] m H m H:=⟨Z1 m,fun _ _ h _ _=>h,fun _ h n=>absurd h n,fun b hb=>by simp at hb;subst hb;exact n⟩
theorem ExtB.put{acc:Addr}(n:acc ∉ m)(o:HO):ExtB [acc] m H m (upd H acc o):=⟨Z1 m,fun a u h _ nb=>by
 rw[ak (fun z=>nb (by simp[z]))];exact h,fun _ h n=>absurd h n,fun b hb=>by simp at hb;subst hb;exact n⟩
theorem Rel.extB{acc:Addr}{H':Hp}(R:Rel K m S H)(hB:AtB [acc] m H)(x:ExtB [acc] m H m H')(k:∀b ∈ m,H' b=H b):Rel K m S H':=by
 refine⟨R.len,R.nd,fun i o e=>?_⟩;obtain⟨b,hb,r⟩:=R.ob i o e;have hm:b ∈ m:=Zp hb;refine⟨b,hb,?_⟩;cases o with
 |lst ds=>obtain⟨vs,p,q⟩:=r;exact⟨vs,(k b hm).trans p,VDs.monoB R hB x q⟩
 |frz ds=>obtain⟨o,vs,p,q⟩:=r;exact⟨o,vs,(k b hm).trans p,VDs.monoB R hB x q⟩
 |dic ks ds=>obtain⟨vs,p,l,q⟩:=r;exact⟨vs,(k b hm).trans p,l,VDs.monoB R hB x q⟩
theorem zd{acc:Addr}{x:XE}{D:Ends}{σ:L2.St}{H:Hp}(h:tCl K acc (BN x) D σ H):BG acc (tE K x) D σ H:=by
 obtain⟨m,ρ,S,es,S',zs,vs,E,R,na,ha,vz,hl,e,q⟩:=h;obtain⟨d,S1,e1,e⟩:=aa e;cases e;refine⟨m,ρ,S,d,_,E,R,e1,fun m1 H1 v A1 vd=>?_⟩;have hB:=uV ha na;have ha1:H1 acc=some (.lst vs):=A1.ext.keep _ _ ha na;have xB:=A1.ext.toB hB;have na1:acc ∉ m1:=xB.nb acc (by simp);have xp:=ExtB.put (H:=H1) na1 (.lst (vs++[v]));have hB1:=uV ha1 na1;have lz:=vz.length;simp only[ZE] at hl;refine⟨vs,ha1,by rw[Vp];omega,q m1 _ σ (vs++[v]) (xB.trans xp) (A1.rel.extB hB1 xp fun b hb=>ak fun z=>na1 (z ▸ hb)) ao ?_ ((E.mono R A1.ext).monoB A1.rel hB1 xp)⟩;exact VDs.append ((vz.mono R A1.ext).monoB A1.rel hB1 xp) (.cons (vd.monoB A1.rel hB1 xp) .nil)
theorem ze{acc:Addr}{t:XT}{c:XA}{D:Ends}{σ:L2.St}{H:Hp}(h:tCl K acc (uU t c) D σ H):dL (tT K t) (tCl K acc c) D σ H:=by
 obtain⟨m,ρ,S,es,S',zs,vs,E,R,na,ha,vz,hl,e,q⟩:=h;obtain⟨b,S1,e1,e⟩:=aa e;refine⟨m,ρ,S,b,S1,E,R,e1,fun m1 H1 A1=>?_⟩;have hB:=uV ha na;have ha1:H1 acc=some (.lst vs):=A1.ext.keep _ _ ha na;have xB:=A1.ext.toB hB;have na1:acc ∉ m1:=xB.nb acc (by simp);dsimp only;split
 ·rename_i hb;rw[if_pos hb] at e;exact⟨m1,ρ,S1,es,S',zs,vs,E.mono R A1.ext,A1.rel,na1,ha1,vz.mono R A1.ext,hl,e,fun m2 H2 σ2 vs2 x2 R2 h2 v2 E2=>q m2 H2 σ2 vs2 (xB.trans x2) R2 h2 v2 E2⟩
 ·rename_i hb;rw[if_neg hb] at e;cases e;refine q m1 H1 σ vs xB A1.rel ha1 ?_ (E.mono R A1.ext);rw[ZS];exact vz.mono R A1.ext
theorem mZ{t:TS}{D:Ends}{σ:L2.St}{H:Hp}(h:t D σ H):dL yj t D σ H:=by
 show if true=true then t D σ H else D.nx σ H
 rw[if_pos rfl];exact h
theorem DN{acc:Addr}{c:XA}{D:Ends}{σ:L2.St}{H:Hp}(h:tCl K acc c D σ H):dL yj (tCl K acc c) D σ H:=by
 exact mZ h
theorem qt{acc:Addr}{nx:Nxt}{tg:Tg}{c:XA}{J:It}{ts:TS}{m1:List Addr}{H1:Hp}{EE:Ends}(hI:IOk K [acc] J nx m1 H1)(hts:∀D σ H,tCl K acc c D σ H->ts D σ H)(k:Nat){m:List Addr}{ρ:Rho}{S S':Sto}{es zs:List D}{vs:List V}{σ:L2.St}{H:Hp}
  (fr:cN tg ρ=true) (E:EnvR K m H ρ σ) (R:Rel K m S H) (x:ExtB [acc] m1 H1 m H) (ha:H acc=some (.lst vs)) (vz:VDs K m H zs vs) (hl:zs.length+es.length<=100000) (e:aW nx tg c ρ k 0 S=some (es,S'))
  (q:∀m' H' σ' vs',ExtB [acc] m H m' H'->Rel K m' S' H'->H' acc=some (.lst vs')->VDs K m' H' (zs++es) vs'->EnvR K m' H' ρ σ'->EE.nx σ' H'):mt J (tTg K tg) ts EE σ H:=by
 refine⟨fun i k σ H=>∃m S S' es zs vs,EnvR K m H ρ σ/\Rel K m S H/\ExtB [acc] m1 H1 m H/\H acc=some (.lst vs)/\VDs K m H zs vs/\zs.length+es.length<=100000/\aW nx tg c ρ k i S=some (es,S') ∧
  ∀m' H' σ' vs',ExtB [acc] m H m' H'->Rel K m' S' H'->H' acc=some (.lst vs')->VDs K m' H' (zs++es) vs'->EnvR K m' H' ρ σ'->EE.nx σ' H',⟨k,m,S,S',es,zs,vs,E,R,x,ha,vz,hl,e,q⟩,?_⟩
 intro i k σ H ⟨m,S,S',es,zs,vs,E,R,x,ha,vz,hl,e,q⟩;have na:acc ∉ m:=x.nb acc (by simp);have hB:=uV ha na;cases k with
 |zero=>simp[aW] at e
 |succ k=>
  simp only[aW] at e;cases hn:nx i S with
  |none=>rw[hn] at e;cases e
  |some o=>
   rw[hn] at e;obtain⟨h1,h2⟩:=hI m S H i x R;cases o with
   |none=>
    cases e;exact .inl ⟨h1 hn,q m H σ vs (ExtB.refl na) R ha (by rw[ZS];exact vz) E⟩
   |some d=>
    obtain⟨go,hy⟩:=h2 d hn;dsimp only at e;cases hb:am tg d ρ with
    |none=>rw[hb] at e;cases e
    |some ρ1=>
     rw[hb] at e;dsimp only at e;obtain⟨e1,S1,c1,e⟩:=aa e;obtain⟨rs,S2,c2,e⟩:=aa e;cases e;rw[Zh] at hl
     refine .inr ⟨go,fun σ' H'=>∃m S S' es zs vs,EnvR K m H' ρ σ'/\Rel K m S H'/\ExtB [acc] m1 H1 m H'/\H' acc=some (.lst vs)/\VDs K m H' zs vs/\zs.length+es.length<=100000/\aW nx tg c ρ k (i+1) S=some (es,S') ∧
      ∀m' H'' σ' vs',ExtB [acc] m H' m' H''->Rel K m' S' H''->H'' acc=some (.lst vs')->VDs K m' H'' (zs++es) vs'->EnvR K m' H'' ρ σ'->EE.nx σ' H'',fun σ' H' z=>⟨k,YM k,z⟩,fun y H' yl=>?_⟩
     obtain⟨A,vd⟩:=hy y H' yl;have xA:=A.ext.toB hB;have ha':H' acc=some (.lst vs):=A.ext.keep _ _ ha na;refine⟨m,S,ρ,d,ρ1,A.rel,E.mono R A.ext,vd,hb,fun σ2 E2=>hts _ _ _ ⟨m,ρ1,S,e1,S1,zs,vs,E2,A.rel,na,ha',vz.mono R A.ext,by omega,c1,fun m3 H3 σ3 vs3 x3 R3 h3 v3 E3=>?_⟩⟩;refine⟨m3,S1,_,rs,zs++e1,vs3,E3.weaken (mY (LeR.refl ρ) fr hb),R3,(x.trans xA).trans x3,h3,v3,by rw[Zh];omega,c2,fun m4 H4 σ4 vs4 x4 R4 h4 v4 E4=>?_⟩;refine q m4 H4 σ4 vs4 ((xA.trans x3).trans x4) R4 h4 ?_ E4;rw[<-Yj];exact v4
theorem uW{acc:Addr}{it:XI}{tg:Tg}{t:TT}{c c':XA}{k:Nat}{D:Ends}{σ:L2.St}{H:Hp}(hts:∀D σ H,tCl K acc c D σ H->dL t (tCl K acc c') D σ H)(h:tCl K acc (gK it tg c k) D σ H):t6 (tIt K [acc] it) (tTg K tg) t (tCl K acc c') D σ H:=by
 obtain⟨m,ρ,S,es,S',zs,vs,E,R,na,ha,vz,hl,e,q⟩:=h;unfold gK at e;split at e
 ·rename_i fr;obtain⟨nx,S1,e1,e⟩:=aa e;have hB:=uV ha na;refine⟨m,ρ,S,nx,S1,E,R,hB,e1,fun m1 H1 J A1 hI=>?_⟩;have xB:=A1.ext.toB hB;have na1:acc ∉ m1:=xB.nb acc (by simp);exact qt hI hts k fr (E.mono R A1.ext) A1.rel (ExtB.refl na1) (A1.ext.keep _ _ ha na) (vz.mono R A1.ext) hl e fun m2 H2 σ2 vs2 x2 R2 h2 v2 E2=>q m2 H2 σ2 vs2 (xB.trans x2) R2 h2 v2 E2
 ·cases e
theorem EnvR.more{ρ:Rho}{σ:L2.St}(E:EnvR K m H ρ σ)(n:Nat):EnvR K m H (ρ++Zj n none) (σ++Zj n none):=by
 refine⟨by simp[E.len],fun i d e=>?_⟩;by_cases hi:i < ρ.length
 ·rw[Zo hi] at e;rw[Zo (by rw[<-E.len];exact hi)];exact E.at_ i d e
 ·rw[Zg (by omega),Ye] at e;split at e <;> cases e
theorem qv{own:Nat}{it:XI}{tg:Tg}{t:TT}{c c':XA}{k:Nat}{σ:L2.St}{H:Hp}{Q:VK}(hts:∀acc D σ H,tCl K acc c D σ H->dL t (tCl K acc c') D σ H)(h:fq K (i8 own it tg c k) σ H Q):t7 own (tIt K [] it) (tTg K tg) (fun acc=>dL t (tCl K acc c')) σ H Q:=by
 obtain⟨m,ρ,S,es,S',E,R,e,q⟩:=h;obtain⟨nx,S1,e1,e⟩:=aa e;split at e
 ·rename_i fr;obtain⟨es',S2,e2,e⟩:=aa e;split at e
  ·rename_i hl;cases e;refine⟨m,ρ,S,nx,S1,E,R,fun b hb=>absurd hb (by simp),e1,fun m1 H1 J A1 hI acc hacc=>?_⟩;have x0:=Ext.beside A1.rel hacc (.lst []);have R0:=A1.rel.beside hacc (.lst []);have na:=A1.rel.no hacc
   have hI':IOk K [acc] J nx m1 (upd H1 acc (.lst [])):=by
    intro m2 S2 H2 i x2 R2;refine hI m2 S2 H2 i ⟨x2.pre,fun a o h n _=>?_,fun a h n=>?_,fun b hb=>absurd hb (by simp)⟩ R2
    ·have ne:a ≠ acc:=aD h hacc;exact x2.keep a o (by rw[ak ne];exact h) n (by simp[ne])
    ·have:=x2.new a h n;by_cases hz:a=acc
     ·subst hz;exact hacc
     ·rw[ak hz] at this;exact this
   refine qt (zs:=[]) (vs:=[]) hI' (hts acc) k fr ((E.mono R A1.ext |>.mono A1.rel x0).more own) R0 (ExtB.refl na) ao .nil (by simpa using hl) e2 fun m2 H2 σ2 vs2 x2 R2 h2 v2 E2=>?_
   have xx:Ext m1 H1 m2 H2:=⟨x2.pre,fun a o h n=>by
    have ne:a ≠ acc:=aD h hacc;exact x2.keep a o (by rw[ak ne];exact h) n (by simp[ne]),fun a h n=>by
    have:=x2.new a h n;by_cases hz:a=acc
    ·subst hz;exact hacc
    ·rw[ak hz] at this;exact this⟩
   have hn:H acc=none:=by
    cases eh:H acc with
    |none=>rfl
    |some o=>
     by_cases hm:acc ∈ m
     ·exact absurd (A1.ext.pre.subset hm) na
     ·have:=A1.ext.keep acc o eh hm;rw[hacc] at this;cases this
   exact q m2 H2 acc vs2 (A1.trans ⟨xx,R2⟩) h2 (x2.nb acc (by simp)) (fun b hb z=>na (A1.ext.pre.subset (z ▸ hb))) hn (by simpa using v2)
  ·cases e
 ·cases e
end
section
variable {X:Cx} {K:Wu} {m:List Addr} {H:Hp} {S:Sto}
noncomputable def uX(x y:XE):XE:=fun ρ S=>bnd (x ρ S) fun d S1=>match d with
 |.bl true=>y ρ S1
 |.bl false=>some (.bl false,S1)
 |_=>none
noncomputable def xOr(x y:XE):XE:=fun ρ S=>bnd (x ρ S) fun d S1=>match d with
 |.bl true=>some (.bl true,S1)
 |.bl false=>y ρ S1
 |_=>none
noncomputable def sB:D->Sto->Option (D × Sto)
 |.bl b,S=>some (.bl (!b),S)
 |_,_=>none
noncomputable def DP:D->Sto->Option (D × Sto)
 |.int i,S=>some (.int (-i),S)
 |_,_=>none
theorem uY{x y:XE}{σ:L2.St}{H:Hp}{Q:VK}(h:tE K (uX x y) σ H Q):Bt (tE K x) (tE K y) σ H Q:=by
 obtain⟨m,ρ,S,d,S',E,R,e,q⟩:=h;obtain⟨a,S1,e1,e⟩:=aa e;refine⟨m,ρ,S,a,S1,E,R,e1,fun m1 H1 v A1 va=>?_⟩;cases a with
 |bl b=>
  refine⟨b,va.bls,?_⟩;cases b with
  |true=>exact⟨m1,ρ,S1,d,S',E.mono R A1.ext,A1.rel,e,fun m2 H2 w A2 vd=>q m2 H2 w (A1.trans A2) vd⟩
  |false=>cases e;exact q m1 H1 _ A1 bH
 |_=>cases e
theorem BO{x y:XE}{σ:L2.St}{H:Hp}{Q:VK}(h:tE K (xOr x y) σ H Q):GP (tE K x) (tE K y) σ H Q:=by
 obtain⟨m,ρ,S,d,S',E,R,e,q⟩:=h;obtain⟨a,S1,e1,e⟩:=aa e;refine⟨m,ρ,S,a,S1,E,R,e1,fun m1 H1 v A1 va=>?_⟩;cases a with
 |bl b=>
  refine⟨b,va.bls,?_⟩;cases b with
  |false=>exact⟨m1,ρ,S1,d,S',E.mono R A1.ext,A1.rel,e,fun m2 H2 w A2 vd=>q m2 H2 w (A1.trans A2) vd⟩
  |true=>cases e;exact q m1 H1 _ A1 bH
 |_=>cases e
theorem DQ{x:XE}{σ:L2.St}{H:Hp}{Q:VK}(h:tE K (xUn sB x) σ H Q):Bu (tE K x) σ H Q:=by
 obtain⟨m,ρ,S,d,S',E,R,e,q⟩:=h;obtain⟨a,S1,e1,e⟩:=aa e;refine⟨m,ρ,S,a,S1,E,R,e1,fun m1 H1 v A1 va=>?_⟩;cases a with
 |bl b=>cases e;exact⟨b,va.bls,q m1 H1 _ A1 bH⟩
 |_=>cases e
theorem zf:UnR X (unaryOp .USub) (rS1 X.K DP):=by
 intro pins s σ H x v Q I rx h;refine CM pins s σ H x v Q I rx ?_;obtain⟨m,S,a,d,S',R,va,e,q⟩:=h;cases a with
 |int i=>cases e;exact⟨i,va.ints,q m H _ (Aft.refl R) bE⟩
 |_=>cases e
noncomputable def sC(f g:D->D->Sto->Option (D × Sto))(x y z:XE):XE:=fun ρ S=>bnd (x ρ S) fun a S1=>bnd (y ρ S1) fun b S2=>bnd (f a b S2) fun r S3=>match r with
 |.bl true=>bnd (z ρ S3) fun c S4=>g b c S4
 |.bl false=>some (.bl false,S3)
 |_=>none
theorem uZ{f g:D->D->Sto->Option (D × Sto)}{x y z:XE}{σ:L2.St}{H:Hp}{Q:VK}(h:tE K (sC f g x y z) σ H Q):nV (rS K f) (rS K g) (tE K x) (tE K y) (tE K z) σ H Q:=by
 obtain⟨m,ρ,S,d,S',E,R,e,q⟩:=h;obtain⟨a,S1,e1,e⟩:=aa e;obtain⟨b,S2,e2,e⟩:=aa e;obtain⟨r,S3,e3,e⟩:=aa e;refine⟨m,ρ,S,a,S1,E,R,e1,fun m1 H1 v A1 va=>⟨m1,ρ,S1,b,S2,E.mono R A1.ext,A1.rel,e2,fun m2 H2 w A2 vb=>?_⟩⟩;refine⟨m2,S2,a,b,r,S3,A2.rel,va.mono A1.rel A2.ext,vb,e3,fun m3 H3 u A3 vr=>?_⟩;cases r with
 |bl k=>
  refine⟨k,vr.bls,?_⟩;cases k with
  |true=>
   dsimp only at e;obtain⟨c,S4,e4,e⟩:=aa e;exact⟨m3,ρ,S3,c,S4,E.mono R ((A1.trans A2).trans A3).ext,A3.rel,e4,fun m4 H4 y A4 vc=>⟨m4,S4,b,c,d,S',A4.rel,vb.mono A2.rel (A3.trans A4).ext,vc,e,fun m5 H5 t A5 vd=>q m5 H5 t ((((A1.trans A2).trans A3).trans A4).trans A5) vd⟩⟩
  |false=>cases e;exact q m3 H3 _ ((A1.trans A2).trans A3) bH
 |_=>cases e
noncomputable def u0(x y:XT):XT:=fun ρ S=>bnd (x ρ S) fun b S1=>if b=true then y ρ S1 else some (false,S1)
noncomputable def DR(x y:XT):XT:=fun ρ S=>bnd (x ρ S) fun b S1=>if b=true then some (true,S1) else y ρ S1
noncomputable def u4(x:XT):XT:=fun ρ S=>bnd (x ρ S) fun b S1=>some (!b,S1)
theorem u5{x y:XT}{σ:L2.St}{H:Hp}{Q:Bool->Hp->Prop}(h:tT K (u0 x y) σ H Q):GN (tT K x) (tT K y) σ H Q:=by
 obtain⟨m,ρ,S,d,S',E,R,e,q⟩:=h;obtain⟨b,S1,e1,e⟩:=aa e;refine⟨m,ρ,S,b,S1,E,R,e1,fun m1 H1 A1=>?_⟩;dsimp only;split
 ·rename_i hb;rw[if_pos hb] at e;exact⟨m1,ρ,S1,d,S',E.mono R A1.ext,A1.rel,e,fun m2 H2 A2=>q m2 H2 (A1.trans A2)⟩
 ·rename_i hb;rw[if_neg hb] at e;cases e;exact q m1 H1 A1
theorem BP{x y:XT}{σ:L2.St}{H:Hp}{Q:Bool->Hp->Prop}(h:tT K (DR x y) σ H Q):tOr (tT K x) (tT K y) σ H Q:=by
 obtain⟨m,ρ,S,d,S',E,R,e,q⟩:=h;obtain⟨b,S1,e1,e⟩:=aa e;refine⟨m,ρ,S,b,S1,E,R,e1,fun m1 H1 A1=>?_⟩;dsimp only;split
 ·rename_i hb;rw[if_pos hb] at e;cases e;exact q m1 H1 A1
 ·rename_i hb;rw[if_neg hb] at e;exact⟨m1,ρ,S1,d,S',E.mono R A1.ext,A1.rel,e,fun m2 H2 A2=>q m2 H2 (A1.trans A2)⟩
theorem DS{x:XT}{σ:L2.St}{H:Hp}{Q:Bool->Hp->Prop}(h:tT K (u4 x) σ H Q):GO (tT K x) σ H Q:=by
 obtain⟨m,ρ,S,d,S',E,R,e,q⟩:=h;obtain⟨b,S1,e1,e⟩:=aa e;cases e;exact⟨m,ρ,S,b,_,E,R,e1,fun m1 H1 A1=>q m1 H1 A1⟩
abbrev Calls:=Nat->List D->Sto->Option (D × Sto)
def spC(K:Wu)(g:List D->Sto->Option (D × Sto))(n:Nat):Sp:=fun vs H Q _=>∃m ds S d S',VDs K m H ds vs/\Rel K m S H/\ds.length=n/\g ds S=some (d,S')/\∀m' H' v,Aft K m H S' m' H'->VD K m' H' d v->Q v H'
noncomputable def m6(g:List D->Sto->Option (D × Sto))(n:Nat)(x:XA):XE:=fun ρ S=>bnd (x ρ S) fun ds S1=>if ds.length=n then g ds S1 else none
theorem zg{g:List D->Sto->Option (D × Sto)}{n:Nat}{x:XA}{σ:L2.St}{H:Hp}{Q:VK}(h:tE K (m6 g n x) σ H Q):BE (spC K g n) [] E0 (tAr K x) σ H Q:=by
 obtain⟨m,ρ,S,d,S',E,R,e,q⟩:=h;obtain⟨ds,S1,e1,e⟩:=aa e;split at e
 ·rename_i hl;refine⟨m,ρ,S,ds,S1,E,R,e1,fun m1 H1 vs A1 vd=>⟨m1,ds,S1,d,S',by rw[ZS];exact vd,A1.rel,hl,e,fun m2 H2 v A2 vv=>q m2 H2 v (A1.trans A2) vv⟩⟩
 ·cases e
end
noncomputable def rgV(a b:Int):List V:=(Zm (b - a).toNat).map fun(i:Nat)=>V.int (a+i)
section
variable {X:Cx}
theorem lG:aV X (.type "range") (fun xs H Q=>∃i j:Int,xs=[.int i,.int j]/\∀p,H p=none->Q (.ref p) (upd H p (.rng i j))):=by
 intro pins s σ H xs us Q I r h;obtain⟨i,j,rfl,q⟩:=h;cases r with
 |cons r1 rs=>
  cases rs with
  |cons r2 rs=>
   cases rs;obtain⟨t,rfl⟩:=r1;obtain⟨u,rfl⟩:=r2;exact call_range_2 ⟨.ref s.heap.objs.size,_,I.laid (t':=s.toks+1) (o:=.rng i j) (fun b o e=>Zl _ e) (Ze _) ⟨_,_,_,ZB _ rfl⟩,rfl,q _ (I.hok.fresh (Ze _))⟩
theorem qw(lo:Int):∀ (m k:Nat) (l:List Value),l.length=m->(∀ (j:Nat) x,l[j]?=some x->∃tk,x=Value.int (lo+((k+j:Nat):Int)) tk)->aG ((List.range' k m).map fun(i:Nat)=>V.int (lo+i)) l
 |0,k,l,hl,_=>by cases l with |nil=>exact .nil |cons _ _=>cases hl
 |m+1,k,l,hl,hx=>by
  cases l with
  |nil=>cases hl
  |cons x l=>
   rw[List.range'_succ,Zy];obtain⟨t,e⟩:=hx 0 x rfl;refine .cons ⟨t,by simpa using e⟩ (qw lo m (k+1) l (by simpa using hl) fun j y hy=>?_);obtain⟨t',e'⟩:=hx (j+1) y (by simpa using hy);exact⟨t',by rw[e',show((k+(j+1):Nat):Int)=((k+1+j:Nat):Int) from by omega]⟩
theorem jN(hc:X.calm=true):aV X (.type "list") (fun xs H Q=>∃ (p:Addr) (a b:Int),xs=[.ref p]/\H p=some (.rng a b)/\-100000<=a/\a<=b/\b<=a+1000/\a<=100000/\∀l,H l=none->Q (.ref l) (upd H l (.lst (rgV a b)))):=by
 intro pins s σ H xs us Q I r h;obtain⟨p,a,b,rfl,hp,h1,h2,h3,h4,q⟩:=h;obtain⟨u,rfl,ru⟩:=fv r;cases ru;obtain⟨t,u,v,e⟩:=(show aU X.prog X.w H s.heap p (.rng a b) from I.hok p _ hp);have hsm:Builtin.Range.small a b 1=true:=small_one (by omega) (by omega) (by omega) (by omega);refine call_list_range (n:=(b - a).toNat) (I.ok.hd hc) e hsm (by rw[Vk];split <;> omega) (by omega) fun h' tk acc' c' hk hS' hacc=>?_;refine⟨.ref s.heap.objs.size,_,I.laid (t':=tk) (o:=.lst (rgV a b)) hk (Ze _) ?_,rfl,q _ (I.hok.fresh (Ze _))⟩;have hsz:acc'.size=(b - a).toNat:=hacc.1;refine⟨by unfold rgV;rw[Zc,ZG];exact YA (jZ (by omega)),acc'.toList,c',?_,by simpa using hS'⟩;unfold rgV;rw[List.range_eq_range'];refine qw a _ 0 acc'.toList (by simpa using hsz) fun j x hx=>?_;obtain⟨tk',e⟩:=hacc.2 j x (by simpa using hx);exact⟨tk',by rw[e,show a+(j:Nat) * 1=a+((0+j:Nat):Int) from by omega]⟩
end
mutual
inductive CE where |non |bl (b:Bool) |int (i:Int) |str (x:Str) |var (i:Nat) |con (k:Nat)(v:Int) |tup (es:List CE) |lst (es:List CE) |dic0 |dic1 (i j:Int) |bin (o:BOp)(a b:CE) |neg (a:CE) |cmp (o:COp)(a b:CE) |chn (o p:COp)(a b c:CE) |and (a b:CE) |or (a b:CE) |not (a:CE) |ix (a b:CE) |sl (a:CE)(lo hi:Option CE) |call (f:Nat)(es:List CE) |inst (t:Ty)(a:CE) |len (a:CE) |all (a:CE) |tupOf (a:CE) |listOf (a:CE) |listR (a:CE) |listR2 (a b:CE) |mx (a b:CE) |mn (a b:CE) |rep (a:CE) |comp (own:List Str)(elt:CE)(cls:List Cl) |app (o e:CE) |cnt (o e:CE)
inductive CI where
 |val (a:CE) |r1 (a:CE) |r2 (a b:CE) |en (a:CE)
inductive Cl where
 |mk (tg:Tg) (it:CI) (cond:Option CE)
end
noncomputable def ag:CE->Bool
 |.lst _=>true |.comp _ _ _=>true |.listOf _=>true |.listR _=>true |.listR2 _ _=>true
 |_=>false
noncomputable def LF:Nat:=1000000
noncomputable def xNo{α:Type}:Rho->Sto->Option (α × Sto):=fun _ _=>none
noncomputable def i9(x:XE):XA:=fun ρ S=>bnd (x ρ S) fun d S1=>(au d S1).map fun r=>(r.2,S1)
noncomputable def jO(i:Int):Key:=Sum.inl i
noncomputable def sD(x:XE):XA:=fun ρ S=>bnd (x ρ S) fun d S1=>match d with
 |.int i=>if 0<=i/\i<=1000 then some ((Zm i.toNat).map fun j=>.int (Int.ofNat j),S1) else none
 |_=>none
noncomputable def rgD(a b:Int):List D:=(Zm (b - a).toNat).map fun(i:Nat)=>D.int (a+i)
noncomputable def ka(x y:XE):XA:=fun ρ S=>bnd (x ρ S) fun d S1=>bnd (y ρ S1) fun e S2=>match d,e with
 |.int i,.int j=>if -100000<=i/\i<=j/\j<=i+1000/\i<=100000 then some (rgD i j,S2) else none
 |_,_=>none
noncomputable def u6:XE:=fun _ S=>some (.ref S.length,S++[.dic [] []])
noncomputable def u7(i j:Int):XE:=fun _ S=>some (.ref S.length,S++[.dic [jO i] [.int j]])
noncomputable def cnd(t:CE->XT):Option CE->XA->XA
 |some c,x=>uU (t c) x
 |none,x=>x
noncomputable def opt(t:CE->XE):Option CE->XO
 |some l=>oI (t l)
 |none=>oH
mutual
noncomputable def evE(C:Calls)(ar:Nat->Nat):Nat->CE->XE
 |0,_=>xNo
 |n+1,e=>match e with
  |.non=>xC .non
  |.bl b=>xC (.bl b)
  |.int i=>xC (.int i)
  |.str x=>xC (.str x)
  |.var i=>se i
  |.con _ v=>xC (.int v)
  |.tup es=>ic ig (evA C ar n es)
  |.lst es=>cS (j5 (evA C ar n es))
  |.dic0=>u6
  |.dic1 i j=>u7 i j
  |.bin o a b=>mO (bI o) (evE C ar n a) (evE C ar n b)
  |.neg a=>xUn DP (evE C ar n a)
  |.cmp o a b=>mO (az o) (evE C ar n a) (evE C ar n b)
  |.chn o p a b c=>sC (az o) (az p) (evE C ar n a) (evE C ar n b) (evE C ar n c)
  |.and a b=>uX (evE C ar n a) (evE C ar n b)
  |.or a b=>xOr (evE C ar n a) (evE C ar n b)
  |.not a=>xUn sB (evE C ar n a)
  |.ix a b=>if ag a=true then oD (dn C ar n a) (evE C ar n b) else mO ixS (evE C ar n a) (evE C ar n b)
  |.sl a lo hi=>xSl (evE C ar n a) (opt (evE C ar n) lo) (opt (evE C ar n) hi)
  |.call f es=>m6 (C f) (ar f) (evA C ar n es)
  |.inst t a=>xUn (gY t) (evE C ar n a)
  |.len a=>if ag a=true then r9 fI (dn C ar n a) else sd fI (evE C ar n a)
  |.all a=>if ag a=true then r9 jM (dn C ar n a) else sd jM (evE C ar n a)
  |.tupOf a=>if ag a=true then r9 iZ (dn C ar n a) else sd iZ (evE C ar n a)
  |.listOf a=>cS (if ag a=true then dn C ar n a else i9 (evE C ar n a))
  |.listR a=>cS (sD (evE C ar n a))
  |.listR2 a b=>cS (ka (evE C ar n a) (evE C ar n b))
  |.mx a b=>ic (two uG) (evA C ar n [a,b])
  |.mn a b=>ic (two uH) (evA C ar n [a,b])
  |.rep a=>xUn i6 (evE C ar n a)
  | .comp own elt cls=>cS (match cls with
   |[]=>xNo
   | ⟨tg,it,cond⟩::rest=>i8 own.length (evI C ar n it) tg (cnd (evT C ar n) cond (ft C ar n elt rest)) LF)
  |.app o a=>yW i5 oM (evE C ar n o) (evA C ar n [a])
  |.cnt o a=>yW (fun d _=>isTup d) uM (evE C ar n o) (evA C ar n [a])
noncomputable def evA(C:Calls)(ar:Nat->Nat):Nat->List CE->XA
 |0,_=>xNo
 |n+1,es=>match es with
  |[]=>yI
  |e::es=>qm (evE C ar n e) (evA C ar n es)
noncomputable def dn(C:Calls)(ar:Nat->Nat):Nat->CE->XA
 |0,_=>xNo
 |n+1,e=>match e with
  |.lst es=>j5 (evA C ar n es)
  |.listOf a=>if ag a=true then dn C ar n a else i9 (evE C ar n a)
  |.listR a=>sD (evE C ar n a)
  |.listR2 a b=>ka (evE C ar n a) (evE C ar n b)
  |.comp own elt cls=>match cls with
   |[]=>xNo
   |⟨tg,it,cond⟩::rest=>i8 own.length (evI C ar n it) tg (cnd (evT C ar n) cond (ft C ar n elt rest)) LF
  |_=>xNo
noncomputable def ft(C:Calls)(ar:Nat->Nat):Nat->CE->List Cl->XA
 |0,_,_=>xNo
 |n+1,elt,cls=>match cls with
  |[]=>BN (evE C ar n elt)
  |⟨tg,it,cond⟩::rest=>gK (evI C ar n it) tg (cnd (evT C ar n) cond (ft C ar n elt rest)) LF
noncomputable def evI(C:Calls)(ar:Nat->Nat):Nat->CI->XI
 |0,_=>xNo
 |n+1,it=>match it with
  |.val a=>if ag a=true then xIT (dn C ar n a) else xIV (evE C ar n a)
  |.r1 a=>xR1 (evE C ar n a)
  |.r2 a b=>xR2 (evE C ar n a) (evE C ar n b)
  |.en a=>if ag a=true then xET (dn C ar n a) else xEV (evE C ar n a)
noncomputable def evT(C:Calls)(ar:Nat->Nat):Nat->CE->XT
 |0,_=>xNo
 |n+1,e=>match e with
  |.cmp o a b=>xB (mO (az o) (evE C ar n a) (evE C ar n b))
  |.chn o p a b c=>xB (sC (az o) (az p) (evE C ar n a) (evE C ar n b) (evE C ar n c))
  |.and a b=>u0 (evT C ar n a) (evT C ar n b)
  |.or a b=>DR (evT C ar n a) (evT C ar n b)
  |.not a=>u4 (evT C ar n a)
  |e=>yS (evE C ar n e)
end
structure Tab where
 con:List (Str × Int)
 fns:List (Str × Nat)
noncomputable def d8:List Str:=["len", "isinstance", "all", "any", "tuple", "list", "max", "min", "repr", "range", "enumerate", "int", "bool", "str", "sorted", "zip"]
structure Blk where
 sc:Scope
 fs:Option Scope
 N:List Str
noncomputable def Blk.glo(b:Blk)(x:Str):Bool:=b.sc.names.lookup x == some .globalImplicit && !(x == ("__debug__" : Str))
noncomputable def Blk.vis(b:Blk)(x:Str):Bool:=(match b.sc.names.lookup x with
 |some .local=>true
 |some .cell=>true
 |some .free=>true
 | _=>false) && !(x == ("__debug__" : Str)) && !(x == ("__classdict__" : Str))
noncomputable def Blk.own(b:Blk)(x:Str):Bool:=match b.sc.names.lookup x with
 |some .local=>true
 | some .cell=>(match b.fs with
  |none=>true
  | some sc=>sc.names.lookup x == some .cell)
 |_=>false
theorem bv{P:Prop}[Decidable P]{f:P->Bool}(h:(if p:P then f p else false)=true):∃p,f p=true:=by
 by_cases p:P
 ·rw[dif_pos p] at h;exact⟨p,h⟩
 ·rw[dif_neg p] at h;cases h
theorem an2{a b:Bool}(h:(a && b)=true):a=true/\b=true:=by cases a;cases h;exact⟨rfl,h⟩
theorem an3{a b c:Bool}(h:(a && b && c)=true):a=true/\b=true/\c=true:=⟨(an2 (an2 h).1).1,(an2 (an2 h).1).2,(an2 h).2⟩
theorem an4{a b c d:Bool}(h:(a && b && c && d)=true):a=true/\b=true/\c=true/\d=true:=⟨(an3 (an2 h).1).1,(an3 (an2 h).1).2.1,(an3 (an2 h).1).2.2,(an2 h).2⟩
theorem an5{a b c d e:Bool}(h:(a && b && c && d && e)=true):a=true/\b=true/\c=true/\d=true/\e=true:=⟨(an4 (an2 h).1).1,(an4 (an2 h).1).2.1,(an4 (an2 h).1).2.2.1,(an4 (an2 h).1).2.2.2,(an2 h).2⟩
theorem an6{a b c d e f:Bool}(h:(a && b && c && d && e && f)=true):a=true/\b=true/\c=true/\d=true/\e=true/\f=true:=⟨(an5 (an2 h).1).1,(an5 (an2 h).1).2.1,(an5 (an2 h).1).2.2.1,(an5 (an2 h).1).2.2.2.1,(an5 (an2 h).1).2.2.2.2,(an2 h).2⟩
noncomputable def l1{α:Type}(l:List α)(k:α->Bool):Bool:=match l with
 |[]=>false
 |x::t=>t.isEmpty && k x
noncomputable def lC{α:Type}(l:List α)(k:α->List α->Bool):Bool:=match l with
 |[]=>false
 |x::t=>k x t
theorem bN{α:Type}{l:List α}{k:α->List α->Bool}(h:lC l k=true):∃x t,l=x::t/\k x t=true:=by
 cases l with
 |nil=>cases h
 |cons x t=>exact⟨x,t,rfl,h⟩
theorem bS{α:Type}{l:List α}(h:l.isEmpty=true):l=[]:=by cases l;rfl;cases h
theorem cw{α:Type}{l:List α}{k:α->Bool}(h:l1 l k=true):∃x,l=[x]/\k x=true:=by
 cases l with
 |nil=>cases h
 |cons x t=>obtain⟨h1,h2⟩:=an2 h;cases bS h1;exact⟨x,rfl,h2⟩
noncomputable def aA(e:Expr):Bool:=!(e.ctorIdx == 22 || e.ctorIdx == 26 || e.ctorIdx == 7)
noncomputable def lH(e:Expr)(k:BoolOp->List Expr->Pos->Bool):Bool:=if h:e.ctorIdx=0 then @Expr.BoolOp.elim (fun _=>Bool) e h k else false
theorem kc{e:Expr}{k:BoolOp->List Expr->Pos->Bool}(h:lH e k=true):∃x0 x1 x2,e = .BoolOp x0 x1 x2/\k x0 x1 x2=true:=by
 obtain⟨h1,h⟩:=bv h;exact Expr.BoolOp.elim (motive_1:=fun e=>∀h',@Expr.BoolOp.elim (fun _=>Bool) e h' k=true->∃x0 x1 x2,e = .BoolOp x0 x1 x2/\k x0 x1 x2=true) e h1 (fun x0 x1 x2 _ hh=>⟨x0,x1,x2,rfl,hh⟩) h1 h
noncomputable def u8(e:Expr)(k:Expr->Wa->Expr->Pos->Bool):Bool:=if h:e.ctorIdx=2 then @Expr.BinOp.elim (fun _=>Bool) e h k else false
theorem u9{e:Expr}{k:Expr->Wa->Expr->Pos->Bool}(h:u8 e k=true):∃x0 x1 x2 x3,e = .BinOp x0 x1 x2 x3/\k x0 x1 x2 x3=true:=by
 obtain⟨h1,h⟩:=bv h;exact Expr.BinOp.elim (motive_1:=fun e=>∀h',@Expr.BinOp.elim (fun _=>Bool) e h' k=true->∃x0 x1 x2 x3,e = .BinOp x0 x1 x2 x3/\k x0 x1 x2 x3=true) e h1 (fun x0 x1 x2 x3 _ hh=>⟨x0,x1,x2,x3,rfl,hh⟩) h1 h
noncomputable def gg(e:Expr)(k:UnaryOp->Expr->Pos->Bool):Bool:=if h:e.ctorIdx=3 then @Expr.UnaryOp.elim (fun _=>Bool) e h k else false
theorem ja{e:Expr}{k:UnaryOp->Expr->Pos->Bool}(h:gg e k=true):∃x0 x1 x2,e = .UnaryOp x0 x1 x2/\k x0 x1 x2=true:=by
 obtain⟨h1,h⟩:=bv h;exact Expr.UnaryOp.elim (motive_1:=fun e=>∀h',@Expr.UnaryOp.elim (fun _=>Bool) e h' k=true->∃x0 x1 x2,e = .UnaryOp x0 x1 x2/\k x0 x1 x2=true) e h1 (fun x0 x1 x2 _ hh=>⟨x0,x1,x2,rfl,hh⟩) h1 h
noncomputable def vf(e:Expr)(k:List (Option Expr)->List Expr->Pos->Bool):Bool:=if h:e.ctorIdx=6 then @Expr.Dict.elim (fun _=>Bool) e h k else false
theorem qx{e:Expr}{k:List (Option Expr)->List Expr->Pos->Bool}(h:vf e k=true):∃x0 x1 x2,e = .Dict x0 x1 x2/\k x0 x1 x2=true:=by
 obtain⟨h1,h⟩:=bv h;exact Expr.Dict.elim (motive_1:=fun e=>∀h',@Expr.Dict.elim (fun _=>Bool) e h' k=true->∃x0 x1 x2,e = .Dict x0 x1 x2/\k x0 x1 x2=true) e h1 (fun x0 x1 x2 _ hh=>⟨x0,x1,x2,rfl,hh⟩) h1 h
noncomputable def gL(e:Expr)(k:Expr->List XN->Scope->Pos->Bool):Bool:=if h:e.ctorIdx=8 then @Expr.ListComp.elim (fun _=>Bool) e h k else false
theorem gZ{e:Expr}{k:Expr->List XN->Scope->Pos->Bool}(h:gL e k=true):∃x0 x1 x2 x3,e = .ListComp x0 x1 x2 x3/\k x0 x1 x2 x3=true:=by
 obtain⟨h1,h⟩:=bv h;exact Expr.ListComp.elim (motive_1:=fun e=>∀h',@Expr.ListComp.elim (fun _=>Bool) e h' k=true->∃x0 x1 x2 x3,e = .ListComp x0 x1 x2 x3/\k x0 x1 x2 x3=true) e h1 (fun x0 x1 x2 x3 _ hh=>⟨x0,x1,x2,x3,rfl,hh⟩) h1 h
noncomputable def jb(e:Expr)(k:Expr->List CmpOp->List Expr->Pos->Bool):Bool:=if h:e.ctorIdx=15 then @Expr.Compare.elim (fun _=>Bool) e h k else false
theorem jc{e:Expr}{k:Expr->List CmpOp->List Expr->Pos->Bool}(h:jb e k=true):∃x0 x1 x2 x3,e = .Compare x0 x1 x2 x3/\k x0 x1 x2 x3=true:=by
 obtain⟨h1,h⟩:=bv h;exact Expr.Compare.elim (motive_1:=fun e=>∀h',@Expr.Compare.elim (fun _=>Bool) e h' k=true->∃x0 x1 x2 x3,e = .Compare x0 x1 x2 x3/\k x0 x1 x2 x3=true) e h1 (fun x0 x1 x2 x3 _ hh=>⟨x0,x1,x2,x3,rfl,hh⟩) h1 h
noncomputable def qy(e:Expr)(k:Expr->List Expr->List Keyword->Pos->Bool):Bool:=if h:e.ctorIdx=16 then @Expr.Call.elim (fun _=>Bool) e h k else false
theorem qz{e:Expr}{k:Expr->List Expr->List Keyword->Pos->Bool}(h:qy e k=true):∃x0 x1 x2 x3,e = .Call x0 x1 x2 x3/\k x0 x1 x2 x3=true:=by
 obtain⟨h1,h⟩:=bv h;exact Expr.Call.elim (motive_1:=fun e=>∀h',@Expr.Call.elim (fun _=>Bool) e h' k=true->∃x0 x1 x2 x3,e = .Call x0 x1 x2 x3/\k x0 x1 x2 x3=true) e h1 (fun x0 x1 x2 x3 _ hh=>⟨x0,x1,x2,x3,rfl,hh⟩) h1 h
noncomputable def cm(e:Expr)(k:Const->Nat->Pos->Bool):Bool:=if h:e.ctorIdx=19 then @Expr.Constant.elim (fun _=>Bool) e h k else false
theorem b9{e:Expr}{k:Const->Nat->Pos->Bool}(h:cm e k=true):∃x0 x1 x2,e = .Constant x0 x1 x2/\k x0 x1 x2=true:=by
 obtain⟨h1,h⟩:=bv h;exact Expr.Constant.elim (motive_1:=fun e=>∀h',@Expr.Constant.elim (fun _=>Bool) e h' k=true->∃x0 x1 x2,e = .Constant x0 x1 x2/\k x0 x1 x2=true) e h1 (fun x0 x1 x2 _ hh=>⟨x0,x1,x2,rfl,hh⟩) h1 h
noncomputable def jd(e:Expr)(k:Expr->Str->Pos->Bool):Bool:=if h:e.ctorIdx=20 then @Expr.Attribute.elim (fun _=>Bool) e h k else false
theorem lI{e:Expr}{k:Expr->Str->Pos->Bool}(h:jd e k=true):∃x0 x1 x2,e = .Attribute x0 x1 x2/\k x0 x1 x2=true:=by
 obtain⟨h1,h⟩:=bv h;exact Expr.Attribute.elim (motive_1:=fun e=>∀h',@Expr.Attribute.elim (fun _=>Bool) e h' k=true->∃x0 x1 x2,e = .Attribute x0 x1 x2/\k x0 x1 x2=true) e h1 (fun x0 x1 x2 _ hh=>⟨x0,x1,x2,rfl,hh⟩) h1 h
noncomputable def dq(e:Expr)(k:Expr->Expr->Pos->Bool):Bool:=if h:e.ctorIdx=21 then @Expr.Subscript.elim (fun _=>Bool) e h k else false
theorem dr{e:Expr}{k:Expr->Expr->Pos->Bool}(h:dq e k=true):∃x0 x1 x2,e = .Subscript x0 x1 x2/\k x0 x1 x2=true:=by
 obtain⟨h1,h⟩:=bv h;exact Expr.Subscript.elim (motive_1:=fun e=>∀h',@Expr.Subscript.elim (fun _=>Bool) e h' k=true->∃x0 x1 x2,e = .Subscript x0 x1 x2/\k x0 x1 x2=true) e h1 (fun x0 x1 x2 _ hh=>⟨x0,x1,x2,rfl,hh⟩) h1 h
noncomputable def vg(e:Expr)(k:Str->Pos->Bool):Bool:=if h:e.ctorIdx=23 then @Expr.Name.elim (fun _=>Bool) e h k else false
theorem qA{e:Expr}{k:Str->Pos->Bool}(h:vg e k=true):∃x0 x1,e = .Name x0 x1/\k x0 x1=true:=by
 obtain⟨h1,h⟩:=bv h;exact Expr.Name.elim (motive_1:=fun e=>∀h',@Expr.Name.elim (fun _=>Bool) e h' k=true->∃x0 x1,e = .Name x0 x1/\k x0 x1=true) e h1 (fun x0 x1 _ hh=>⟨x0,x1,rfl,hh⟩) h1 h
noncomputable def BQ(e:Expr)(k:List Expr->Pos->Bool):Bool:=if h:e.ctorIdx=24 then @Expr.List.elim (fun _=>Bool) e h k else false
theorem zh{e:Expr}{k:List Expr->Pos->Bool}(h:BQ e k=true):∃x0 x1,e = .List x0 x1/\k x0 x1=true:=by
 obtain⟨h1,h⟩:=bv h;exact Expr.List.elim (motive_1:=fun e=>∀h',@Expr.List.elim (fun _=>Bool) e h' k=true->∃x0 x1,e = .List x0 x1/\k x0 x1=true) e h1 (fun x0 x1 _ hh=>⟨x0,x1,rfl,hh⟩) h1 h
noncomputable def vh(e:Expr)(k:List Expr->Nat->Pos->Bool):Bool:=if h:e.ctorIdx=25 then @Expr.Tuple.elim (fun _=>Bool) e h k else false
theorem vi{e:Expr}{k:List Expr->Nat->Pos->Bool}(h:vh e k=true):∃x0 x1 x2,e = .Tuple x0 x1 x2/\k x0 x1 x2=true:=by
 obtain⟨h1,h⟩:=bv h;exact Expr.Tuple.elim (motive_1:=fun e=>∀h',@Expr.Tuple.elim (fun _=>Bool) e h' k=true->∃x0 x1 x2,e = .Tuple x0 x1 x2/\k x0 x1 x2=true) e h1 (fun x0 x1 x2 _ hh=>⟨x0,x1,x2,rfl,hh⟩) h1 h
noncomputable def vj(e:Expr)(k:Option Expr->Option Expr->Option Expr->Pos->Bool):Bool:=if h:e.ctorIdx=26 then @Expr.Slice.elim (fun _=>Bool) e h k else false
theorem vk{e:Expr}{k:Option Expr->Option Expr->Option Expr->Pos->Bool}(h:vj e k=true):∃x0 x1 x2 x3,e = .Slice x0 x1 x2 x3/\k x0 x1 x2 x3=true:=by
 obtain⟨h1,h⟩:=bv h;exact Expr.Slice.elim (motive_1:=fun e=>∀h',@Expr.Slice.elim (fun _=>Bool) e h' k=true->∃x0 x1 x2 x3,e = .Slice x0 x1 x2 x3/\k x0 x1 x2 x3=true) e h1 (fun x0 x1 x2 x3 _ hh=>⟨x0,x1,x2,x3,rfl,hh⟩) h1 h
noncomputable def oS(e:Expr):Bool:=!(e.ctorIdx == 22 || qy e fun f es ks _=>f.ctorIdx == 23 && es.isEmpty && ks.isEmpty)
noncomputable def zi(e:Expr):Bool:=!(e.ctorIdx == 0 || e.ctorIdx == 5 || e.ctorIdx == 15 || gg e fun o _ _=>decide (o = .Not))
noncomputable def je(own N:List Str):List Nat:=(Zm N.length).filter fun i=>match N[i]? with
 |some x=>own.contains x
 |none=>false
noncomputable def Blk.inner(b:Blk)(own:List Str)(scope:Scope):Blk:=⟨dR scope b.sc,some scope,cp (je own b.N) b.N++own⟩
noncomputable def vm(e:Expr):Option (Str × Pos):=if h:e.ctorIdx=23 then some (@Expr.Name.elim (fun _=>Str × Pos) e h fun x p=>(x,p)) else none
noncomputable def sE(e:Expr):Option (List Expr × Nat × Pos):=if h:e.ctorIdx=25 then some (@Expr.Tuple.elim (fun _=>List Expr × Nat × Pos) e h fun es k p=>(es,k,p)) else none
theorem BR{α:Type}{P:Prop}[Decidable P]{f:P->α}{r:α}(h:(if p:P then some (f p) else none)=some r):∃p,f p=r:=by
 by_cases p:P
 ·rw[dif_pos p] at h;cases h;exact⟨p,rfl⟩
 ·rw[dif_neg p] at h;cases h
theorem lJ{e:Expr}{x:Str}{p:Pos}(h:vm e=some (x,p)):e = .Name x p:=by
 obtain⟨h1,h⟩:=BR h;exact Expr.Name.elim (motive_1:=fun e=>∀h',Expr.Name.elim (motive_1:=fun _=>Str × Pos) e h' (fun x p=>(x,p))=(x,p)->e = .Name x p) e h1 (fun _ _ _ hh=>by cases hh;rfl) h1 h
theorem lK{e:Expr}{es:List Expr}{k:Nat}{p:Pos}(h:sE e=some (es,k,p)):e = .Tuple es k p:=by
 obtain⟨h1,h⟩:=BR h;exact Expr.Tuple.elim (motive_1:=fun e=>∀h',Expr.Tuple.elim (motive_1:=fun _=>List Expr × Nat × Pos) e h' (fun es k p=>(es,k,p))=(es,k,p)->e = .Tuple es k p) e h1 (fun _ _ _ _ hh=>by cases hh;rfl) h1 h
noncomputable def oA{α:Type}(o:Option α)(k:α->Bool):Bool:=match o with
 |some r=>k r
 |none=>false
theorem jP{α:Type}{o:Option α}{k:α->Bool}(h:oA o k=true):∃r,o=some r/\k r=true:=by
 cases o with
 |none=>cases h
 |some r=>exact⟨r,rfl,h⟩
theorem zj{a b:Bool}(h:(a || b)=true):a=true\/b=true:=by cases a;exact .inr h;exact .inl rfl
mutual
noncomputable def oT(b:Blk)(e:Expr):Tg->Bool
 |.name i=>oA (vm e) fun r=>b.N[i]? == some r.1 && b.own r.1
 |.tup ts=>oA (sE e) fun r=>jf b r.1 ts
noncomputable def jf(b:Blk)(es:List Expr):List Tg->Bool
 |[]=>es.isEmpty
 |t::ts=>lC es fun e es=>oT b e t && aA e && jf b es ts
end
noncomputable def HG(e:Expr):Bool:=cm e fun c _ _=>decide (c = .none)
noncomputable def sBl(v:Bool)(e:Expr):Bool:=cm e fun c _ _=>decide (c = .bool v)
noncomputable def vn(v:Int)(e:Expr):Bool:=cm e fun c _ _=>decide (c = .int v)
noncomputable def sF(v:Str)(e:Expr):Bool:=cm e fun c _ _=>decide (c = .str v)
noncomputable def fB(k:Str->Bool)(e:Expr):Bool:=vg e fun x _=>k x
noncomputable def DT(k:List Expr->Bool)(e:Expr):Bool:=vh e fun es _ _=>k es
noncomputable def sG(k:List Expr->Bool)(e:Expr):Bool:=BQ e fun es _=>k es
noncomputable def zk(o:Wa)(k l:Expr->Bool)(e:Expr):Bool:=u8 e fun x op y _=>decide (op=o) && k x && l y
noncomputable def HH(k:Expr->Bool)(e:Expr):Bool:=gg e fun o x _=>decide (o = .USub) && k x
noncomputable def zl(k:Expr->Bool)(e:Expr):Bool:=gg e fun o x _=>decide (o = .Not) && k x
noncomputable def zm(o:CmpOp)(k l:Expr->Bool)(e:Expr):Bool:=jb e fun x os ys _=>l1 os fun op=>l1 ys fun y=>decide (op=o) && k x && l y && aA y
noncomputable def DU(o p:CmpOp)(k l m:Expr->Bool)(e:Expr):Bool:=jb e fun x os ys _=>lC os fun op os=>l1 os fun op'=>lC ys fun y ys=>l1 ys fun z=>decide (op=o) && decide (op'=p) && k x && l y && m z && aA z
noncomputable def sH(o:BoolOp)(k l:Expr->Bool)(e:Expr):Bool:=lH e fun op vs _=>lC vs fun x vs=>l1 vs fun y=>decide (op=o) && k x && l y
noncomputable def vo(o:BoolOp)(k l:Expr->Bool)(e:Expr):Bool:=lH e fun op vs p=>lC vs fun x vs=>lC vs fun y vs=>lC vs fun z ys=>decide (op=o) && k x && l (.BoolOp o (y::z::ys) p)
noncomputable def sIx(k l:Expr->Bool)(e:Expr):Bool:=dq e fun x y _=>k x && l y && aA y
noncomputable def sSl(k:Expr->Bool)(l m:Option Expr->Bool)(e:Expr):Bool:=dq e fun x s _=>vj s fun y z w _=>w.isNone && k x && l y && m z
noncomputable def sCN(e:Expr)(k:Str->List Expr->List Keyword->Bool):Bool:=qy e fun f es ks _=>vg f fun x _=>k x es ks
noncomputable def vp(k:Str->Bool)(l:List Expr->Bool)(e:Expr):Bool:=sCN e fun x es ks=>lC es fun e es=>ks.isEmpty && k x && l (e::es)
noncomputable def oU(b:Blk)(f:Str)(k:List Expr->Bool)(e:Expr):Bool:=sCN e fun x es ks=>lC es fun e es=>ks.isEmpty && x == f && b.glo x && k (e::es)
noncomputable def cx(b:Blk)(f:Str)(k:Expr->Bool)(e:Expr):Bool:=sCN e fun x es ks=>l1 es fun e=>ks.isEmpty && x == f && b.glo x && k e && aA e
noncomputable def jg(b:Blk)(f:Str)(k l:Expr->Bool)(e:Expr):Bool:=sCN e fun x es ks=>lC es fun e es=>l1 es fun e'=>ks.isEmpty && (x == f && b.glo x && k e && aA e && l e' && aA e')
noncomputable def zn(m:Str)(k:Expr->Bool)(l:List Expr->Bool)(e:Expr):Bool:=qy e fun f es ks p=>jd f fun x m' ap=>ks.isEmpty && m' == m && oS x && (ap.endLine == p.line) && k x && l es
noncomputable def BS(k:Expr->Expr->Expr->List Expr->List XN->Scope->Bool)(e:Expr):Bool:=gL e fun e gs scope _=>lC gs fun g gs=>decide (g.is_async=0) && k e g.target g.iter g.ifs gs scope
noncomputable def BT(e:Expr):Bool:=vf e fun ks vs _=>ks.isEmpty && vs.isEmpty
noncomputable def BU(k l:Expr->Bool)(e:Expr):Bool:=vf e fun ks vs _=>l1 ks fun x=>l1 vs fun y=>match x with
 |some x=>k x && l y
 |none=>false
theorem cO{x y:Str}(h:(x == y)=true):x=y:=eq_of_beq h
section
variable {e:Expr} {k l m:Expr->Bool}
theorem DV(h:HG e=true):∃a p,e = .Constant .none a p:=by
 obtain⟨c,a,p,rfl,h⟩:=b9 h;cases of_decide_eq_true h;exact⟨a,p,rfl⟩
theorem vq{v:Bool}(h:sBl v e=true):∃a p,e = .Constant (.bool v) a p:=by
 obtain⟨c,a,p,rfl,h⟩:=b9 h;cases of_decide_eq_true h;exact⟨a,p,rfl⟩
theorem lL{v:Int}(h:vn v e=true):∃a p,e = .Constant (.int v) a p:=by
 obtain⟨c,a,p,rfl,h⟩:=b9 h;cases of_decide_eq_true h;exact⟨a,p,rfl⟩
theorem oV{v:Str}(h:sF v e=true):∃a p,e = .Constant (.str v) a p:=by
 obtain⟨c,a,p,rfl,h⟩:=b9 h;cases of_decide_eq_true h;exact⟨a,p,rfl⟩
theorem ci{k:Str->Bool}(h:fB k e=true):∃x p,e = .Name x p/\k x=true:=qA h
theorem vt{k:List Expr->Bool}(h:DT k e=true):∃x a p,e = .Tuple x a p/\k x=true:=vi h
theorem jh{k:List Expr->Bool}(h:sG k e=true):∃x p,e = .List x p/\k x=true:=zh h
theorem oW{o:Wa}(h:zk o k l e=true):∃x y p,e = .BinOp x o y p/\k x=true/\l y=true:=by
 obtain⟨x,op,y,p,rfl,h⟩:=u9 h;obtain⟨h1,z0⟩:=an3 h;cases of_decide_eq_true h1;exact⟨x,y,p,rfl,z0⟩
theorem DW(h:HH k e=true):∃x p,e = .UnaryOp .USub x p/\k x=true:=by
 obtain⟨op,x,p,rfl,h⟩:=ja h;obtain⟨h1,z0⟩:=an2 h;cases of_decide_eq_true h1;exact⟨x,p,rfl,z0⟩
theorem oX(h:zl k e=true):∃x p,e = .UnaryOp .Not x p/\k x=true:=by
 obtain⟨op,x,p,rfl,h⟩:=ja h;obtain⟨h1,z0⟩:=an2 h;cases of_decide_eq_true h1;exact⟨x,p,rfl,z0⟩
theorem oY{o:CmpOp}(h:zm o k l e=true):∃x y p,e = .Compare x [o] [y] p/\k x=true/\l y=true/\aA y=true:=by
 obtain⟨x,os,ys,p,rfl,h⟩:=jc h;obtain⟨op,rfl,h⟩:=cw h;obtain⟨y,rfl,h⟩:=cw h;obtain⟨h1,z0⟩:=an4 h;cases of_decide_eq_true h1;exact⟨x,y,p,rfl,z0⟩
theorem vA{o p:CmpOp}(h:DU o p k l m e=true):∃x y z q,e = .Compare x [o,p] [y,z] q/\k x=true/\l y=true/\m z=true/\aA z=true:=by
 obtain⟨x,os,ys,q,rfl,h⟩:=jc h;obtain⟨op,os,rfl,h⟩:=bN h;obtain⟨op',rfl,h⟩:=cw h;obtain⟨y,ys,rfl,h⟩:=bN h;obtain⟨z,rfl,h⟩:=cw h;obtain⟨h1,h2,z0⟩:=an6 h;cases of_decide_eq_true h1;cases of_decide_eq_true h2;exact⟨x,y,z,q,rfl,z0⟩
theorem ji{o:BoolOp}(h:sH o k l e=true):∃x y p,e = .BoolOp o [x,y] p/\k x=true/\l y=true:=by
 obtain⟨op,vs,p,rfl,h⟩:=kc h;obtain⟨x,vs,rfl,h⟩:=bN h;obtain⟨y,rfl,h⟩:=cw h;obtain⟨h1,z0⟩:=an3 h;cases of_decide_eq_true h1;exact⟨x,y,p,rfl,z0⟩
theorem lN{o:BoolOp}(h:vo o k l e=true):∃x y z ys p,e = .BoolOp o (x::y::z::ys) p/\k x=true/\l (.BoolOp o (y::z::ys) p)=true:=by
 obtain⟨op,vs,p,rfl,h⟩:=kc h;obtain⟨x,vs,rfl,h⟩:=bN h;obtain⟨y,vs,rfl,h⟩:=bN h;obtain⟨z,vs,rfl,h⟩:=bN h;obtain⟨h1,z0⟩:=an3 h;cases of_decide_eq_true h1;exact⟨x,y,z,vs,p,rfl,z0⟩
theorem BV(h:sIx k l e=true):∃x y p,e = .Subscript x y p/\k x=true/\l y=true/\aA y=true:=by
 obtain⟨x,y,p,rfl,h⟩:=dr h;exact⟨x,y,p,rfl,an3 h⟩
theorem HI{l m:Option Expr->Bool}(h:sSl k l m e=true):∃x y z p q,e = .Subscript x (.Slice y z none p) q/\k x=true/\l y=true/\m z=true:=by
 obtain⟨x,s,q,rfl,h⟩:=dr h;obtain⟨y,z,w,p,rfl,h⟩:=vk h;obtain⟨h1,z0⟩:=an4 h;cases w;exact⟨x,y,z,p,q,rfl,z0⟩;cases h1
theorem kd{k:Str->List Expr->List Keyword->Bool}(h:sCN e k=true):∃x p es ks q,e = .Call (.Name x p) es ks q/\k x es ks=true:=by
 obtain⟨f,es,ks,q,rfl,h⟩:=qz h;obtain⟨x,p,rfl,h⟩:=qA h;exact⟨x,p,es,ks,q,rfl,h⟩
theorem lO{k:Str->Bool}{l:List Expr->Bool}(h:vp k l e=true):∃x x1 es p q,e = .Call (.Name x p) (x1::es) [] q/\k x=true/\l (x1::es)=true:=by
 obtain⟨x,p,es,ks,q,rfl,h⟩:=kd h;obtain⟨x1,es,rfl,h⟩:=bN h;obtain⟨h1,z0⟩:=an3 h;cases bS h1;exact⟨x,x1,es,p,q,rfl,z0⟩
theorem m7{b:Blk}{f:Str}{k:List Expr->Bool}(h:oU b f k e=true):∃x es p q,e = .Call (.Name f p) (x::es) [] q/\b.glo f=true/\k (x::es)=true:=by
 obtain⟨x,p,es,ks,q,rfl,h⟩:=kd h;obtain⟨x1,es,rfl,h⟩:=bN h;obtain⟨h1,h2,z0⟩:=an4 h;cases bS h1;cases cO h2;exact⟨x1,es,p,q,rfl,z0⟩
theorem bc{b:Blk}{f:Str}(h:cx b f k e=true):∃x p q,e = .Call (.Name f p) [x] [] q/\b.glo f=true/\k x=true/\aA x=true:=by
 obtain⟨x,p,es,ks,q,rfl,h⟩:=kd h;obtain⟨x1,rfl,h⟩:=cw h;obtain⟨h1,h2,z0⟩:=an5 h;cases bS h1;cases cO h2;exact⟨x1,p,q,rfl,z0⟩
theorem cy{b:Blk}{f:Str}(h:jg b f k l e=true):∃x y p q,e = .Call (.Name f p) [x,y] [] q/\b.glo f=true/\k x=true/\aA x=true/\l y=true/\aA y=true:=by
 obtain⟨x,p,es,ks,q,rfl,h⟩:=kd h;obtain⟨x1,es,rfl,h⟩:=bN h;obtain⟨y,rfl,h⟩:=cw h;obtain⟨h1,y0⟩:=an2 h;obtain⟨h2,z0⟩:=an6 y0;cases bS h1;cases cO h2;exact⟨x1,y,p,q,rfl,z0⟩
theorem lP{m:Str}{l:List Expr->Bool}(h:zn m k l e=true):∃x ap es p,e = .Call (.Attribute x m ap) es [] p/\oS x=true/\(ap.endLine == p.line)=true/\k x=true/\l es=true:=by
 obtain⟨f,es,ks,p,rfl,h⟩:=qz h;obtain⟨x,m',ap,rfl,h⟩:=lI h;obtain⟨h1,h2,z0⟩:=an6 h;cases bS h1;cases cO h2;exact⟨x,ap,es,p,rfl,z0⟩
theorem qB{k:Expr->Expr->Expr->List Expr->List XN->Scope->Bool}(h:BS k e=true):∃el t i ifs gs scope p,e = .ListComp el (⟨t,i,ifs,0⟩::gs) scope p/\k el t i ifs gs scope=true:=by
 obtain⟨el,gs,scope,p,rfl,h⟩:=gZ h;obtain⟨⟨t,i,ifs,as⟩,gs,rfl,h⟩:=bN h;obtain⟨h1,z0⟩:=an2 h;cases of_decide_eq_true h1;exact⟨el,t,i,ifs,gs,scope,p,rfl,z0⟩
theorem zo(h:BT e=true):∃p,e = .Dict [] [] p:=by
 obtain⟨ks,vs,p,rfl,h⟩:=qx h;obtain⟨h1,h2⟩:=an2 h;cases bS h1;cases bS h2;exact⟨p,rfl⟩
theorem zp(h:BU k l e=true):∃x y p,e = .Dict [some x] [y] p/\k x=true/\l y=true:=by
 obtain⟨ks,vs,p,rfl,h⟩:=qx h;obtain⟨x,rfl,h⟩:=cw h;obtain⟨y,rfl,h⟩:=cw h;cases x with
 |none=>cases h
 |some x=>exact⟨x,y,p,rfl,an2 h⟩
end
noncomputable def vB(f:Expr->CE->Bool)(l:Option Expr):Option CE->Bool
 |none=>l.isNone
 |some c=>oA l fun e=>f e c
noncomputable def vC(f:Expr->CE->Bool)(l:List Expr):Option CE->Bool
 |none=>l.isEmpty
 |some c=>l1 l fun e=>f e c
noncomputable def clC(cls:List Cl)(k:Tg->CI->Option CE->List Cl->Bool):Bool:=match cls with
 |[]=>false
 |⟨tg,it,cond⟩::rest=>k tg it cond rest
theorem BW{cls:List Cl}{k:Tg->CI->Option CE->List Cl->Bool}(h:clC cls k=true):∃tg it cond rest,cls=⟨tg,it,cond⟩::rest/\k tg it cond rest=true:=by
 cases cls with
 |nil=>cases h
 |cons g rest=>obtain⟨tg,it,cond⟩:=g;exact⟨tg,it,cond,rest,rfl,h⟩
mutual
noncomputable def aE(T:Tab):Nat->Blk->Expr->CE->Bool
 |0,_,_,_=>false
 |n+1,b,e,c=>match c with
  |.non=>HG e
  |.bl v=>sBl v e
  |.int i=>vn i e
  |.str x=>sF x e
  |.var i=>fB (fun x=>b.N[i]? == some x && b.vis x) e
  |.con k v=>fB (fun x=>T.con[k]? == some (x,v) && b.glo x) e
  |.tup cs=>DT (fun es=>ed T n b es cs) e
  |.lst cs=>sG (fun es=>ed T n b es cs) e
  |.dic0=>BT e
  |.dic1 i j=>BU (vn i) (vn j) e
  |.bin o a c=>zk o.op (fun x=>aE T n b x a) (fun x=>aE T n b x c) e
  |.neg a=>HH (fun x=>aE T n b x a) e
  |.cmp o a c=>zm o.op (fun x=>aE T n b x a) (fun x=>aE T n b x c) e
  |.chn o p a c d=>DU o.op p.op (fun x=>aE T n b x a) (fun x=>aE T n b x c) (fun x=>aE T n b x d) e
  |.and a c=>sH .And (fun x=>aE T n b x a) (fun x=>aE T n b x c) e || vo .And (fun x=>aE T n b x a) (fun x=>aE T n b x c) e
  |.or a c=>sH .Or (fun x=>aE T n b x a) (fun x=>aE T n b x c) e || vo .Or (fun x=>aE T n b x a) (fun x=>aE T n b x c) e
  |.not a=>zl (fun x=>aE T n b x a) e
  |.ix a c=>sIx (fun x=>aE T n b x a) (fun x=>aE T n b x c) e
  |.sl a lo hi=>sSl (fun x=>aE T n b x a) (fun l=>vB (aE T n b) l lo) (fun l=>vB (aE T n b) l hi) e
  |.call f cs=>vp (fun x=>oA T.fns[f]? (fun y=>y.1 == x) && b.glo x) (fun es=>ed T n b es cs) e
  |.inst t a=>jg b "isinstance" (fun x=>aE T n b x a) (fB fun y=>y == Str.ofString t.nm && b.glo y) e
  |.len a=>cx b "len" (fun x=>aE T n b x a) e
  |.all a=>cx b "all" (fun x=>aE T n b x a) e
  |.tupOf a=>cx b "tuple" (fun x=>aE T n b x a) e
  |.listOf a=>cx b "list" (fun x=>aE T n b x a) e
  |.listR a=>cx b "list" (cx b "range" fun x=>aE T n b x a) e
  |.listR2 a c=>cx b "list" (jg b "range" (fun x=>aE T n b x a) (fun x=>aE T n b x c)) e
  |.mx a c=>oU b "max" (fun es=>ed T n b es [a,c]) e
  |.mn a c=>oU b "min" (fun es=>ed T n b es [a,c]) e
  |.rep a=>cx b "repr" (fun x=>aE T n b x a) e
  |.comp own elt cls=>clC cls fun tg it cond rest=>BS (fun el t i ifs gs scope=>cmB own (je own b.N) b.N scope b.sc && m8 T n b t i it && oT (b.inner own scope) t tg && vC (du T n (b.inner own scope)) ifs cond && kf T n (b.inner own scope) el gs elt rest) e
  |.app o a=>zn "append" (fun x=>aE T n b x o) (fun es=>ed T n b es [a]) e
  |.cnt o a=>zn "count" (fun x=>aE T n b x o) (fun es=>ed T n b es [a]) e
noncomputable def ed(T:Tab):Nat->Blk->List Expr->List CE->Bool
 |0,_,_,_=>false
 |n+1,b,es,cs=>match cs with
  |[]=>es.isEmpty
  |c::cs=>lC es fun e es=>aE T n b e c && aA e && ed T n b es cs
noncomputable def kf(T:Tab):Nat->Blk->Expr->List XN->CE->List Cl->Bool
 |0,_,_,_,_,_=>false
 |n+1,b,e,gs,elt,cls=>match cls with
  |[]=>gs.isEmpty && aE T n b e elt
  |⟨tg,it,cond⟩::rest=>lC gs fun g gs=>decide (g.is_async=0) && m8 T n b g.target g.iter it && oT b g.target tg && vC (du T n b) g.ifs cond && kf T n b e gs elt rest
noncomputable def m8(T:Tab):Nat->Blk->Expr->Expr->CI->Bool
 |0,_,_,_,_=>false
 |n+1,b,t,e,c=>match c with
  |.val a=>aE T n b e a && aA e
  |.r1 a=>cx b "range" (fun x=>aE T n b x a) e
  |.r2 a c=>jg b "range" (fun x=>aE T n b x a) (fun x=>aE T n b x c) e
  |.en a=>cx b "enumerate" (fun x=>aE T n b x a) e && DT (fun _=>true) t
noncomputable def du(T:Tab):Nat->Blk->Expr->CE->Bool
 |0,_,_,_=>false
 |n+1,b,e,c=>match c with
  |.cmp o a c=>zm o.op (fun x=>aE T n b x a) (fun x=>aE T n b x c) e
  |.chn o p a c d=>DU o.op p.op (fun x=>aE T n b x a) (fun x=>aE T n b x c) (fun x=>aE T n b x d) e
  |.and a c=>sH .And (fun x=>du T n b x a) (fun x=>du T n b x c) e || vo .And (fun x=>du T n b x a) (fun x=>du T n b x c) e
  |.or a c=>sH .Or (fun x=>du T n b x a) (fun x=>du T n b x c) e || vo .Or (fun x=>du T n b x a) (fun x=>du T n b x c) e
  |.not a=>zl (fun x=>du T n b x a) e
  |c=>aE T n b e c && zi e
end
theorem e8{T:Tab}{n:Nat}{b:Blk}{t e:Expr}{c:CI}(h:m8 T n b t e c=true)(hp:∀e,aA e=true->∀env x,W9 e env x=pure x):∀env x,W9 e env x=pure x:=by
 cases n with
 |zero=>cases h
 |succ n=>
  cases c with
  |val a=>exact hp e (an2 h).2
  |r1 a=>obtain⟨x,p,q,rfl,_⟩:=bc h;intro _ _;rfl
  |r2 a c=>obtain⟨x,y,p,q,rfl,_⟩:=cy h;intro _ _;rfl
  |en a=>obtain⟨x,p,q,rfl,_⟩:=bc (an2 h).1;intro _ _;rfl
noncomputable def bmV:List Value:=[.type "ValueError", .type "Exception", .type "BaseException", .type "object"]
noncomputable def quN:List Str:=["__init__", "__getattribute__", "__getattr__", "__class__"]
def a8(h:Heap)(C:Addr)(bm:List Value):Prop:=∃N nm q bs hdct sn sub ab col dd k0 k1 k2 k3 k5 mN,h.get? C=some (W8 nm q C N bs bm hdct sn sub ab col dd k0 k1 k2 k3 k5 "ValueError.__new__")/\h.Ns N mN/\∀n ∈ quN,mN n=none
theorem a8.keeps{h h':Heap}{C:Addr}{bm:List Value}(x:a8 h C bm)(k:∀b o,h.get? b=some o->h'.get? b=some o):a8 h' C bm:=by
 obtain⟨N,nm,q,bs,hdct,sn,sub,ab,col,dd,k0,k1,k2,k3,k5,mN,hC,hN,hq⟩:=x;exact⟨N,nm,q,bs,hdct,sn,sub,ab,col,dd,k0,k1,k2,k3,k5,mN,k _ _ hC,hN.keeps k,hq⟩
section
variable {prog:Program} {w:World} {M:Model} {A:Around} {E:Value->Shared->Prop} {h:Heap} {g:Array X8} {d:Drawn} {t:Nat} {os:OsState} {a C R:Addr} {o:Obj} {vs:Array Value}
theorem oZ{n:Str}{y:Option Value}{Q:Option Value->Shared->Prop}(hn:n ∈ quN)(hC:a8 h C (.ref R::bmV))(hR:a8 h R bmV)(hB:VA (.type "ValueError") n=pure y)(hq:Q y ⟨h,g,d,t,os⟩):wpAny M A (VA (.ref C) n) Q E ⟨h,g,d,t,os⟩:=by
 obtain⟨N,nm,q,bs,hdct,sn,sub,ab,col,dd,k0,k1,k2,k3,k5,mN,hC,hN,hqn⟩:=hC;obtain⟨N',nm',q',bs',hdct',sn',sub',ab',col',dd',k0',k1',k2',k3',k5',mN',hR,hN',hqn'⟩:=hR;have hrest:Vc bmV n=pure y:=by rw[typeLookup_eq,PySem.F.excBase_ValueError.mroIs] at hB;exact hB
 rw[typeLookup_eq];refine VF (wpAny_mroOf_exc hC ?_);rw[lookupAlong_cons];refine VF (wpAny_classOwn_exc hC hN ?_);rw[hqn n hn];show wpAny M A (Vc (.ref R::bmV) n) Q E _;rw[lookupAlong_cons];refine VF (wpAny_classOwn_exc hR hN' ?_);rw[hqn' n hn];show wpAny M A (Vc bmV n) Q E _;rw[hrest];exact VY hq
theorem m9:VA (.type "ValueError") "__class__" = pure (some (.builtin "object.__class__")):=by rw[typeLookup_type,builtinLookup_eq_fast];kernel_rfl
theorem DX{Q:Result->Shared->Prop}(hC:a8 h C (.ref R::bmV))(hx:h.get? a=some o)(hc:o.cls = .ref C)(hq:Q (.ok (.ret (.ref C))) ⟨h,g,d,t,os⟩) :
  codeAny (model prog w) A (.call (.builtin "getset_descriptor.__get__") ⟨[.builtin "object.__class__", .ref a,.ref C],[]⟩) Q ⟨h,g,d,t,os⟩:=by
 obtain⟨N,nm,q,bs,hdct,sn,sub,ab,col,dd,k0,k1,k2,k3,k5,mN,hC,hN,hqn⟩:=hC;have hT5:(⟨h,g,d,t,os⟩:Shared).TypeIs (.builtin "object.__class__") "getset_descriptor" := X6
 have hcB:(Value.ref C :: .ref R::bmV).contains (.type (".".intercalate ("object.__class__".cutAt '.').dropLast))=true:=by
  rw[PySem.F.owner_object_class,ZR,ZR];rfl
 refine W2 PySem.F.slot_gs_get.plain PySem.F.entry_gs_get (PySem.F.slot_gs_get.check _ _ _ _ _ _ _ _ hT5 (PySem.F.args_gs_get _ _ _) ?_)
 repeat (any_goals (first |assumption |(with_reducible refine VS hx ?_;rw[hc]) |(with_reducible refine VO hC ?_;rw[hcB]) |wp_step))
 refine⟨Code.quiet_builtin _ (by decide +kernel),codeAny_builtin PySem.F.entry_object_class ?_⟩
 repeat (any_goals (first |assumption |(with_reducible refine VS hx ?_;rw[hc]) |wp_step))
theorem vD{tk:Tok}{Q:Fin->Shared->Prop}(hC:a8 h C (.ref R::bmV))(hR:a8 h R bmV)(hx:h.get? a=some o)(hc:o.cls = .ref C)(hq:Q (.done (.ret (.ref C))) ⟨h,g,d,t,os⟩) :
  wpAny (model prog w) A (Builtin.«object.__getattribute__» ⟨[.ref a,.str "__class__" tk],[]⟩) Q E ⟨h,g,d,t,os⟩:=by
 have hT5:(⟨h,g,d,t,os⟩:Shared).TypeIs (.builtin "object.__class__") "getset_descriptor" := X6;have f5:=X6;have f6:=PySem.F.slot_gs_get.lookup;have f7:=PySem.F.slot_gs_set.lookup;have hm:("__class__" : Str) ∈ quN:=.tail _ (.tail _ (.tail _ (.head _)))
 repeat (any_goals (first |assumption |(with_reducible refine VS hx ?_;rw[hc]) |with_reducible refine oZ hm hC hR m9 ?_ |wp_step))
 refine DX hC hx hc ?_
 repeat (any_goals (first |assumption |wp_step))
theorem vE{nameV:Value}{Q:Unit->Shared->Prop}(hC:a8 h C (.ref R::bmV))(hx:h.get? a=some o)(hc:o.cls = .ref C)(hq:Q () ⟨h,g,d,t,os⟩):wpAny M A (checkBuiltinCall "BaseException.__getattribute__" ⟨[.ref a,nameV],[]⟩) Q E ⟨h,g,d,t,os⟩:=by
 obtain⟨N,nm,q,bs,hdct,sn,sub,ab,col,dd,k0,k1,k2,k3,k5,mN,hC,hN,hqn⟩:=hC;have hk:builtinKind "BaseException.__getattribute__" = some .slot:=by decide +kernel
 have hsplit:splitId "BaseException.__getattribute__" = some ("BaseException", "__getattribute__"):=by decide +kernel
 have hcB:(Value.ref C :: .ref R::bmV).contains (.type "BaseException")=true:=by rw[ZR,ZR];rfl
 have ha:=PySem.F.args_bexc_ga (.ref a) nameV;simp only[checkBuiltinCall,hk,hsplit];refine VF ?_
 ·unfold isInstance
  repeat (first |(with_reducible refine VS hx ?_;rw[hc]) |(with_reducible refine VO hC ?_;rw[hcB]) |wp_step)
  exact hq
theorem HJ{tk:Tok}{Q:Value->Shared->Prop}(hC:a8 h C (.ref R::bmV))(hR:a8 h R bmV)(hx:h.get? a=some o)(hc:o.cls = .ref C)(hq:Q (.ref C) ⟨h,g,d,t,os⟩) :
  wpAny (model prog w) A (getAttrBy (.ref a) (.str "__class__" tk) false) Q E ⟨h,g,d,t,os⟩:=by
 have FB:=PySem.F.attrBase_ValueError;have f3:=FB.ga.bind (.ref a);have hx2:(Value.builtin "BaseException.__getattribute__" == Value.builtin "object.__getattribute__")=false:=by decide +kernel
 have hm1:("__getattribute__" : Str) ∈ quN:=.tail _ (.head _);have hm2:("__getattr__" : Str) ∈ quN:=.tail _ (.tail _ (.head _))
 repeat (any_goals (first |assumption |(with_reducible refine VS hx ?_;rw[hc]) |with_reducible refine oZ hm1 hC hR FB.ga.lookup ?_ |with_reducible refine oZ hm2 hC hR FB.noGetattr ?_ |wp_step))
 refine W2 FB.ga.plain PySem.F.entry_bexc_ga (vE hC hx hc (vD hC hR hx hc ?_))
 repeat (any_goals (first |assumption |wp_step))
theorem zq{Q:Option Value->Shared->Prop}(hC:a8 h C (.ref R::bmV))(hR:a8 h R bmV)(hx:h.get? a=some o)(hc:o.cls = .ref C)(hq:Q (some (.ref C)) ⟨h,g,d,t+1,os⟩):wpAny (model prog w) A (getAttr? (.ref a) "__class__") Q E ⟨h,g,d,t,os⟩:=by
 unfold getAttr? getAttrBy?
 repeat (any_goals (first |assumption |with_reducible apply HJ hC hR hx hc |wp_step))
end
def kg(h:Heap)(e C:Addr):Prop:=∃o vs,h.get? e=some o/\o.cls = .ref C/\o.data = .fields vs
def kh(h:Heap)(D:Addr):Prop:=∃dd cd sl,h.get? D=some ⟨.type "type", dd,.cls cd,sl⟩
section
variable {prog:Program} {w:World} {M:Model} {A:Around} {E:Value->Shared->Prop} {s:Shared} {e C R D:Addr}
theorem qC{K:Wu}{oc:Value}{dd:Option Addr}{cd:ClassData}{sl:Array (Option Value)}(hk:K.lookup C=some ⟨oc,dd,.cls cd,sl⟩):PySem.W.KitX K (.ref e) (.ref C) (fun h=>a8 h C (.ref R::bmV)/\a8 h R bmV/\kg h e C) where
 ty:=fun M h _ ⟨_,_,o,_,h1,h2,_⟩=>h2 ▸ (PySem.W.Looks.ld h1).andThen .now
 it:=fun M h _ ⟨hC,_⟩=>by
  obtain⟨N,nm,q,bs,hdct,sn,sub,ab,col,dd,k0,k1,k2,k3,k5,mN,hC,_⟩:=hC;intro A' Q' E' s' k q;unfold isType loadHead;exact VF (wpAny_loadPart (k _ _ hC) (VY q))
 ne:=fun h tp dd its n sl X htp=>by
  refine Z2.mpr fun q=>?_;have e:C=tp:=Value.ref.inj (beq_iff_eq.mp q);subst e;rw[X _ _ hk] at htp;cases htp
 ca:=fun {_ _ _ _ _ s} _ ⟨hC,hR,o,_,h1,h2,_⟩ hq=>by
  obtain⟨h,g,d,t,os⟩:=s;exact zq hC hR h1 h2 hq
theorem isx{D:Addr}{Q:Value->Shared->Prop}(hC:a8 s.heap C (.ref R::bmV))(hR:a8 s.heap R bmV)(he:kg s.heap e C)(hD:kh s.heap D)(hr:D ≠ R)(h:∀tk,Q (.bool (C == D)) { s with toks:=tk }) :
  wpAny (model prog w) A (call (.builtin "isinstance") [.ref e,.ref D]) Q E s:=by
 have hC':=hC;obtain⟨N,nm,q,bs,hdct,sn,sub,ab,col,dd,k0,k1,k2,k3,k5,mN,hc,_⟩:=hC';obtain⟨dd',cd',sl',hd⟩:=hD
 have KX:PySem.W.Frag.In [(C,W8 nm q C N bs (.ref R::bmV) hdct sn sub ab col dd k0 k1 k2 k3 k5 "ValueError.__new__"),(D,⟨.type "type", dd',.cls cd',sl'⟩)] s.heap:=by
  intro b o hb;rw[ZI] at hb;split at hb
  ·rename_i z;cases hb;rw[show b=C from by simpa using z];exact hc
  ·rw[ZI] at hb;split at hb
   ·rename_i z;cases hb;rw[show b=D from by simpa using z];exact hd
   ·cases hb
 have l1:YW C [(C,W8 nm q C N bs (.ref R::bmV) hdct sn sub ab col dd k0 k1 k2 k3 k5 "ValueError.__new__"),(D,(⟨.type "type", dd',.cls cd',sl'⟩:Obj))]=some (W8 nm q C N bs (.ref R::bmV) hdct sn sub ab col dd k0 k1 k2 k3 k5 "ValueError.__new__"):=by
  rw[ZI,beq_self_eq_true]
 refine WF (qC (R:=R) l1) KX ⟨hC,hR,he⟩ ?_ (fun z=>nomatch z) h;unfold WH;by_cases z:C=D
 ·subst z;rw[if_pos (beq_self_eq_true _),beq_self_eq_true]
 ·have z1:(C == D)=false:=by simpa using z
  rw[if_neg (by simpa using z),z1]
  have l2:YW D [(C,W8 nm q C N bs (.ref R::bmV) hdct sn sub ab col dd k0 k1 k2 k3 k5 "ValueError.__new__"),(D,(⟨.type "type", dd',.cls cd',sl'⟩:Obj))]=some ⟨.type "type", dd',.cls cd',sl'⟩:=by
   rw[ZI,show(D == C)=false from by simpa using Ne.symm z,ZI,beq_self_eq_true]
  unfold WG;dsimp only;rw[if_pos (by unfold Wx PySem.W.typeIn;dsimp only;rw[l2];rfl)];unfold WQ WM Wx;dsimp only;rw[l1];show some ((Value.ref C :: .ref R::bmV).contains (.ref D))=_;rw[ZR,ZR];have z2:((Value.ref D) == Value.ref C)=false:=by simpa using Ne.symm z
  have z3:((Value.ref D) == Value.ref R)=false:=by simpa using hr
  rw[z2,z3];rfl
theorem isv{Q:Value->Shared->Prop}(hC:a8 s.heap C (.ref R::bmV))(hR:a8 s.heap R bmV)(he:kg s.heap e C)(h:∀tk,Q (.bool true) { s with toks:=tk }) :
  wpAny (model prog w) A (call (.builtin "isinstance") [.ref e,.type "ValueError"]) Q E s:=by
 have hC':=hC;obtain⟨N,nm,q,bs,hdct,sn,sub,ab,col,dd,k0,k1,k2,k3,k5,mN,hc,_⟩:=hC'
 have KX:PySem.W.Frag.In [(C,W8 nm q C N bs (.ref R::bmV) hdct sn sub ab col dd k0 k1 k2 k3 k5 "ValueError.__new__")] s.heap:=by
  intro b o hb;rw[ZI] at hb;split at hb
  ·rename_i z;cases hb;rw[show b=C from by simpa using z];exact hc
  ·cases hb
 have l1:YW C [(C,W8 nm q C N bs (.ref R::bmV) hdct sn sub ab col dd k0 k1 k2 k3 k5 "ValueError.__new__")]=some (W8 nm q C N bs (.ref R::bmV) hdct sn sub ab col dd k0 k1 k2 k3 k5 "ValueError.__new__"):=by
  rw[ZI,beq_self_eq_true]
 refine WF (qC (R:=R) l1) KX ⟨hC,hR,he⟩ ?_ (fun z=>nomatch z) h;unfold WH;rw[if_neg (by simp)];unfold WG;dsimp only;rw[if_pos (by decide +kernel)];unfold WQ WM Wx;dsimp only;rw[l1];show some ((Value.ref C :: .ref R::bmV).contains (.type "ValueError"))=_;rw[ZR,ZR];rfl
theorem DY{h:Heap}{g:Array X8}{d:Drawn}{t:Nat}{os:OsState}{Q:Bool->Shared->Prop}(hC:a8 h C (.ref R::bmV))(hR:a8 h R bmV)(he:kg h e C)(hq:Q true ⟨h,g,d,t,os⟩):wpAny M A (excMatches (.ref e) (.ref R)) Q E ⟨h,g,d,t,os⟩:=by
 obtain⟨N,nm,q,bs,hdct,sn,sub,ab,col,dd,k0,k1,k2,k3,k5,mN,hC,_⟩:=hC;obtain⟨N',nm',q',bs',hdct',sn',sub',ab',col',dd',k0',k1',k2',k3',k5',mN',hR,_⟩:=hR;obtain⟨oe,vs,he,hcls,_⟩:=he;have hcB:(Value.ref R::bmV).contains (.type "BaseException")=true:=by rw[ZR];rfl
 have hcC:(Value.ref C :: .ref R::bmV).contains (.ref R)=true:=by simp
 have f:=tc_notTuple;unfold excMatches
 repeat (first |(with_reducible refine VS he ?_;rw[hcls]) |with_reducible refine VS hR ?_ |with_reducible refine VS hC ?_ |(with_reducible refine VO hR ?_;rw[hcB]) |(with_reducible refine VO hC ?_;rw[hcC]) |wp_step)
 exact hq
end
structure XLeft(P:Program)(w:World)(outer:List Env)(H H':Hp)(s:Shared)(B:Heap)(s':Shared):Prop where
 os:s'.os=s.os
 bare:AllBare s'.gens
 un:Un (frs outer) [] H H' s.heap s'.heap
 keep:∀b o,s.heap.get? b=some o->H b=none->b ∉ frs outer->B.get? b=some o
 there:∀b o,s.heap.get? b=some o->b ∉ frs outer->∃o',B.get? b=some o'
 hok:HOk P w H' B
def CXE(P:Program)(w:World):CXT:=fun outer H s E ev s'=>∃e c a0 H' B,ev = .ref e/\Heap.FlyingW B outer e c a0 s'.heap/\XLeft P w outer H H' s B s'/\E c none H'
theorem HK{X:Cx}{P:Program}{w:World}:iG (CXE P w) X E0:=fun _ _ _ _ _ _ _ ⟨_,_,_,_,_,_,_,_,h⟩=>h.elim
section
variable {P:Program} {w:World} {outer:List Env} {H H':Hp} {s s':Shared} {B:Heap} {e:Addr} {c a0:Value} {h':Heap}
theorem XLeft.later(x:XLeft P w outer H H' s B s')(f0:Heap.FlyingW B outer e c a0 s'.heap)(f:B.StaysIn h')(ff:h'.FunFrames B outer)(u:s'.heap.UpToSlots h'){g:Array X8}{d:Drawn}{t:Nat}(hg:AllBare g):XLeft P w outer H H' s B ⟨h',g,d,t,s'.os⟩ where
 os:=x.os
 bare:=hg
 un:=by
  have sl:∀b o,s'.heap.get? b=some o->b ∈ frs outer->∃sl,h'.get? b=some { o with slots:=sl }:=fun b o q hb=>by
   obtain⟨_,o',q',nf⟩:=f0.2.2.1.mem hb;rw[q] at q';cases q';exact u b o q nf
  refine⟨fun b o q n hb _=>f b o (x.keep b o q n hb),fun b o q n hb hx=>?_,x.un.free,fun b o q hx=>?_,x.un.tups,x.un.frzs,x.un.tbls⟩
  ·obtain⟨z,q1⟩:=x.un.slot b o q n hb hx;obtain⟨z2,q2⟩:=sl b _ q1 hb;exact⟨z2,q2⟩
  ·by_cases hb:b ∈ frs outer
   ·obtain⟨_,o',q',_⟩:=ff.mem hb;exact⟨o',q'⟩
   ·obtain⟨o',q'⟩:=x.there b o q hb;exact⟨o',f b o' q'⟩
 keep:=x.keep
 there:=x.there
 hok:=x.hok
end
section
variable {P:Program} {w:World} {K:Wu} {mg:Str->Option Value} {base:Heap} {N:List Str} {qual:Str} {scope:Scope} {f:Addr} {cd:Value} {A:Around} {outer:List Env} {s0:Shared} {H0:Hp} {E:XK}
noncomputable abbrev cxE(P:Program)(w:World)(K:Wu)(mg:Str->Option Value)(base:Heap)(N:List Str)(qual:Str)(scope:Scope)(f:Addr)(cd:Value)(A:Around)(outer:List Env)(s0:Shared)(H0:Hp)(E:XK):Cx:=jF (CXE P w) P w K mg base N qual scope f cd A outer s0 H0 E
theorem nc:frs (envOfC qual scope s0.heap.objs.size f cd::outer)=s0.heap.objs.size::frs outer:=rfl
theorem HL:iG (CXE P w) (cxE P w K mg base N qual scope f cd A outer s0 H0 E) E:=by
 rintro pins σ H s _ s' I ⟨e,c,a0,H',B,rfl,fl,x,hE⟩;have hfr:(A.deeper (envOfC qual scope s0.heap.objs.size f cd)).frames=some (envOfC qual scope s0.heap.objs.size f cd::outer):=I.ok.frames;show wpAny (model P w) (A.deeper (envOfC qual scope s0.heap.objs.size f cd)) (leaving (envOfC qual scope s0.heap.objs.size f cd) (.ref e)) _ _ s'
 have nL:∀b o,s0.heap.get? b=some o->b ∉ frs outer->b ∉ frs (envOfC qual scope s0.heap.objs.size f cd::outer):=fun b o q hb hm=>by
  rw[nc] at hm;rcases Zq.mp hm with z |z
  ·exact absurd (Zn q) (by rw[z];exact ZK _)
  ·exact hb z
 have ib:Un (frs outer) [] H0 H s0.heap s.heap:=I.base;refine wpAny_leaves_onW hfr rfl fl fun h' x1 x2=>⟨e,c,a0,H',B,rfl,x1,?_,hE⟩;refine⟨x.os.trans I.os,x.bare,⟨fun b o q n hb hx=>?_,fun b o q n hb hx=>?_,fun b o q n hx=>?_,fun b o q hx=>?_,fun b xs q=>x.un.tups b xs (ib.tups b xs q),fun b o u q=>x.un.frzs b o u (ib.frzs b o u q),fun b ps q=>?_⟩,fun b o q n hb=>?_,fun b o q hb=>?_,x.hok⟩
 ·exact x1.1 b o (x.keep b o (ib.keep b o q n hb hx) (ib.free b o q n hx) (nL b o q hb))
 ·obtain⟨z,q1⟩:=ib.slot b o q n hb hx;obtain⟨z2,q2⟩:=x.un.slot b _ q1 (ib.free b o q n hx) (show b ∈ s0.heap.objs.size::frs outer from Zd _ hb) hx
  obtain⟨_,o',q',nf⟩:=fl.2.2.1.mem (b:=b) (Yg.mpr (by
   obtain⟨y,hy,hz⟩:=Yg.mp hb;exact⟨y,Zd _ hy,hz⟩))
  rw[q2] at q';cases q';obtain⟨z3,q3⟩:=x2 b _ q2 nf;exact⟨z3,q3⟩
 ·obtain⟨o',q1⟩:=ib.there b o q hx;exact x.un.free b o' q1 (ib.free b o q n hx) hx
 ·by_cases hb:b ∈ frs outer
  ·obtain⟨_,o',q',_⟩:=x1.2.2.1.mem hb;exact⟨o',q'⟩
  ·obtain⟨o',q1⟩:=ib.there b o q hx;obtain⟨o2,q2⟩:=x.there b o' q1 (nL b o q hb);exact⟨o2,x1.1 b o2 q2⟩
 ·obtain⟨m1,e1⟩:=ib.tbls b ps q;obtain⟨m2,e2⟩:=x.un.tbls b _ e1;exact⟨m1++m2,by rw[e2,Y4]⟩
 ·exact x.keep b o (ib.keep b o q n hb (by simp)) (ib.free b o q n (by simp)) (nL b o q hb)
 ·obtain⟨o',q1⟩:=ib.there b o q (by simp);exact x.there b o' q1 (nL b o q hb)
theorem HM{pins:List (Addr × Obj)}{σ:L2.St}{H:Hp}{s:Shared}{h1:Heap}{e:Addr}{c:Value}{args:List Value}(I:Inv (cxE P w K mg base N qual scope f cd A outer s0 H0 E) pins σ H s)(mk:Heap.MadeExcOf s.heap h1 e c args)(hE:E c none H) :
  (cxE P w K mg base N qual scope f cd A outer s0 H0 E).xe (.ref e) { s with heap:=h1 }:=by
 have hfr:(A.deeper (envOfC qual scope s0.heap.objs.size f cd)).frames=some (envOfC qual scope s0.heap.objs.size f cd::outer):=I.ok.frames;show wpAny (model P w) (A.deeper (envOfC qual scope s0.heap.objs.size f cd)) (leaving (envOfC qual scope s0.heap.objs.size f cd) (.ref e)) _ _ { s with heap:=h1 };have stk:s.heap.FunFrames base (envOfC qual scope s0.heap.objs.size f cd::outer):=I.stack;have sf:∀b ∈ frs (envOfC qual scope s0.heap.objs.size f cd::outer),H b=none:=I.stkFree
 have nL:∀b o,s0.heap.get? b=some o->b ∉ frs outer->b ∉ frs (envOfC qual scope s0.heap.objs.size f cd::outer):=fun b o q hb hm=>by
  rw[nc] at hm;rcases Zq.mp hm with z |z
  ·exact absurd (Zn q) (by rw[z];exact ZK _)
  ·exact hb z
 have ib:Un (frs outer) [] H0 H s0.heap s.heap:=I.base;have hin:∀env ∈ (envOfC qual scope s0.heap.objs.size f cd::outer),∀b,env.frame=some b->b ∈ frs (envOfC qual scope s0.heap.objs.size f cd::outer):=fun env he b hb=>Yg.mpr ⟨env,he,hb⟩;refine wpAny_leaves_madeW hfr rfl (fun b o q=>WN _ q) (PySem.W.funFrames_hide stk hin) mk fun h' t x1 x2 x3 x4=>⟨e,c,.ref t,H,_,rfl,x1,?_,hE⟩
 have up:∀b o,s.heap.get? b=some o->b ∈ frs (envOfC qual scope s0.heap.objs.size f cd::outer)->∃sl,h'.get? b=some { o with slots:=sl }:=fun b o q hb=>by
  obtain⟨_,o',q',nf⟩:=stk.mem hb;rw[q] at q';cases q';exact x4 b o (mk.keeps b o q) nf
 refine⟨I.os,I.bare,⟨fun b o q n hb hx=>?_,fun b o q n hb hx=>?_,fun b o q n hx=>ib.free b o q n hx,fun b o q hx=>?_,ib.tups,ib.frzs,ib.tbls⟩,fun b o q n hb=>?_,fun b o q hb=>?_,fun a o q=>?_⟩
 ·exact x1.1 b o (WC _ (ib.keep b o q n hb hx) (nL b o q hb))
 ·obtain⟨z,q1⟩:=ib.slot b o q n hb hx;obtain⟨z2,q2⟩:=up b _ q1 (show b ∈ s0.heap.objs.size::frs outer from Zd _ hb);exact⟨z2,q2⟩
 ·obtain⟨o',q1⟩:=ib.there b o q hx;by_cases hb:b ∈ frs (envOfC qual scope s0.heap.objs.size f cd::outer)
  ·obtain⟨z2,q2⟩:=up b _ q1 hb;exact⟨_,q2⟩
  ·exact⟨o',x1.1 b o' (WC _ q1 hb)⟩
 ·exact WC _ (ib.keep b o q n hb (by simp)) (nL b o q hb)
 ·obtain⟨o',q1⟩:=ib.there b o q (by simp);exact⟨o',WC _ q1 (nL b o q hb)⟩
 ·refine(I.hok a o q).stay (fun b u hb qu=>WC _ qu fun hm=>?_) (fun _ z=>z) fun _ _ z=>z;have hf:=sf b hm;rcases hb with rfl |hb
  ·rw[q] at hf;cases hf
  ·rw[hb] at hf;cases hf
end
section
variable {X:Cx} {x:Str} {np cpos pos:Pos} {a:Expr} {C R:Addr} {v:V}
theorem vF{E:XK}(hx:∀pins σ H s h1 e args,Inv X pins σ H s->Heap.MadeExcOf s.heap h1 e (.ref C) args->E (.ref C) none H->X.xe (.ref e) { s with heap:=h1 })(hc:X.calm=true)(hg:Gl X x)(hm:X.mg x=some (.ref C))(hC:a8 X.base C (.ref R::bmV))(hR:a8 X.base R bmV)
  (ha:PA X [a] (cJ (tC v) iC)) (he:Vr [a] X.env=[(false,eval a X.env)]) (hd:(x == ("__debug__" : Str))=false):PS X (.Raise (some (.Call (.Name x np) [a] [] cpos)) none pos) (fun D σ H=>E (.ref C) none H):=by
 intro pins s σ H D I h;have h:cJ (tC v) iC σ H fun vs H1=>vs.length=1/\E (.ref C) none H1:=⟨rfl,h⟩;obtain⟨N,nm,q,bs,hdct,sn,sub,ab,col,dd,k0,k1,k2,k3,k5,mN,hC,hN,hqn⟩:=hC;obtain⟨N',nm',q',bs',hdct',sn',sub',ab',col',dd',k0',k1',k2',k3',k5',mN',hR,hN',hqn'⟩:=hR;have T:OwnTail X.base bmV (.ref R::bmV):=.own hR hN' (hqn' _ (.head _)) .base
 refine wpAny_Raise_call_subT (C:=C) (nm:=nm) (q:=q) (N:=N) (bs:=bs) (bm:=.ref R::bmV) (hdct:=hdct) (sn:=sn) (sub:=sub) (ab:=ab) (col:=col) (dd:=dd) (k0:=k0) (k1:=k1) (k2:=k2) (k3:=k3) (k5:=k5)
  PySem.F.excBase_ValueError (mN:=mN) (T.hasType PySem.F.excBase_ValueError.hasBase) (I.ok.hd hc) (by rw[he];rfl) (hqn _ (.head _)) (eM I hg hm ⟨rfl,?_⟩ hd)
 have hp:=ha cpos pins s σ H _ I h;rw[he] at hp ⊢;exact XM (VT hp (fun vs s2 ⟨xs,H1,I1,r,q⟩=>⟨rfl,by rw[<-r.length,q.1];decide,I1.bk _ _ hC,hN.keeps I1.bk,T.keeps I1.bk,fun h' e mk=>hx pins σ H1 s2 h' e vs I1 mk q.2⟩) fun _ _ y=>y)
end
theorem ng{P:Program}{w:World}{H:Hp}{h:Heap}{a:Addr}{o:HO}(x:aU P w H h a o):∃u,h.get? a=some u:=by
 cases o with
 |lst xs=>obtain⟨_,_,_,_,e⟩:=x;exact⟨_,e⟩
 |tup xs=>obtain⟨_,_,_,o,e,_⟩:=x;exact⟨_,e⟩
 |dK kvs=>obtain⟨_,_,_,_,o,_,_,e,_⟩:=x;exact⟨_,e⟩
 |dT kvs=>obtain⟨_,_,_,_,o,_,_,e,_⟩:=x;exact⟨_,e⟩
 |set S n=>obtain⟨o,_,_,_,e,_⟩:=x;exact⟨_,e⟩
 |ins C dx fs=>obtain⟨_,_,_,e,_⟩:=x;exact⟨_,e⟩
 |own y=>exact x
 |xd fs=>obtain⟨_,⟨_,_,_,e,_⟩,_⟩:=x;exact⟨_,e⟩
 |rng lo hi=>obtain⟨_,_,_,e⟩:=x;exact⟨_,e⟩
 |frz ob u=>obtain⟨e,_⟩:=x;exact⟨_,e⟩
 |tbl ps=>exact⟨_,x⟩
 |met f y=>exact⟨_,x⟩
 |ext φ=>obtain⟨_,e,_⟩:=x;exact e
noncomputable abbrev exO(e C:Addr):HO:=.ext fun h=>kg h e C
section
variable {P:Program} {w:World} {l:List Env} {H H':Hp} {s s':Shared} {B:Heap} {e C:Addr} {a0:Value} {h6:Heap}
theorem XLeft.got(x:XLeft P w l H H' s B s')(f0:Heap.FlyingW B l e (.ref C) a0 s'.heap)(f:Heap.FlyingW B l e (.ref C) a0 h6)(u:s'.heap.UpToSlots h6):Un (frs l) [] H (upd H' e (exO e C)) s.heap h6/\HOk P w (upd H' e (exO e C)) h6:=by
 have un:=(x.later f0 f.1 f.2.2.1 u (g:=s'.gens) (d:=s'.drawn) (t:=s'.toks) x.bare).un
 have ne:H' e=none:=by
  cases q:H' e with
  |none=>rfl
  |some o=>obtain⟨z,q2⟩:=ng (x.hok e o q);rw[f.2.1] at q2;cases q2
 obtain⟨oe,vs,he,hc,hd,_⟩:=f.first
 have nb:∀b o,s.heap.get? b=some o->H b=none->b ≠ e:=fun b o q n z=>by
  subst z;by_cases hb:b ∈ frs l
  ·obtain⟨_,o2,q2,nf⟩:=f.2.2.1.mem hb;rw[he] at q2;cases q2;exact nf vs hd
  ·have:=x.keep b o q n hb;rw[f.2.1] at this;cases this
 have up:∀b u,H' b=some u->upd H' e (exO e C) b=some u:=fun b u q=>by rw[ak (aD q ne)];exact q
 refine⟨⟨un.keep,un.slot,fun b o q n hx=>by rw[ak (nb b o q n)];exact un.free b o q n hx,un.there,fun b xs q=>up b _ (un.tups b xs q),fun b o v q=>up b _ (un.frzs b o v q),fun b ps q=>?_⟩,fun b o q=>?_⟩
 ·obtain⟨m,q1⟩:=un.tbls b ps q;exact⟨m,up b _ q1⟩
 ·by_cases hb:b=e
  ·subst hb;rw[ao] at q;cases q;exact⟨⟨oe,vs,he,hc,hd⟩,⟨oe,he⟩,fun h1 h2 ⟨o,vs,q1,q2⟩ k=>⟨o,vs,k o q1,q2⟩⟩
  ·rw[ak hb] at q;exact(x.hok b o q).stay (fun c v _ z=>f.1 c v z) (fun c z=>up c _ z) fun c xs z=>up c _ z
end
section
variable {X:Cx} {pins:List (Addr × Obj)} {σ:L2.St} {H:Hp} {s:Shared}
noncomputable abbrev Cx.mk(X:Cx)(e:Addr):Cx:={ X with A:=X.A.mark (some (.ref e)),calm:=false,xe:=fun _ _=>False }
theorem vG(I:L2.Inv X pins σ H s)(e:Addr):L2.Inv (Cx.mk X e) pins σ H s:=
 ⟨⟨I.ok.mod,I.ok.kind,I.ok.glob,I.ok.blt,I.ok.above,I.ok.inj,I.ok.has,I.ok.cab,fun z=>(nomatch z),I.ok.frames,I.ok.stk,I.ok.exf,I.ok.bs,I.ok.bsz,I.ok.noex,I.ok.exfs,I.ok.funs,I.ok.frf⟩,I.os,I.bare,I.base,I.loc,I.cell,I.free,I.freeC,I.pin,I.hok,I.len⟩
theorem DZ{e:Addr}(ok:X.Ok)(I:L2.Inv (Cx.mk X e) pins σ H s):L2.Inv X pins σ H s:=⟨ok,I.os,I.bare,I.base,I.loc,I.cell,I.free,I.freeC,I.pin,I.hok,I.len⟩
theorem zr{M:Model}{A:Around}{E:Value->Shared->Prop}{i:Nat}{x:Str}{pos:Pos}{Q:Unit->Shared->Prop}(I:L2.Inv X pins σ H s)(hN:X.N.Nodup)(hi:X.N[i]?=some x)(hk:X.env.scope.names.lookup x=some .local)
  (h:∀s',L2.Inv X pins (σ.set i none) H s'->Q () s'):wpAny M A (do WW X.env x .none;unbindBehindTheSuite X.env x pos) Q E s:=by
 obtain⟨m,hn,hl⟩:=id I.loc;have hcls:(X.env.scope.kind == .class || (X.env.scope.kind == .module && X.env.locals != X.env.globals))=false:=by rw[I.ok.kind];rfl
 have hiσ:i < σ.length:=by rw[I.len];exact(Za.mp hi).1
 have cne:=I.cne;refine wpAny_nameGoes_keeps hk hn hcls fun h' v hn' hs=>?_;refine h _ ⟨I.ok,I.os,I.bare,⟨fun b o e n hb hx=>?_,fun b o e n hb hx=>?_,I.base.free,fun b o e hx=>?_,I.base.tups,I.base.frzs,I.base.tbls⟩,⟨_,hn',fun j y v' e1 e2 e3=>?_⟩,fun y c e=>?_,I.free,I.freeC,fun p hp=>?_,fun b ob e=>?_,by simpa using I.len⟩
 ·exact(hs.2 b (ZA (Zs (Zn e) I.ok.above))).trans (I.base.keep b o e n hb hx)
 ·obtain⟨sl,e1⟩:=I.base.slot b o e n hb hx;exact⟨sl,(hs.2 b (ZA (Zs (Zn e) I.ok.above))).trans e1⟩
 ·obtain⟨o',e1⟩:=I.base.there b o e hx;exact⟨o',(hs.2 b (ZA (Zs (Zn e) I.ok.above))).trans e1⟩
 ·by_cases hj:j=i
  ·subst hj;rw[ZC hiσ] at e2;cases e2
  ·rw[ZP (Ne.symm hj)] at e2;obtain⟨u',r',q⟩:=hl j y v' e1 e2 e3;refine⟨u',r',?_⟩;rcases q with ⟨k,e⟩ |⟨k,c,e,z⟩
   ·refine .inl ⟨k,?_⟩;have:y ≠ x:=fun e=>hj (iy hN e1 (e ▸ hi));simp[this,e]
   ·exact .inr ⟨k,c,e,z.sameBut hs (cne y c e)⟩
 ·obtain⟨w',z⟩:=I.cell y c e;exact⟨w',z.sameBut hs (cne y c e)⟩
 ·obtain⟨e,n,ne,nf,d⟩:=I.pin p hp;exact⟨(hs.2 p.1 ne).trans e,n,ne,nf,d⟩
 ·refine(I.hok b ob e).stay (fun c w' hc q=>(hs.2 c ?_).trans q) (fun _ q=>q) fun _ _ q=>q;rintro rfl;rcases hc with rfl |hc
  ·rw[I.free] at e;cases e
  ·rw[I.free] at hc;cases hc
theorem zt{H':Hp}{s':Shared}{B:Heap}{e C R:Addr}{a0:Value}{i:Nat}{n ring:Str}{b₀:Stmt}{suite:List Stmt}{np hpos:Pos}{D:Ends}(hst:X.stack=X.env::X.outer)(hfm:X.env.frame=some X.env.locals)(I:L2.Inv X pins σ H s)(fl:Heap.FlyingW B X.stack e (.ref C) a0 s'.heap)(x:XLeft X.prog X.w X.stack H H' s B s')
  (hC:a8 X.base C (.ref R::bmV)) (hR:a8 X.base R bmV) (hg:Gl X ring) (hm:X.mg ring=some (.ref R)) (hdb:(ring == ("__debug__" : Str))=false) (hN:X.N.Nodup) (hi:X.N[i]?=some n) (hl:X.env.scope.names.lookup n=some .local)
  (hb:∀s6,L2.Inv (Cx.mk X e) pins (σ.set i (some (.ref e))) (upd H' e (exO e C)) s6->wpAny (model X.prog X.w) (Cx.mk X e).A (execs (b₀::suite) X.env) (fun f s7=>∃u v σ7 H7,f = .ret u/\L2.Inv (Cx.mk X e) pins σ7 H7 s7/\av v u/\D.rt v H7) (fun _ _=>False) s6) :
  wpAny (model X.prog X.w) X.A (noteFrame (.ref e) X.env) (fun _ s₂=>wpAny (model X.prog X.w) X.A (setFlight (.ref e) none) (fun _ s₃=>wpAny (model X.prog X.w) X.A (handleBy (.ref e) X.env [.ExceptHandler (some (.Name ring np)) (some n) (b₀::suite) hpos]) (SP X pins D) X.xe s₃) X.xe s₂) X.xe s':=by
 have hfr:X.A.frames=some (X.env::X.outer):=by rw[<-hst];exact I.ok.frames
 have st:X.base.StaysIn B:=fun b o q=>x.keep b o (I.bs b o q).1 (I.bs b o q).2 fun hm=>by
  rw[(I.stack.mem hm).1] at q;cases q
 have flS:=fl;rw[hst] at fl;refine wpAny_looks_onW hfr hfm fl fun h4 held sm4=>?_;refine wpAny_landsW held fun h5 fl5 sm5=>?_;rw[<-hst] at fl5;obtain⟨un5,ok5⟩:=x.got flS fl5 (sm4.trans sm5);have I5:L2.Inv X pins σ (upd H' e (exO e C)) { s' with heap:=h5 }:=I.call' x.os un5 ok5 x.bare (fun b z=>absurd z (by simp));have I5m:=vG I5 e;refine wpAny_handleBy_cons (codeAny_handlers_test (eM (X:=Cx.mk X e) I5m hg hm ?_ hdb)) (by intro q;cases q);have hE:kg h5 e C:=by obtain⟨oe,vs,he,hc,hd,_⟩:=fl5.first;exact⟨oe,vs,he,hc,hd⟩
 have kb:∀b o,X.base.get? b=some o->h5.get? b=some o:=fun b o q=>fl5.1 b o (st b o q);refine DY (hC.keeps kb) (hR.keeps kb) hE ?_;refine codeAny_handlers_suite_as ?_;refine lands_againW fl5 fun h6 fl6 sm6=>?_;obtain⟨un6,ok6⟩:=x.got flS fl6 ((sm4.trans sm5).trans sm6);have I6:L2.Inv X pins σ (upd H' e (exO e C)) { s' with heap:=h6 }:=I.call' x.os un6 ok6 x.bare (fun b z=>absurd z (by simp));refine b7 (X:=Cx.mk X e) (vG I6 e) hN hi (.inl hl) (show av (.ref e) (.ref e) from rfl) (fun s7 I7=>?_) (.inr hl);refine VT (hb s7 I7) (fun f s8 ⟨u,v,σ8,H8,hf,I8,rv,q⟩=>?_) fun _ _ z=>z.elim;subst hf;exact zr (DZ I.ok I8) hN hi hl fun s9 I9=>⟨v,_,H8,I9,rv,q⟩
end
structure CtxOk(T:Tab)(C:Calls)(ar:Nat->Nat)(k:Nat)(b:Blk)(X:Cx):Prop where
 calm:X.calm=true
 xe:X.xe=fun _ _=>False
 hN:X.N=b.N
 hs:X.env.scope=b.sc
 nd:b.N.Nodup
 fn:∀x,(match b.fs with |none=>true |some sc=>sc.names.lookup x == some .cell)=true->X.fn x=true
 room:Room k X.A
 con:∀ (i:Nat) (x:Str) (v:Int),T.con[i]?=some (x,v)->∃tk,X.mg x=some (.int v tk)
 bl:∀x,x ∈ d8->X.mg x=none
 fns:∀ (i:Nat) (y:Str × Nat),T.fns[i]?=some y->ar i=y.2/\∃f fd ps,X.mg y.1=some (.ref f)/\WE X.K (.ref f)=true/\dJ X.K fd ps []/\FnOk X.prog X.w X.K X.mg X.base (CXE X.prog X.w) k f fd ps (spC X.K (C i) (ar i))
section
variable {T:Tab} {C:Calls} {ar:Nat->Nat} {k:Nat} {b:Blk} {X:Cx}
theorem af{e:Expr}{es:List Expr}{env:Env}(h:aA e=true):Vr (e::es) env=(false,eval e env)::Vr es env:=by
 cases e <;> first |rfl |(exact absurd h Zb)
theorem jj{e:Expr}(h:aA e=true):pZ e:=by
 intro o i;cases e <;> first |rfl |(exact absurd h Zb)
theorem dy{e:Expr}{op:CmpOp}(h:aA e=true):WU op e=false:=by
 cases e <;> first |rfl |(exact absurd h Zb)
theorem jk{e f:Expr}{op op':CmpOp}(h:aA e=true):lastMarks [op,op'] [f,e]=false:=by
 show WU op' e=false;exact dy h
theorem dz{e:Expr}{env:Env}(h:aA e=true):∀x,W9 e env x=pure x:=by
 intro x;cases e <;> first |rfl |(exact absurd h Zb)
theorem dA{e:Expr}{m:Str}{env:Env}{w:Sem Value}(h:oS e=true):attributeBase e m env w=w:=by
 cases e with
 |Call f as ks p=>
  cases f with
  |Name x q=>
   cases as with
   |nil=>cases ks with |nil=>exact absurd h Zb |cons _ _=>rfl
   |cons _ _=>rfl
  |_=>rfl
 |_=>first |rfl |(exact absurd h Zb)
theorem jl{e:Expr}{env:Env}(h:zi e=true):∀whole,isTrue e env whole=(do let v <-whole;standAt e.pos;holding [v] (truthy v)):=by
 intro whole;cases e with
 |UnaryOp op x p=>cases op <;> first |rfl |(exact absurd h Zb)
 |_=>first |rfl |(exact absurd h Zb)
theorem cn{es:List Expr}{env:Env}{pos:Pos}(h:∀e ∈ es,aA e=true):(backTo pos (Vr es env)).any (·.1)=false:=by
 induction es with
 |nil=>rfl
 |cons e es ih=>
  rw[af (h e Zf)];show(false || (backTo pos (Vr es env)).any (·.1))=false;rw[ih fun e he=>h e (Zd _ he)];rfl
theorem bw:∀ {n:Nat} {es:List Expr} {cs:List CE},ed T n b es cs=true->∀e ∈ es,aA e=true
 |0,_,_,h=>absurd h Zb
 |n+1,es,[],h=>fun x hx=>by rw[bS h] at hx;cases hx
 |n+1,es,c::cs,h=>by
  obtain⟨e,es,rfl,h⟩:=bN h;obtain⟨_,h1,h⟩:=an3 h;intro x hx;rcases Zq.mp hx with rfl |hx
  ·exact h1
  ·exact bw h x hx
theorem CtxOk.gl(G:CtxOk T C ar k b X){x:Str}(h:b.glo x=true):Gl X x/\(x == ("__debug__" : Str))=false:=by
 unfold Blk.glo at h;rw[bAE] at h;refine⟨?_,by simpa using h.2⟩;show X.env.scope.names.lookup x=_;rw[G.hs]
 simpa using h.1
theorem CtxOk.vis(G:CtxOk T C ar k b X){x:Str}(h:b.vis x=true):Vis X.env.scope x/\(x == ("__debug__" : Str))=false/\(x == ("__classdict__" : Str))=false:=by
 unfold Blk.vis at h;rw[bAE,bAE] at h;refine⟨?_,by simpa using h.1.2,by simpa using h.2⟩;unfold Vis;rw[G.hs];have h1:=h.1.1;split at h1
 ·rename_i e;exact .inl e
 ·rename_i e;exact .inr (.inl e)
 ·rename_i e;exact .inr (.inr e)
 ·cases h1
theorem CtxOk.own(G:CtxOk T C ar k b X){x:Str}(h:b.own x=true):L2.Loc X.env.scope x/\(X.fn x=true\/X.env.scope.names.lookup x=some .local):=by
 unfold Blk.own at h;unfold L2.Loc;rw[G.hs];split at h
 ·rename_i e;exact⟨.inl e,.inr e⟩
 ·rename_i e;refine⟨.inr e,.inl (G.fn x ?_)⟩;cases hf:b.fs with
  |none=>rfl
  |some sc=>rw[hf] at h;exact h
 ·cases h
theorem CtxOk.inner(G:CtxOk T C ar k b X){own:List Str}{scope:Scope}(S:CmScope own (je own b.N) b.N scope b.sc){C':Addr}{ex:List Addr}{s:Shared}{H:Hp}:CtxOk T C ar k (b.inner own scope) (cxC X own (je own b.N) scope C' ex s H):=
 ⟨G.calm,rfl,by show cp (je own b.N) X.N++own=_;rw[G.hN];rfl,by show dR scope X.env.scope=_;rw[G.hs];rfl,S.nd,fun x h=>h,G.room,G.con,G.bl,G.fns⟩
theorem ki{e:Expr}{es:List Expr}{env:Env}(h:aA e=true):WR (e::es) env=(false,assign e env)::WR es env:=by
 cases e <;> first |rfl |(exact absurd h Zb)
mutual
theorem e9(G:CtxOk T C ar k b X):∀ {e:Expr} {t:Tg},oT b e t=true->PG X e (tTg X.K t)
 |e,.name i,h=>by
  obtain⟨r,hx,h⟩:=jP h;obtain⟨h1,h2⟩:=an2 h;rw[lJ hx];have o:=G.own h2;exact PG.imp (pR (i:=i) (x:=r.1) (by rw[G.hN];exact G.nd) (by rw[G.hN];exact eq_of_beq h1) o.1 o.2) fun x σ H Q q=>lF q
 |e,.tup ts,h=>by
  obtain⟨r,hx,h⟩:=jP h;rw[lK hx];have hl:=kj h;exact PG.imp (Cy G.calm (nh G h) rfl hl.2) fun x σ H Q q=>DI hl.1 q
theorem nh(G:CtxOk T C ar k b X):∀ {es:List Expr} {ts:List Tg},jf b es ts=true->PGs X es (uO X.K ts)
 |es,[],h=>by
  rw[bS h];exact PGs.imp xS fun x σ H Q q=>y6 q
 |es,t::ts,h=>by
  obtain⟨e,es,rfl,h⟩:=bN h;obtain⟨h1,h2,h⟩:=an3 h;exact PGs.imp (tH (e9 G h1) (nh G h) (by rw[ki h2];rfl)) fun x σ H Q q=>uQ q
theorem kj:∀ {es:List Expr} {ts:List Tg},jf b es ts=true->(WR es X.env).length=ts.length/\(WR es X.env).findIdx? (·.1)=none
 |es,[],h=>by
  rw[bS h];exact⟨rfl,rfl⟩
 |es,t::ts,h=>by
  obtain⟨e,es,rfl,h⟩:=bN h;obtain⟨h1,h2,h⟩:=an3 h;have ih:=kj h;rw[ki h2];refine⟨congrArg (·+1) ih.1,?_⟩;rw[List.findIdx?_cons];simp[ih.2]
end
end
structure Snd(T:Tab)(C:Calls)(ar:Nat->Nat)(k n:Nat):Prop where
 e:∀ (b:Blk) (X:Cx) (e:Expr) (c:CE),CtxOk T C ar k b X->aE T n b e c=true->PE X e (tE X.K (evE C ar n c))
 tm:∀ (b:Blk) (X:Cx) (e:Expr) (c:CE),CtxOk T C ar k b X->ag c=true->aE T n b e c=true->PE X e (fq X.K (dn C ar n c))
 a:∀ (b:Blk) (X:Cx) (es:List Expr) (cs:List CE),CtxOk T C ar k b X->ed T n b es cs=true->PA X es (tAr X.K (evA C ar n cs))
 t:∀ (b:Blk) (X:Cx) (e:Expr) (c:CE),CtxOk T C ar k b X->du T n b e c=true->PT X e (tT X.K (evT C ar n c))
 i:∀ (B:List Addr) (b:Blk) (X:Cx) (t e:Expr) (c:CI),CtxOk T C ar k b X->m8 T n b t e c=true->PI X t e (tIt X.K B (evI C ar n c))
 cl:∀ (b:Blk) (X:Cx) (e:Expr) (gs:List XN) (elt:CE) (cls:List Cl),CtxOk T C ar k b X->kf T n b e gs elt cls=true ->
  ∀ (gens:List XN) (scope:Scope) (pos:Pos) (acc:Addr) (d:Nat),gens.drop (d+1)=gs->PTl X e gens scope pos acc d (tCl X.K acc (ft C ar n elt cls))
section
variable {T:Tab} {C:Calls} {ar:Nat->Nat} {k n:Nat} {b:Blk} {X:Cx}
theorem bL{e:Expr}{es:List Expr}{te:TE}{t:TA}(ha:PE X e te)(hr:PA X es t)(hp:aA e=true):PA X (e::es) (cJ te t):=x9 ha hr (af hp)
theorem HN(ih:Snd T C ar k n)(es:List Expr)(cs:List CE)(G:CtxOk T C ar k b X)(h:ed T (n+1) b es cs=true):PA X es (tAr X.K (evA C ar (n+1) cs)):=by
 cases cs with
 |nil=>rw[bS h];exact PA.imp kI fun σ H Q q=>Dk q
 |cons c cs=>
  obtain⟨e,es,rfl,h⟩:=bN h;obtain⟨h1,h2,h⟩:=an3 h;exact PA.imp (bL (ih.e b X e c G h1) (ih.a b X es cs G h) h2) fun σ H Q q=>yJ q
theorem bf{e:Expr}{te:TE}(h:PE X e te)(hp:aA e=true):PA X [e] (cJ te iC):=bL h kI hp
theorem lQ{x:Str}{id:String}{e:Expr}{te:TE}{r:V->Hp->VK->Prop}{p pos:Pos}(hc:aV X (.builtin id) (r1 r))(G:CtxOk T C ar k b X)(hg:b.glo x=true)(hb:x ∈ d8)(hv:WX x=some (.builtin id))(hn:x ≠ "__name__")(h:PE X e te)(hp:aA e=true) :
  PE X (.Call (.Name x p) [e] [] pos) (tUn r te):=
 PE.imp (cV hc (G.gl hg).1 (G.bl x hb) hv (bf h hp) hn (G.gl hg).2 (af hp) rfl) fun σ H Q q=>q
theorem lR{x:Str}{id:String}{e:Expr}{te:TE}{r:V->Hp->VK->Prop}{p pos:Pos}(hc:aV X (.type id) (r1 r))(G:CtxOk T C ar k b X)(hg:b.glo x=true)(hb:x ∈ d8)(hv:WX x=some (.type id))(hn:x ≠ "__name__")(h:PE X e te)(hp:aA e=true) :
  PE X (.Call (.Name x p) [e] [] pos) (tUn r te):=
 PE.imp (cX hc (G.gl hg).1 (G.bl x hb) hv (bf h hp) hn (G.gl hg).2 (af hp) rfl) fun σ H Q q=>q
theorem o0{x:Str}{e:Expr}{a:CE}{f:Bool->List D->Sto->Option (D × Sto)}{ks:List Keyword}{p pos:Pos}(ih:Snd T C ar k n)(G:CtxOk T C ar k b X)(hq:∀te:TE,PE X e te->PE X (.Call (.Name x p) [e] ks pos) (tUn (rSq X.K f) te))(h:aE T n b e a=true) :
  PE X (.Call (.Name x p) [e] ks pos) (tE X.K (if ag a=true then r9 f (dn C ar n a) else sd f (evE C ar n a))):=by
 split
 ·rename_i ht;exact PE.imp (hq _ (ih.tm b X e a G ht h)) fun σ H Q q=>Di q
 ·exact PE.imp (hq _ (ih.e b X e a G h)) fun σ H Q q=>Dm q
theorem iu{x y:Str}(h:(x == y)=true):x=y:=eq_of_beq h
theorem gh{K:Wu}{x:XE}{σ:L2.St}{H:Hp}{Q Q':VK}(h:tE K x σ H Q)(f:∀v H',Q v H'->Q' v H'):tE K x σ H Q':=by
 obtain⟨m,ρ,S,d,S',E,R,e,q⟩:=h;exact⟨m,ρ,S,d,S',E,R,e,fun m' H' v A vd=>f _ _ (q m' H' v A vd)⟩
theorem vH{x:XE}{σ:L2.St}{H:Hp}{Q:VK}{K:Wu}(h:fq K (i9 x) σ H Q):tUn (rTm K fun _ ds=>some ds) (tE K x) σ H Q:=by
 obtain⟨m,ρ,S,ds,S',E,R,e,q⟩:=h;obtain⟨d,S1,e1,e⟩:=aa e;cases hi:au d S1 with
 |none=>rw[hi] at e;cases e
 |some r=>
  rw[hi] at e;cases e;refine⟨m,ρ,S,d,_,E,R,e1,fun m1 H1 v A1 vd=>?_⟩;obtain⟨a,vs,ev,sq,vds⟩:=dX (tu:=r.1) (ds:=r.2) A1.rel vd hi;refine⟨m1,_,r.1,r.2,a,vs,r.2,A1.rel,ev,sq,vds,rfl,fun m2 H2 p ws A2 hp n1 n2 n3 vw=>?_⟩
  have hn:H p=none:=by
   cases eh:H p with
   |none=>rfl
   |some o=>
    by_cases hm:p ∈ m
    ·exact absurd rfl (n2 p (A1.ext.pre.subset hm))
    ·have:=A1.ext.keep p o eh hm;rw[n3] at this;cases this
  exact q m2 H2 p ws (A1.trans A2) hp n1 (fun b hb=>n2 b (A1.ext.pre.subset hb)) hn vw
theorem vI{x:XA}{σ:L2.St}{H:Hp}{Q:VK}{K:Wu}(h:fq K x σ H Q):tUn (rTm K fun _ ds=>some ds) (fq K x) σ H Q:=by
 obtain⟨m,ρ,S,ds,S',E,R,e,q⟩:=h;refine⟨m,ρ,S,ds,S',E,R,e,fun m1 H1 a vs A1 ha na _ _ vd=>?_⟩;refine⟨m1,_,false,ds,a,vs,ds,A1.rel,rfl,show SqL K H1 a vs from SqL.of ha,vd,rfl,fun m2 H2 p ws A2 hp n1 n2 n3 vw=>?_⟩
 have hn:H p=none:=by
  cases eh:H p with
  |none=>rfl
  |some o=>
   by_cases hm:p ∈ m
   ·exact absurd rfl (n2 p (A1.ext.pre.subset hm))
   ·have:=A1.ext.keep p o eh hm;rw[n3] at this;cases this
 exact q m2 H2 p ws (A1.trans A2) hp n1 (fun b hb=>n2 b (A1.ext.pre.subset hb)) hn vw
noncomputable def ifT(C:Calls)(ar:Nat->Nat)(n:Nat)(K:Wu):Option CE->TT
 |none=>yj
 |some c=>tT K (evT C ar n c)
theorem jm(ih:Snd T C ar k n)(G:CtxOk T C ar k b X){ifs:List Expr}{cond:Option CE}(h:vC (du T n b) ifs cond=true):PTs X ifs (ifT C ar n X.K cond):=by
 cases cond with
 |none=>rw[bS h];exact yk
 |some c=>obtain⟨e,rfl,h⟩:=cw h;exact ym (ih.t b X e c G h)
theorem o1{K:Wu}{cond:Option CE}{acc:Addr}{c:XA}{D:Ends}{σ:L2.St}{H:Hp}(q:tCl K acc (cnd (evT C ar n) cond c) D σ H):dL (ifT C ar n K cond) (tCl K acc c) D σ H:=by
 cases cond with
 |none=>exact DN q
 |some c=>exact ze q
theorem ni(ih:Snd T C ar k n)(G:CtxOk T C ar k b X){l:Option Expr}{lo:Option CE}(h:vB (aE T n b) l lo=true):PO X l (tOI X.K (opt (evE C ar n) lo)):=by
 cases lo with
 |none=>
  cases l with
  |none=>exact PO.imp yb fun σ H Q q=>yQ q
  |some _=>cases h
 |some c=>obtain⟨e,rfl,h⟩:=jP h;exact PO.imp (yc (ih.e b X e c G h)) fun σ H Q q=>yR q
theorem D0(ih:Snd T C ar k n)(e:Expr)(gs:List XN)(elt:CE)(cls:List Cl)(G:CtxOk T C ar k b X)(h:kf T (n+1) b e gs elt cls=true)(gens:List XN)(scope:Scope)(pos:Pos)(acc:Addr)(d:Nat)(hd:gens.drop (d+1)=gs) :
  PTl X e gens scope pos acc d (tCl X.K acc (ft C ar (n+1) elt cls)):=by
 have imp:∀ {t t':TS},PTl X e gens scope pos acc d t->(∀D σ H,t' D σ H->t D σ H)->PTl X e gens scope pos acc d t':=fun h f pins s σ H D I q=>h pins s σ H D I (f D σ H q);cases cls with
 |nil=>
  obtain⟨h0,h⟩:=an2 h;cases bS h0
  have hn:gens[d+1]?=none:=by
   have:=congrArg Zv hd;simp at this;exact Z7.mpr (by omega)
  exact imp (t5 G.xe hn (ih.e b X e elt G h)) fun D σ H q=>zd q
 |cons g rest=>
  obtain⟨tg,it,cond⟩:=g;obtain⟨⟨t,i,ifs,as⟩,gs',rfl,h⟩:=bN h;obtain⟨h0,h1,h2,h3,h4⟩:=an5 h;cases of_decide_eq_true h0
  have hn:gens[d+1]?=some ⟨t,i,ifs,0⟩:=by
   have:=congrArg (·[0]?) hd
   simpa using this
  have hd':gens.drop (d+1+1)=gs':=by
   have:=congrArg (Xg 1) hd
   simpa[List.drop_drop] using this
  have hpl:=e8 h1 (fun e he env=>dz he) X.env;exact imp (yn hn (ih.i [acc] b X t i it G h1) (e9 G h2) (jm ih G h3) (ih.cl b X e gs' elt rest G h4 gens scope pos acc (d+1) hd') G.xe G.calm hpl) fun D σ H q=>uW (fun D σ H z=>o1 z) q
theorem HP(ih:Snd T C ar k n)(B:List Addr)(t e:Expr)(c:CI)(G:CtxOk T C ar k b X)(h:m8 T (n+1) b t e c=true):PI X t e (tIt X.K B (evI C ar (n+1) c)):=by
 cases c with
 |val a=>
  have h:=an2 h;show PI X t _ (tIt X.K B (if ag a=true then xIT (dn C ar n a) else xIV (evE C ar n a)));split
  ·rename_i ht;exact PI.imp (pS (ih.tm b X _ a G ht h.1)) fun σ H R q=>J6 q
  ·exact PI.imp (PI.or (pS (ih.e b X _ a G h.1)) (CC (ih.e b X _ a G h.1))) fun σ H R q=>J5 q
 |r1 a=>
  obtain⟨x,p,q,rfl,h2,h3,h4⟩:=bc h;exact PI.imp (rC (G.gl h2).1 (G.bl _ (by decide)) (bf (ih.e b X x a G h3) h4) (af h4)) fun σ H R q=>HC q
 |r2 a c=>
  obtain⟨x,y,p,q,rfl,h2,h3,h4,h5,h6⟩:=cy h;exact PI.imp (rD (G.gl h2).1 (G.bl _ (by decide)) (bL (ih.e b X x a G h3) (bf (ih.e b X y c G h5) h6) h4) (by rw[af h4,af h6];rfl) (af h6)) fun σ H R q=>HD q
 |en a=>
  have h:=an2 h;obtain⟨x,p,q,rfl,h2,h3,h4⟩:=bc h.1;obtain⟨elts,x1,tp,rfl,_⟩:=vt h.2;show PI X _ _ (tIt X.K B (if ag a=true then xET (dn C ar n a) else xEV (evE C ar n a)));split
  ·rename_i ht;exact PI.imp (uf (G.gl h2).1 (G.bl _ (by decide)) (bf (ih.tm b X x a G ht h3) h4) (af h4)) fun σ H R q=>HB q
  ·exact PI.imp (PI.or (uf (G.gl h2).1 (G.bl _ (by decide)) (bf (ih.e b X x a G h3) h4) (af h4)) (C5 (G.gl h2).1 (G.bl _ (by decide)) (bf (ih.e b X x a G h3) h4) (af h4))) fun σ H R q=>HA q
end
section
variable {T:Tab} {C:Calls} {ar:Nat->Nat} {k n:Nat} {b:Blk} {X:Cx}
theorem nj{k:Nat}{A:Around}(r:Room k A):A.units+64 < cLine:=r.units
theorem gi(K:Wu)(m:List Addr)(H:Hp):∀l:List Nat,VDs K m H (l.map fun j=>D.int (Int.ofNat j)) (l.map fun(j:Nat)=>V.int j)
 |[]=>by rw[Yc,Yc,VDs]
 |a::l=>by rw[Zy,Zy,VDs];exact⟨_,_,rfl,bE,gi K m H l⟩
theorem pN{H:Hp}{p:Addr}{x y:HO}:upd (upd H p x) p y=upd H p y:=by
 funext b
 unfold upd;split <;> rfl
theorem Rel.adoptO{K:Wu}{m:List Addr}{S:Sto}{H:Hp}{a:Addr}(R:Rel K m S H)(n:a ∉ m){ob:Ob}(h:ObR K (m++[a]) H a ob):Rel K (m++[a]) (S++[ob]) H:=by
 have p:=Yi m [a];have g:∀ {es:List D} {ws:List V},VDs K m H es ws->VDs K (m++[a]) H es ws:=fun z=>VDs.mono0 p (fun _ _ t=>t) z;refine⟨by simp[R.len],Xa.mpr ⟨R.nd,by simp,fun x hx y hy=>by simp at hy;subst hy;exact fun z=>n (z ▸ hx)⟩,fun i o e=>?_⟩;by_cases hi:i < S.length
 ·rw[Zo hi] at e;obtain⟨b,hb,r⟩:=R.ob i o e;refine⟨b,io p hb,?_⟩;cases o with
  |lst ds=>obtain⟨vs,p,q⟩:=r;exact⟨vs,p,g q⟩
  |frz ds=>obtain⟨o,vs,p,q⟩:=r;exact⟨o,vs,p,g q⟩
  |dic ks ds=>obtain⟨vs,p,l,q⟩:=r;exact⟨vs,p,l,g q⟩
 ·rw[Zg (by omega)] at e
  have hz:i - S.length=0:=by
   have:=(Za.mp e).1;simp at this;omega
  rw[hz] at e;have e':ob=o:=by simpa using e
  subst e';refine⟨a,?_,h⟩;rw[Zg (by rw[R.len];omega),R.len,hz];rfl
theorem qD{K:Wu}{m:List Addr}{H:Hp}{S:Sto}{p:Addr}{ks:List Key}{ds:List D}{vs:List V}{Q:VK}(R:Rel K m S H)(hp:H p=none)(vd:VDs K m H ds vs)(hl:ks.length=ds.length)(q:∀m' H' u,Aft K m H (S++[.dic ks ds]) m' H'->VD K m' H' (.ref S.length) u->Q u H'):Q (.ref p) (upd H p (.dK (ks.zip vs))):=by
 have x:=Ext.beside R hp (.dK (ks.zip vs));have R1:=R.beside hp (.dK (ks.zip vs));refine q (m++[p]) _ _ ⟨x.adopt hp,?_⟩ ?_
 ·exact R1.adoptO (R.no hp) (ob:=.dic ks ds) ⟨vs,ao,hl,VDs.mono0 (Yi m [p]) (fun _ _ t=>t) (vd.mono R x)⟩
 ·rw[VD];exact⟨p,by rw[Zg (by rw[R.len];exact Ze _),R.len,ZU];rfl,rfl⟩
theorem vJ{es:List Expr}{a:CE}(h:ed T n b es [a]=true):∃y,es=[y]:=by
 cases n with
 |zero=>exact absurd h Zb
 |succ n=>
  obtain⟨e,es,rfl,h⟩:=bN h;have h:=(an2 h).2;cases n with
  |zero=>exact absurd h Zb
  |succ n=>cases bS h;exact⟨e,rfl⟩
theorem zu(ih:Snd T C ar k n){own:List Str}{elt:CE}{tg:Tg}{it:CI}{cond:Option CE}{rest:List Cl}{e t i:Expr}{ifs:List Expr}{gs:List XN}{scope:Scope}{pos:Pos}(G:CtxOk T C ar k b X)
  (h0:cmB own (je own b.N) b.N scope b.sc=true) (h1:m8 T n b t i it=true) (h2:oT (b.inner own scope) t tg=true) (h3:vC (du T n (b.inner own scope)) ifs cond=true) (h4:kf T n (b.inner own scope) e gs elt rest=true) :
  PE X (.ListComp e (⟨t,i,ifs,0⟩::gs) scope pos) (fq X.K (i8 own.length (evI C ar n it) tg (cnd (evT C ar n) cond (ft C ar n elt rest)) LF)):=by
 have S:CmScope own (je own b.N) b.N scope b.sc:=ug _ h0;have S':CmScope own (je own b.N) X.N scope X.env.scope:=by rw[G.hN,G.hs];exact S
 have hpl:=e8 h1 (fun e he env=>dz he) X.env
 refine PE.imp (yo (g:=tTg X.K tg) (ti:=ifT C ar n X.K cond) (t:=fun acc=>tCl X.K acc (ft C ar n elt rest)) G.calm S' (ih.i [] b X t i it G h1) (fun C' ex s H=>e9 (G.inner S (C':=C') (ex:=ex) (s:=s) (H:=H)) h2) (fun C' ex s H=>jm ih (G.inner S (C':=C') (ex:=ex) (s:=s) (H:=H)) h3)
  (fun C' ex s H acc=>ih.cl _ _ e gs elt rest (G.inner S (C':=C') (ex:=ex) (s:=s) (H:=H)) h4 _ scope pos acc 0 rfl) hpl) fun σ H Q q=>?_
 exact qv (fun acc D σ H z=>o1 z) q
theorem D1{x:XE}{σ:L2.St}{H:Hp}{Q:VK}{K:Wu}(h:fq K (sD x) σ H Q):tE K x σ H fun v H1=>∃i:Nat,v = .int i/\i<=1000/\∀p,H1 p=none->∀l,upd H1 p (.rng 0 i) l=none->Q (.ref l) (upd (upd H1 p (.rng 0 i)) l (.lst ((Zm i).map fun(j:Nat)=>V.int j))):=by
 obtain⟨m,ρ,S,ds,S',E,R,e,q⟩:=h;obtain⟨d,S1,e1,e⟩:=aa e;cases d with
 |int i=>
  dsimp only at e;split at e
  ·rename_i hi;cases e;refine⟨m,ρ,S,.int i,_,E,R,e1,fun m1 H1 v A1 vd=>⟨i.toNat,by rw[vd.ints];congr 1;omega,by omega,fun p hp l hl=>?_⟩⟩;have A2:Aft K m1 H1 S' m1 (upd H1 p (.rng 0 i.toNat)):=⟨Ext.beside A1.rel hp _,A1.rel.beside hp _⟩;have A3:Aft K m1 (upd H1 p (.rng 0 i.toNat)) S' m1 (upd (upd H1 p (.rng 0 i.toNat)) l (.lst ((Zm i.toNat).map fun(j:Nat)=>V.int j))):=⟨Ext.beside A2.rel hl _,A2.rel.beside hl _⟩;have nl:l ∉ m1:=A2.rel.no hl
   have n1:H1 l=none:=by
    cases hh:H1 l with
    |none=>rfl
    |some o=>rw[(Ext.beside A1.rel hp (.rng 0 i.toNat)).keep l o hh nl] at hl;cases hl
   have nH:H l=none:=by
    cases hh:H l with
    |none=>rfl
    |some o=>
     by_cases hm:l ∈ m
     ·exact absurd (A1.ext.pre.subset hm) nl
     ·rw[A1.ext.keep l o hh hm] at n1;cases n1
   refine q m1 _ l _ (A1.trans (A2.trans A3)) ao nl (fun b hb z=>nl (z ▸ A1.ext.pre.subset hb)) nH ?_;exact gi _ _ _ _
  ·cases e
 |_=>cases e
theorem vK{K:Wu}{m:List Addr}{H:Hp}(a:Int):∀l:List Nat,VDs K m H (l.map fun(i:Nat)=>D.int (a+i)) (l.map fun(i:Nat)=>V.int (a+i))
 |[]=>by rw[Yc,Yc,VDs]
 |i::l=>by rw[Zy,Zy,VDs];exact⟨_,_,rfl,bE,vK a l⟩
theorem zv{x y:XE}{σ:L2.St}{H:Hp}{Q:VK}{K:Wu}(h:fq K (ka x y) σ H Q):tE K x σ H fun v H1=>tE K y σ H1 fun u H2=>∃i j,v = .int i/\u = .int j/\-100000<=i/\i<=j/\j<=i+1000/\i<=100000/\∀p,H2 p=none->∀l,upd H2 p (.rng i j) l=none->Q (.ref l) (upd (upd H2 p (.rng i j)) l (.lst (rgV i j))):=by
 obtain⟨m,ρ,S,ds,S',E,R,e,q⟩:=h;obtain⟨d,S1,e1,e⟩:=aa e;obtain⟨d2,S2,e2,e⟩:=aa e;cases d with
 |int i=>
  cases d2 with
  |int j=>
   dsimp only at e;split at e
   ·rename_i hi;cases e;refine⟨m,ρ,S,.int i,_,E,R,e1,fun m1 H1 v A1 vd=>⟨m1,ρ,S1,.int j,_,E.mono R A1.ext,A1.rel,e2,fun m2 H2 u A2 vu=>⟨i,j,vd.ints,vu.ints,hi.1,hi.2.1,hi.2.2.1,hi.2.2.2,fun p hp l hl=>?_⟩⟩⟩;have A12:=A1.trans A2;have A3:Aft K m2 H2 _ m2 (upd H2 p (.rng i j)):=⟨Ext.beside A2.rel hp _,A2.rel.beside hp _⟩;have A4:Aft K m2 (upd H2 p (.rng i j)) _ m2 (upd (upd H2 p (.rng i j)) l (.lst (rgV i j))):=⟨Ext.beside A3.rel hl _,A3.rel.beside hl _⟩;have nl:l ∉ m2:=A3.rel.no hl
    have n1:H2 l=none:=by
     cases hh:H2 l with
     |none=>rfl
     |some o=>rw[(Ext.beside A2.rel hp (.rng i j)).keep l o hh nl] at hl;cases hl
    have nH:H l=none:=by
     cases hh:H l with
     |none=>rfl
     |some o=>
      by_cases hm:l ∈ m
      ·exact absurd (A12.ext.pre.subset hm) nl
      ·rw[A12.ext.keep l o hh hm] at n1;cases n1
    refine q m2 _ l _ (A12.trans (A3.trans A4)) ao nl (fun b hb z=>nl (z ▸ A12.ext.pre.subset hb)) nH ?_;exact vK _ _
   ·cases e
  |_=>cases e
 |_=>cases e
theorem zw{σ:L2.St}{H:Hp}{Q:VK}{K:Wu}(h:tE K u6 σ H Q):ua σ H Q:=by
 obtain⟨m,ρ,S,d,S',E,R,e,q⟩:=h;cases e;exact fun p hp=>qD R hp (show VDs K m H [] [] by rw[VDs]) rfl q
theorem zx{σ:L2.St}{H:Hp}{Q:VK}{K:Wu}{i j:Int}(h:tE K (u7 i j) σ H Q):ud [(tC (.int i),tC (.int j))] σ H Q:=by
 obtain⟨m,ρ,S,d,S',E,R,e,q⟩:=h;cases e;intro p hp;refine⟨ao,[(jO i,.int j)],rfl,by simp,?_⟩;rw[pN];exact qD R hp (ks:=[jO i]) (vs:=[.int j]) (show VDs K m H [.int j] [.int j] by rw[VDs];exact⟨_,_,rfl,bE,by rw[VDs]⟩) rfl q
theorem vL(ih:Snd T C ar k n)(e:Expr)(c:CE)(G:CtxOk T C ar k b X)(ht:ag c=true)(h:aE T (n+1) b e c=true):PE X e (fq X.K (dn C ar (n+1) c)):=by
 cases c with
 |lst cs=>
  obtain⟨es,p,rfl,hh⟩:=jh h;exact PE.imp (iE (ih.a b X es cs G hh)) fun σ H Q q=>yK q
 |listOf a=>
  obtain⟨x,p,q,rfl,h2,h3,h4⟩:=bc h;show PE X _ (fq X.K (if ag a=true then dn C ar n a else i9 (evE C ar n a)));split
  ·rename_i ht;exact PE.imp (lR i0 G h2 (by decide) XC (by decide) (ih.tm b X x a G ht h3) h4) fun σ H Q q=>vI q
  ·exact PE.imp (lR i0 G h2 (by decide) XC (by decide) (ih.e b X x a G h3) h4) fun σ H Q q=>vH q
 |listR a=>
  obtain⟨x,p,q,rfl,h2,h3,h4⟩:=bc h;obtain⟨y,p',q',rfl,h5,h6,h7⟩:=bc h3
  exact PE.imp (cX (kR G.calm) (G.gl h2).1 (G.bl _ (by decide)) XC (bf (cX mD (G.gl h5).1 (G.bl _ (by decide)) XD (bf (ih.e b X y a G h6) h7) (by decide) (G.gl h5).2 (af h7) rfl) h4) (by decide) (G.gl h2).2 (af h4) rfl) fun σ H Q q=>gh (D1 q) fun v H1 ⟨i,ev,hi,z⟩=>by
    subst ev;exact⟨i,rfl,fun p hp=>⟨p,i,rfl,ao,hi,fun l hl=>z p hp l hl⟩⟩
 |listR2 a c=>
  obtain⟨x,p,q,rfl,h2,h3,h4⟩:=bc h;obtain⟨y,z,p',q',rfl,h5,h6,h7,h8,h9⟩:=cy h3
  exact PE.imp (cX (jN G.calm) (G.gl h2).1 (G.bl _ (by decide)) XC (bf (cX lG (G.gl h5).1 (G.bl _ (by decide)) XD (bL (ih.e b X y a G h6) (bf (ih.e b X z c G h8) h9) h7) (by decide) (G.gl h5).2 (af h7) (cn fun e he=>by rw[ZF.mp he];exact h9)) h4) (by decide) (G.gl h2).2 (af h4) rfl) fun σ H Q q=>gh (zv q) fun v H1 q1=>gh q1 fun u H2 ⟨i,j,ev,eu,z1,z2,z3,z4,z5⟩=>by
    subst ev eu;exact⟨i,j,rfl,fun p hp=>⟨p,i,j,rfl,ao,z1,z2,z3,z4,fun l hl=>z5 p hp l hl⟩⟩
 |comp own elt cls=>
  obtain⟨tg,it,cond,rest,rfl,hc⟩:=BW h;obtain⟨el,t,i,ifs,gs,scope,p,rfl,hh⟩:=qB hc;obtain⟨h0,h1,h2,h3,h4⟩:=an5 hh;exact zu ih G h0 h1 h2 h3 h4
 |_=>cases ht
theorem iw{y:Expr}{pos:Pos}(h:aA y=true):((backTo pos (Vr [y] X.env)).all (fun x=>!x.1) && (backToKw pos (keywordEach [] X.env)).all (fun x=>x.1.isSome) && decide (([y]:List Expr).length+([]:List Keyword).length+(if ([]:List Keyword).isEmpty then 0 else 1) < 30))=true:=by
 rw[af h];rfl
theorem HQ(ih:Snd T C ar k n)(e:Expr)(c:CE)(G:CtxOk T C ar k b X)(h:aE T (n+1) b e c=true):PE X e (tE X.K (evE C ar (n+1) c)):=by
 have hu:=nj G.room
 have tmp:ag c=true->evE C ar (n+1) c=cS (dn C ar (n+1) c)->PE X e (tE X.K (evE C ar (n+1) c)):=fun ht he=>by
  rw[he];exact PE.imp (vL ih e c G ht h) fun σ H Q q=>mP q
 cases c with
 |non=>obtain⟨_,_,rfl⟩:=DV h;exact PE.imp Cs fun σ H Q q=>uw (fun _ _=>lg) q
 |bl v=>obtain⟨_,_,rfl⟩:=vq h;exact PE.imp tf fun σ H Q q=>uw (fun _ _=>bH) q
 |int v=>obtain⟨_,_,rfl⟩:=lL h;exact PE.imp kG fun σ H Q q=>uw (fun _ _=>bE) q
 |str v=>obtain⟨_,_,rfl⟩:=oV h;exact PE.imp kH fun σ H Q q=>uw (fun _ _=>iW) q
 |var i=>
  obtain⟨x,p,rfl,hh⟩:=ci h;have hh:=an2 hh;have v:=G.vis hh.2;exact PE.imp (nR (i:=i) (by rw[G.hN];exact eq_of_beq hh.1) v.1 v.2.1 v.2.2) fun σ H Q q=>Dj q
 |con k' v=>
  obtain⟨x,p,rfl,hh⟩:=ci h;have hh:=an2 hh;have g:=G.gl hh.2;obtain⟨tk,hm⟩:=G.con k' x v (eq_of_beq hh.1);exact PE.imp (pO (v:=.int v) g.1 hm ⟨tk,rfl⟩ g.2) fun σ H Q q=>uw (fun _ _=>bE) q
 |tup cs=>obtain⟨es,_,_,rfl,hh⟩:=vt h;exact PE.imp (CQ (ih.a b X es cs G hh)) fun σ H Q q=>Dl q
 |lst cs=>exact tmp rfl rfl
 |dic0=>obtain⟨p,rfl⟩:=zo h;exact PE.imp ub fun σ H Q q=>zw q
 |dic1 i j=>
  obtain⟨x,y,p,rfl,h1,h2⟩:=zp h;obtain⟨_,_,rfl⟩:=lL h1;obtain⟨_,_,rfl⟩:=lL h2;exact PE.imp (uh kG kG) fun σ H Q q=>zx q
 |bin o a c'=>obtain⟨l,r,p,rfl,h2,h3⟩:=oW h;exact PE.imp (tN (yP o) (ih.e b X l a G h2) (ih.e b X r c' G h3)) fun σ H Q q=>lf q
 |neg a=>obtain⟨x,p,rfl,hh⟩:=DW h;exact PE.imp (G0 zf (ih.e b X x a G hh)) fun σ H Q q=>BK q
 |cmp o a c'=>obtain⟨l,r,p,rfl,h2,h3,h4⟩:=oY h;exact PE.imp (xY (eZ hu o) (ih.e b X l a G h2) (ih.e b X r c' G h3) (dy h4)) fun σ H Q q=>lf q
 |chn o p' a c' d=>obtain⟨l,r,s,p,rfl,h2,h3,h4,h5⟩:=vA h;exact PE.imp (tO (eZ hu o) (eZ hu p') (ih.e b X l a G h2) (ih.e b X r c' G h3) (ih.e b X s d G h4) (jk h5)) fun σ H Q q=>uZ q
 |and a c'=>
  rcases zj h with h |h
  ·obtain⟨x,y,p,rfl,h1,h2⟩:=ji h;exact PE.imp (tG (ih.e b X x a G h1) (tF (ih.e b X y c' G h2))) fun σ H Q q=>uY q
  ·obtain⟨x,y,z,ys,p,rfl,h1,h2⟩:=lN h;exact PE.imp (tG (ih.e b X x a G h1) (ih.e b X _ c' G h2)) fun σ H Q q=>uY q
 |or a c'=>
  rcases zj h with h |h
  ·obtain⟨x,y,p,rfl,h1,h2⟩:=ji h;exact PE.imp (Bv (ih.e b X x a G h1) (tF (ih.e b X y c' G h2))) fun σ H Q q=>BO q
  ·obtain⟨x,y,z,ys,p,rfl,h1,h2⟩:=lN h;exact PE.imp (Bv (ih.e b X x a G h1) (ih.e b X _ c' G h2)) fun σ H Q q=>BO q
 |not a=>obtain⟨x,p,rfl,hh⟩:=oX h;exact PE.imp (Cu (ih.e b X x a G hh)) fun σ H Q q=>DQ q
 |ix a c'=>
  obtain⟨x,y,p,rfl,h1,h2,h3⟩:=BV h;show PE X _ (tE X.K (if ag a=true then oD (dn C ar n a) (evE C ar n c') else mO ixS (evE C ar n a) (evE C ar n c')));split
  ·rename_i ht;exact PE.imp (tV tW (ih.tm b X x a G ht h1) (ih.e b X y c' G h2) (jj h3)) fun σ H Q q=>DA q
  ·exact PE.imp (tV J2 (ih.e b X x a G h1) (ih.e b X y c' G h2) (jj h3)) fun σ H Q q=>lf q
 |sl a lo hi=>obtain⟨x,y,z,p,p',rfl,h1,h2,h3⟩:=HI h;exact PE.imp (tU J3 (ih.e b X x a G h1) (ni ih G h2) (ni ih G h3)) fun σ H Q q=>Hs q
 |call f cs=>
  obtain⟨x,e,es,p,p',rfl,h12,h3⟩:=lO (k:=fun x=>oA T.fns[f]? (fun y=>y.1 == x) && b.glo x) (l:=fun es=>ed T n b es cs) (e:=e) h;obtain⟨h1,h2⟩:=an2 h12
  ·obtain⟨y,hy,h1⟩:=jP h1;have hx:=iu h1;subst hx;obtain⟨ha,fa,fd,ps,hm,hk,hb,F⟩:=G.fns f y hy;have hpl:=bw h3;have g:=G.gl h2;exact PE.imp (pU F G.room g.1 hm hk hb .nil HK (ih.a b X (e::es) cs G h3) g.2 (af (hpl e Zf)) (cn fun e he=>hpl e (Zd _ he))) fun σ H Q q=>zg q
 |inst t a=>
  obtain⟨x,y,p,p',rfl,h2,h5,h6,h7,_⟩:=cy h;obtain⟨y,p'',rfl,h8⟩:=ci h7;obtain⟨h3,h4⟩:=an2 h8;have hy:=iu h3;subst hy
  have ty:PE X (.Name (Str.ofString t.nm) p'') (tC (.ty t.nm)):=by
   have g:=G.gl h4;cases t with
   |int=>exact eN g.1 (G.bl _ (by decide)) PyProof.Rows.boot_int rfl (by decide) g.2
   |bool=>exact eN g.1 (G.bl _ (by decide)) PyProof.Rows.boot_bool rfl (by decide) g.2
   |tuple=>exact eN g.1 (G.bl _ (by decide)) XF rfl (by decide) g.2
   |list=>exact eN g.1 (G.bl _ (by decide)) XC rfl (by decide) g.2
   |str=>exact eN g.1 (G.bl _ (by decide)) PyProof.Rows.boot_str rfl (by decide) g.2
  exact PE.imp (cV (kS X.K) (G.gl h2).1 (G.bl _ (by decide)) XB (bL (ih.e b X x a G h5) (bf ty rfl) h6) (by decide) (G.gl h2).2 (af h6) rfl) fun σ H Q q=>yV q
 |len a=>obtain⟨x,p,p',rfl,h2,h3,h4⟩:=bc h;exact o0 ih G (fun te z=>lQ sv G h2 (by decide) PySem.boot_len (by decide) z h4) h3
 |all a=>obtain⟨x,p,p',rfl,h2,h3,h4⟩:=bc h;exact o0 ih G (fun te z=>lQ (sA G.calm) G h2 (by decide) PyProof.Rows.boot_all (by decide) z h4) h3
 |tupOf a=>obtain⟨x,p,p',rfl,h2,h3,h4⟩:=bc h;exact o0 ih G (fun te z=>lR sy G h2 (by decide) XF (by decide) z h4) h3
 |listOf a=>exact tmp rfl rfl
 |listR a=>exact tmp rfl rfl
 |listR2 a c=>exact tmp rfl rfl
 |mx a c'=>
  obtain⟨x,es,p,p',rfl,h2,h3⟩:=m7 (b:=b) (f := "max") (k:=fun es=>ed T n b es [a,c']) (e:=e) h;have hpl:=bw h3;exact PE.imp (cV (oJ G.calm) (G.gl h2).1 (G.bl _ (by decide)) PyProof.Rows.boot_max (ih.a b X (x::es) [a,c'] G h3) (by decide) (G.gl h2).2 (af (hpl x Zf)) (cn fun e he=>hpl e (Zd _ he))) fun σ H Q q=>uv q
 |mn a c'=>
  obtain⟨x,es,p,p',rfl,h2,h3⟩:=m7 (b:=b) (f := "min") (k:=fun es=>ed T n b es [a,c']) (e:=e) h;have hpl:=bw h3;exact PE.imp (cV (oK G.calm) (G.gl h2).1 (G.bl _ (by decide)) PyProof.Rows.boot_min (ih.a b X (x::es) [a,c'] G h3) (by decide) (G.gl h2).2 (af (hpl x Zf)) (cn fun e he=>hpl e (Zd _ he))) fun σ H Q q=>uv q
 |rep a=>obtain⟨x,p,p',rfl,h2,h3,h4⟩:=bc h;exact PE.imp (lQ (oO G.room) G h2 (by decide) PyProof.Rows.boot_repr (by decide) (ih.e b X x a G h3) h4) fun σ H Q q=>BK q
 |comp own elt cls=>exact tmp rfl rfl
 |app o a=>
  obtain⟨x,ap,es,p,rfl,h2,h3,h4,h5⟩:=lP h;obtain⟨y,rfl⟩:=vJ h5;have hpl:=bw h5 y (by simp);exact PE.imp (p0 XX XZ PySem.F.type_list_append DH (ih.e b X x o G h4) (ih.a b X [y] [a] G h5) (dA h2) (iw hpl) h3 (af hpl) rfl) fun σ H Q q=>uJ (fun R vd c=>DF R vd c) q
 |cnt o a=>
  obtain⟨x,ap,es,p,rfl,h2,h3,h4,h5⟩:=lP h;obtain⟨y,rfl⟩:=vJ h5;have hpl:=bw h5 y (by simp);exact PE.imp (p0 PySem.F.plainAttrs_tuple X4 PySem.F.type_tuple_count yX (ih.e b X x o G h4) (ih.a b X [y] [a] G h5) (dA h2) (iw hpl) h3 (af hpl) rfl) fun σ H Q q=>uJ (fun R vd c=>DG R vd c) q
end
section
variable {T:Tab} {C:Calls} {ar:Nat->Nat} {k n:Nat} {b:Blk} {X:Cx}
theorem qE{op:BoolOp}{vs:List Expr}{p:Pos}{t:TT}(h:PT X (.BoolOp op vs p) t):PW X (.BoolOp op vs p) t:=fun whole pins s σ H Q I q=>h pins s σ H Q I q
theorem HR(ih:Snd T C ar k n)(e:Expr)(c:CE)(G:CtxOk T C ar k b X)(h:du T (n+1) b e c=true):PT X e (tT X.K (evT C ar (n+1) c)):=by
 have hu:=nj G.room
 have dflt:evT C ar (n+1) c=yS (evE C ar n c)->(aE T n b e c && zi e)=true->PT X e (tT X.K (evT C ar (n+1) c)):=fun e1 hh=>by
  rw[e1];have hh:=an2 hh;exact PT.imp (tQ (ih.e b X e c G hh.1) (jl hh.2)) fun σ H Q q=>DC q
 cases c with
 |cmp o a c'=>obtain⟨l,r,p,rfl,h2,h3,h4⟩:=oY h;exact PT.imp (pT (eZ hu o) (ih.e b X l a G h2) (ih.e b X r c' G h3) (dy h4)) fun σ H Q q=>lf (Ht q)
 |chn o p' a c' d=>obtain⟨l,r,s,p,rfl,h2,h3,h4,h5⟩:=vA h;exact PT.imp (tP (eZ hu o) (eZ hu p') (ih.e b X l a G h2) (ih.e b X r c' G h3) (ih.e b X s d G h4) (jk h5)) fun σ H Q q=>uZ (Ht q)
 |and a c'=>
  rcases zj h with h |h
  ·obtain⟨x,y,p,rfl,h1,h2⟩:=ji h;exact PT.imp (tw (ih.t b X x a G h1) (xQ (ih.t b X y c' G h2))).pt fun σ H Q q=>u5 q
  ·obtain⟨x,y,z,ys,p,rfl,h1,h2⟩:=lN h;exact PT.imp (tw (ih.t b X x a G h1) (qE (ih.t b X _ c' G h2))).pt fun σ H Q q=>u5 q
 |or a c'=>
  rcases zj h with h |h
  ·obtain⟨x,y,p,rfl,h1,h2⟩:=ji h;exact PT.imp (tz (ih.t b X x a G h1) (tj (ih.t b X y c' G h2))).pt fun σ H Q q=>BP q
  ·obtain⟨x,y,z,ys,p,rfl,h1,h2⟩:=lN h;exact PT.imp (tz (ih.t b X x a G h1) (qE (ih.t b X _ c' G h2))).pt fun σ H Q q=>BP q
 |not a=>obtain⟨x,p,rfl,h1⟩:=oX h;exact PT.imp (tD (ih.t b X x a G h1)) fun σ H Q q=>DS q
 |_=>exact dflt rfl h
theorem snd:∀n,Snd T C ar k n
 |0=>⟨fun b X e c _ h=>absurd h Zb,fun b X e c _ _ h=>absurd h Zb,fun b X e c _ h=>absurd h Zb,fun b X e c _ h=>absurd h Zb,fun B b X t e c _ h=>absurd h Zb,fun b X e gs elt cls _ h=>absurd h Zb⟩
 |n+1=>⟨fun b X e c G h=>HQ (snd n) e c G h,fun b X e c G ht h=>vL (snd n) e c G ht h,fun b X es cs G h=>HN (snd n) es cs G h,fun b X e c G h=>HR (snd n) e c G h,fun B b X t e c G h=>HP (snd n) B t e c G h,fun b X e gs elt cls G h=>D0 (snd n) e gs elt cls G h⟩
end
inductive CS where |asg (t:Tg)(e:CE) |setI (v o i:CE) |ex (e:CE) |ret (e:CE) |ifs (c:CE)(a b:List CS) |for_ (t:Tg)(it:CI)(b:List CS) |while_ (c:CE)(b:List CS) |cnt |never
noncomputable def zy:XS:=fun _ _=>none
mutual
noncomputable def evS(C:Calls)(ar:Nat->Nat):Nat->CS->XS
 |0,_=>zy
 |n+1,s=>match s with
  |.asg t e=>i7 (evE C ar n e) t
  |.setI v o i=>mX (evE C ar n v) (evE C ar n o) (evE C ar n i)
  |.ex e=>mW (evE C ar n e)
  |.ret e=>uR (evE C ar n e)
  |.ifs c a b=>xIf (evT C ar n c) (c7 C ar n a) (c7 C ar n b)
  |.for_ t it b=>uS (evI C ar n it) t (c7 C ar n b) LF
  |.while_ c b=>bF (evT C ar n c) (c7 C ar n b) LF
  |.cnt=>HE
  |.never=>zy
noncomputable def c7(C:Calls)(ar:Nat->Nat):Nat->List CS->XS
 |0,_=>zy
 |n+1,ss=>match ss with
  |[]=>BM
  |s::ss=>oP (evS C ar n s) (c7 C ar n ss)
end
noncomputable def vM:Expr->Bool
 |.Starred _ _=>true
 |_=>false
noncomputable def fc(sc:Scope)(line:Nat)(ts:List Expr):List Str:=ts.filterMap fun
 |.Name id pos=>if sc.names.lookup id == some .local && pos.line == line then some id else none
 |_=>none
noncomputable def qF(sc:Scope)(ts vs:List Expr):Option (Option (List Str)):=
 if (!(ts.length == 2 || ts.length == 3) || vs.length != ts.length)=true then some none
 else if (vs.any vM)=true then some none
 else if ((fc sc ((ts.head?.map (·.pos.line)).getD 0) ts).length != ts.length || (fc sc ((ts.head?.map (·.pos.line)).getD 0) ts).eraseDups.length != (fc sc ((ts.head?.map (·.pos.line)).getD 0) ts).length)=true then some none
 else if (vs.all (foldedForSure 8))=true then some none
 else if (vs.all (constantsAlone 8))=true then none
 else some (some (fc sc ((ts.head?.map (·.pos.line)).getD 0) ts))
theorem HS{sc:Scope}{ts vs:List Expr}{env:Env}{r:Option (List Str)}{k k2:Nat}{p p2:Pos}(hk:env.blockKind = .function)(hs:env.scope=sc)(h:qF sc ts vs=some r):Vt [.Tuple ts k p] (.Tuple vs k2 p2) env=pure r:=by
 unfold qF at h;unfold Vt
 have e1:(vs.any fun |.Starred ..=>true |_=>false)=vs.any vM:=by
  congr 1
 have e2:(ts.filterMap fun
   |.Name id pos=>if env.kindOf id == some .local && pos.line == ((ts.head?.map (·.pos.line)).getD 0) then some id else none
   | _=>none)=fc sc ((ts.head?.map (·.pos.line)).getD 0) ts:=by
  unfold fc Env.kindOf;rw[hs]
 have e3:(env.blockKind != .function)=false:=by rw[hk];rfl
 simp only[e3,Xq];split at h
 ·rename_i c1;rw[if_pos c1];cases h;rfl
 rename_i c1;rw[if_neg c1];split at h
 ·rename_i c2;cases h;exact if_pos (e1.trans c2)
 rename_i c2;refine Eq.trans (if_neg fun z=>c2 (e1.symm.trans z)) ?_;split at h
 ·rename_i c3;cases h;rw[<-e2] at c3;exact if_pos c3
 rename_i c3;rw[<-e2] at c3 h;refine Eq.trans (if_neg c3) ?_;split at h
 ·rename_i c4;cases h;exact if_pos c4
 rename_i c4;refine Eq.trans (if_neg c4) ?_;split at h
 ·cases h
 rename_i c5;cases h;exact if_neg c5
noncomputable def o3:Expr->Option (Scope × Pos)
 |.ListComp _ _ s p=>some (s,p)
 |.SetComp _ _ s p=>some (s,p)
 |.DictComp _ _ _ s p=>some (s,p)
 |_=>none
noncomputable def swW(sc:Scope)(v:Expr)(t:Str)(pos:Pos):Bool:=match o3 v with
 |none=>false
 |some (s,p)=>sc.names.lookup t == some .local && pos.line == p.line && !(s.names.any fun y=>y.1 == t && (y.2 == .local || y.2 == .cell))
theorem vN{sc:Scope}{v:Expr}{t:Str}{pos:Pos}{line:Nat}{env:Env}(hk:env.blockKind = .function)(hs:env.scope=sc):Vu v (some (.Name t pos)) line env=pure (swW sc v t pos):=by
 unfold Vu swW o3;have e3:(env.blockKind == .function)=true:=by rw[hk];rfl
 cases v <;> first |rfl |(simp only[e3,Yd,Env.kindOf,hs];rfl)
theorem nk{v tg:Expr}{line:Nat}{env:Env}(h:∀x p,tg ≠ .Name x p):Vv [tg] v line env=pure false:=by
 show Vu v (some tg) line env=pure false;unfold Vu;cases v <;> first |rfl |(cases tg <;> first |rfl |(exact absurd rfl (h _ _)))
theorem gk{v tg:Expr}{env:Env}(h:(∀es k p,v ≠ .Tuple es k p)\/(∃x p,tg = .Name x p)\/(∃o i p,tg = .Subscript o i p)):Vt [tg] v env=pure none:=by
 unfold Vt;rcases h with h |⟨x,p,rfl⟩ |⟨o,i,p,rfl⟩
 ·split
  ·rename_i e;split at e
   ·exact absurd rfl (h _ _ _)
   ·exact absurd rfl (h _ _ _)
   ·cases e
  ·rfl
 ·rfl
 ·rfl
noncomputable def nmL:List Expr->Option (List Str)
 |[]=>some []
 |e::es=>match vm e,nmL es with
  |some r,some xs=>some (r.1::xs)
  |_,_=>none
theorem ek{es:List Expr}{x:Str}{xs:List Str}(h:nmL es=some (x::xs)):∃p es',es = .Name x p::es'/\nmL es'=some xs:=by
 cases es with
 |nil=>cases h
 |cons e es=>
  rw[nmL] at h;split at h
  ·rename_i r ys h1 h2;cases h;exact⟨_,es,by rw[lJ h1],h2⟩
  ·cases h
theorem qG{es:List Expr}(h:nmL es=some []):es=[]:=by
 cases es with
 |nil=>rfl
 |cons e es=>
  rw[nmL] at h;split at h <;> cases h
noncomputable def tgL:List Tg->Option (List Nat)
 |[]=>some []
 |.name i::ts=>match tgL ts with
  |some is=>some (i::is)
  |none=>none
 |.tup _::_=>none
theorem vO:∀ {ts:List Tg} {is:List Nat},tgL ts=some is->ts=is.map Tg.name
 |[],_,h=>by cases h;rfl
 |.name i::ts,is,h=>by
  rw[tgL] at h;cases e:tgL ts with
  |none=>rw[e] at h;cases h
  |some js=>rw[e] at h;cases h;rw[vO e];rfl
 |.tup _::_,_,h=>by cases h
noncomputable def HU(b:Blk)(ns:List Str)(is:List Nat):Bool:=match ns with
 | [x,y]=>(match is with
  |[i,j]=>b.N[i]? == some x && b.N[j]? == some y && i != j && b.sc.names.lookup x == some .local && b.sc.names.lookup y == some .local
  | _=>false)
 | [x,y,z]=>(match is with
  |[i,j,l]=>b.N[i]? == some x && b.N[j]? == some y && b.N[l]? == some z && i != j && i != l && j != l && b.sc.names.lookup x == some .local && b.sc.names.lookup y == some .local && b.sc.names.lookup z == some .local
  | _=>false)
 |_=>false
noncomputable def J7(e:Expr):Bool:=gL e fun _ _ _ _=>true
noncomputable def J8(e:Expr):Bool:=e.ctorIdx == 24
noncomputable def o4(T:Tab)(n:Nat)(b:Blk)(tg e:Expr)(t:Tg)(c:CE):Bool:=match t with
 | .name i=>(match vm tg with
  |some r=>aE T n b e c && b.N[i]? == some r.1 && b.own r.1 && (!(swW b.sc e r.1 r.2) || (J7 e && b.sc.names.lookup r.1 == some .local))
  | none=>false)
 | .tup gs=>(match sE tg with
  | some r=>aE T n b e c && (match sE e with
   | some q=>(match qF b.sc r.1 q.1 with
    |some none=>jf b r.1 gs
    | some (some ns)=>(match tgL gs with
     |some is=>nmL r.1 == some ns && q.1.length == ns.length && HU b ns is
     | none=>false)
    | none=>false)
   | none=>!(J8 e) && jf b r.1 gs)
  | none=>false)
noncomputable def qH(e:Stmt)(k:Option Expr->Pos->Bool):Bool:=if h:e.ctorIdx=3 then @Stmt.Return.elim (fun _=>Bool) e h k else false
theorem sI{e:Stmt}{k:Option Expr->Pos->Bool}(h:qH e k=true):∃x0 x1,e = .Return x0 x1/\k x0 x1=true:=by
 obtain⟨h1,h⟩:=bv h;exact Stmt.Return.elim (motive_2:=fun e=>∀h',@Stmt.Return.elim (fun _=>Bool) e h' k=true->∃x0 x1,e = .Return x0 x1/\k x0 x1=true) e h1 (fun x0 x1 _ hh=>⟨x0,x1,rfl,hh⟩) h1 h
noncomputable def lS(e:Stmt)(k:List Expr->Expr->Pos->Bool):Bool:=if h:e.ctorIdx=5 then @Stmt.Assign.elim (fun _=>Bool) e h k else false
theorem kl{e:Stmt}{k:List Expr->Expr->Pos->Bool}(h:lS e k=true):∃x0 x1 x2,e = .Assign x0 x1 x2/\k x0 x1 x2=true:=by
 obtain⟨h1,h⟩:=bv h;exact Stmt.Assign.elim (motive_2:=fun e=>∀h',@Stmt.Assign.elim (fun _=>Bool) e h' k=true->∃x0 x1 x2,e = .Assign x0 x1 x2/\k x0 x1 x2=true) e h1 (fun x0 x1 x2 _ hh=>⟨x0,x1,x2,rfl,hh⟩) h1 h
noncomputable def HV(e:Stmt)(k:Expr->Expr->List Stmt->List Stmt->Pos->Bool):Bool:=if h:e.ctorIdx=9 then @Stmt.For.elim (fun _=>Bool) e h k else false
theorem D2{e:Stmt}{k:Expr->Expr->List Stmt->List Stmt->Pos->Bool}(h:HV e k=true):∃x0 x1 x2 x3 x4,e = .For x0 x1 x2 x3 x4/\k x0 x1 x2 x3 x4=true:=by
 obtain⟨h1,h⟩:=bv h;exact Stmt.For.elim (motive_2:=fun e=>∀h',@Stmt.For.elim (fun _=>Bool) e h' k=true->∃x0 x1 x2 x3 x4,e = .For x0 x1 x2 x3 x4/\k x0 x1 x2 x3 x4=true) e h1 (fun x0 x1 x2 x3 x4 _ hh=>⟨x0,x1,x2,x3,x4,rfl,hh⟩) h1 h
noncomputable def vP(e:Stmt)(k:Expr->List Stmt->List Stmt->Pos->Bool):Bool:=if h:e.ctorIdx=11 then @Stmt.While.elim (fun _=>Bool) e h k else false
theorem vQ{e:Stmt}{k:Expr->List Stmt->List Stmt->Pos->Bool}(h:vP e k=true):∃x0 x1 x2 x3,e = .While x0 x1 x2 x3/\k x0 x1 x2 x3=true:=by
 obtain⟨h1,h⟩:=bv h;exact Stmt.While.elim (motive_2:=fun e=>∀h',@Stmt.While.elim (fun _=>Bool) e h' k=true->∃x0 x1 x2 x3,e = .While x0 x1 x2 x3/\k x0 x1 x2 x3=true) e h1 (fun x0 x1 x2 x3 _ hh=>⟨x0,x1,x2,x3,rfl,hh⟩) h1 h
noncomputable def jIf(e:Stmt)(k:Expr->List Stmt->List Stmt->Pos->Bool):Bool:=if h:e.ctorIdx=12 then @Stmt.If.elim (fun _=>Bool) e h k else false
theorem HW{e:Stmt}{k:Expr->List Stmt->List Stmt->Pos->Bool}(h:jIf e k=true):∃x0 x1 x2 x3,e = .If x0 x1 x2 x3/\k x0 x1 x2 x3=true:=by
 obtain⟨h1,h⟩:=bv h;exact Stmt.If.elim (motive_2:=fun e=>∀h',@Stmt.If.elim (fun _=>Bool) e h' k=true->∃x0 x1 x2 x3,e = .If x0 x1 x2 x3/\k x0 x1 x2 x3=true) e h1 (fun x0 x1 x2 x3 _ hh=>⟨x0,x1,x2,x3,rfl,hh⟩) h1 h
noncomputable def BX(e:Stmt)(k:Expr->Pos->Bool):Bool:=if h:e.ctorIdx=24 then @Stmt.Expr.elim (fun _=>Bool) e h k else false
theorem zz{e:Stmt}{k:Expr->Pos->Bool}(h:BX e k=true):∃x0 x1,e = .Expr x0 x1/\k x0 x1=true:=by
 obtain⟨h1,h⟩:=bv h;exact Stmt.Expr.elim (motive_2:=fun e=>∀h',@Stmt.Expr.elim (fun _=>Bool) e h' k=true->∃x0 x1,e = .Expr x0 x1/\k x0 x1=true) e h1 (fun x0 x1 _ hh=>⟨x0,x1,rfl,hh⟩) h1 h
noncomputable def km(e:Stmt)(k:Pos->Bool):Bool:=if h:e.ctorIdx=27 then @Stmt.Continue.elim (fun _=>Bool) e h k else false
theorem nn{e:Stmt}{k:Pos->Bool}(h:km e k=true):∃x0,e = .Continue x0/\k x0=true:=by
 obtain⟨h1,h⟩:=bv h;exact Stmt.Continue.elim (motive_2:=fun e=>∀h',@Stmt.Continue.elim (fun _=>Bool) e h' k=true->∃x0,e = .Continue x0/\k x0=true) e h1 (fun x0 _ hh=>⟨x0,rfl,hh⟩) h1 h
noncomputable def lU(e:Expr):Bool:=e.ctorIdx == 8 || e.ctorIdx == 9 || e.ctorIdx == 10
noncomputable def vR(k:Expr->Expr->Bool)(s:Stmt):Bool:=lS s fun ts v _=>l1 ts fun tg=>k tg v
noncomputable def BZ(k l m:Expr->Bool)(s:Stmt):Bool:=lS s fun ts z _=>l1 ts fun tg=>dq tg fun x y _=>k z && l x && m y && aA y
noncomputable def zEx(k:Expr->Bool)(s:Stmt):Bool:=BX s fun v _=>k v && !(lU v)
noncomputable def sJ(k:Expr->Bool)(s:Stmt):Bool:=qH s fun v _=>oA v k
noncomputable def zIf(k:Expr->Bool)(l m:List Stmt->Bool)(s:Stmt):Bool:=jIf s fun t p q _=>k t && l p && m q
noncomputable def HX(k:Expr->Expr->Bool)(l:List Stmt->Bool)(s:Stmt):Bool:=HV s fun tg i p q _=>q.isEmpty && k tg i && l p
noncomputable def vS(k:Expr->Bool)(l:List Stmt->Bool)(s:Stmt):Bool:=vP s fun t p q _=>q.isEmpty && k t && l p
noncomputable def HY(s:Stmt):Bool:=km s fun _=>true
section
variable {s:Stmt} {k l m:Expr->Bool}
theorem lV{k:Expr->Expr->Bool}(h:vR k s=true):∃tg v p,s = .Assign [tg] v p/\k tg v=true:=by
 obtain⟨ts,v,p,rfl,h⟩:=kl h;obtain⟨tg,rfl,h⟩:=cw h;exact⟨tg,v,p,rfl,h⟩
theorem zA(h:BZ k l m s=true):∃x y q z p,s = .Assign [.Subscript x y q] z p/\k z=true/\l x=true/\m y=true/\aA y=true:=by
 obtain⟨ts,v,p,rfl,h⟩:=kl h;obtain⟨tg,rfl,h⟩:=cw h;obtain⟨x,y,q,rfl,h⟩:=dr h;exact⟨x,y,q,v,p,rfl,an4 h⟩
theorem B0(h:zEx k s=true):∃v p,s = .Expr v p/\k v=true/\lU v=false:=by
 obtain⟨v,p,rfl,h⟩:=zz h;obtain⟨h1,h2⟩:=an2 h;exact⟨v,p,rfl,h1,by cases e:lU v;rfl;rw[e] at h2;cases h2⟩
theorem jn(h:sJ k s=true):∃v p,s = .Return (some v) p/\k v=true:=by
 obtain⟨v,p,rfl,h⟩:=sI h;obtain⟨v,rfl,h⟩:=jP h;exact⟨v,p,rfl,h⟩
theorem vT{l m:List Stmt->Bool}(h:zIf k l m s=true):∃t p q r,s = .If t p q r/\k t=true/\l p=true/\m q=true:=by
 obtain⟨t,p,q,r,rfl,h⟩:=HW h;exact⟨t,p,q,r,rfl,an3 h⟩
theorem D3{k:Expr->Expr->Bool}{l:List Stmt->Bool}(h:HX k l s=true):∃tg i p q,s = .For tg i p [] q/\k tg i=true/\l p=true:=by
 obtain⟨tg,i,p,q,r,rfl,h⟩:=D2 h;obtain⟨h1,z0⟩:=an3 h;cases bS h1;exact⟨tg,i,p,r,rfl,z0⟩
theorem vU{l:List Stmt->Bool}(h:vS k l s=true):∃t p q,s = .While t p [] q/\k t=true/\l p=true:=by
 obtain⟨t,p,q,r,rfl,h⟩:=vQ h;obtain⟨h1,z0⟩:=an3 h;cases bS h1;exact⟨t,p,r,rfl,z0⟩
theorem D4(h:HY s=true):∃p,s = .Continue p:=by obtain⟨p,rfl,_⟩:=nn h;exact⟨p,rfl⟩
end
mutual
noncomputable def D5(T:Tab):Nat->Blk->Stmt->CS->Bool
 |0,_,_,_=>false
 |n+1,b,s,c=>match c with
  |.asg t e=>vR (fun tg v=>o4 T n b tg v t e) s
  |.setI v o i=>BZ (fun x=>aE T n b x v) (fun x=>aE T n b x o) (fun x=>aE T n b x i) s
  |.ex e=>zEx (fun x=>aE T n b x e) s
  |.ret e=>sJ (fun x=>aE T n b x e) s
  |.ifs c x y=>zIf (fun e=>du T n b e c) (fun p=>jo T n b p x) (fun p=>jo T n b p y) s
  |.for_ t it x=>HX (fun tg i=>m8 T n b tg i it && oT b tg t) (fun p=>jo T n b p x) s
  |.while_ c x=>vS (fun e=>du T n b e c) (fun p=>jo T n b p x) s
  |.cnt=>HY s
  |.never=>true
noncomputable def jo(T:Tab):Nat->Blk->List Stmt->List CS->Bool
 |0,_,_,_=>false
 |n+1,b,ss,cs=>match cs with
  |[]=>ss.isEmpty
  |c::cs=>lC ss fun s ss=>D5 T n b s c && jo T n b ss cs
end
section
variable {T:Tab} {C:Calls} {ar:Nat->Nat} {k n:Nat} {b:Blk} {X:Cx}
theorem zB{es:List Expr}{cs:List CE}{k':Nat}{p:Pos}(h:aE T (n+1) b (.Tuple es k' p) (.tup cs)=true):ed T n b es cs=true:=h
theorem vV{es:List Expr}{c:CE}{k':Nat}{p:Pos}(h:aE T (n+1) b (.Tuple es k' p) c=true):∃cs,c = .tup cs:=by
 cases c with
 |tup cs=>exact⟨cs,rfl⟩
 |comp own elt cls=>
  cases cls with
  |nil=>exact absurd h Zb
  |cons g rest=>obtain⟨tg,it,cond⟩:=g;exact absurd h Zb
 |_=>exact absurd h Zb
theorem fJ:∀ (ts:List Tg) (ds:List D) (ρ ρ':Rho),ax ts ds ρ=some ρ'->ts.length=ds.length
 |[],[],_,_,_=>rfl
 |[],_::_,_,_,e=>by simp[ax] at e
 |_::_,[],_,_,e=>by simp[ax] at e
 |t::ts,d::ds,ρ,ρ',e=>by
  simp only[ax] at e;split at e
  ·simp[fJ _ _ _ _ e]
  ·cases e
theorem nq{K:Wu}{x:XA}{ts:List Tg}{D:Ends}{σ:L2.St}{H:Hp}(h:tSt K (i7 (ic ig x) (.tup ts)) D σ H):tAr K x σ H fun vs H1=>∃m1 ρ ρ' ds,EnvR K m1 H1 ρ σ/\VDs K m1 H1 ds vs/\ax ts ds ρ=some ρ'/\∀σ',EnvR K m1 H1 ρ' σ'->D.nx σ' H1:=by
 obtain⟨m,ρ,S,fl,ρ',S',E,R,e,q⟩:=h;unfold i7 at e;cases hx:ic ig x ρ S with
 |none=>rw[hx] at e;cases e
 |some r=>
  rw[hx] at e;obtain⟨ds,S1,e1,e2⟩:=aa hx;unfold ig at e2;split at e2
  ·cases e2;dsimp only at e;simp only[am] at e;cases hb:ax ts ds ρ with
   |none=>rw[hb] at e;cases e
   |some ρ1=>
    rw[hb] at e;cases e;exact⟨m,ρ,S,ds,_,E,R,e1,fun m1 H1 vs A1 vd=>⟨m1,ρ,_,ds,E.mono R A1.ext,vd,hb,fun σ' E'=>q m1 H1 A1 σ' E'⟩⟩
  ·cases e2
theorem nu{K:Wu}{x:XA}{σ:L2.St}{H:Hp}{Q Q':List V->Hp->Prop}(h:tAr K x σ H Q)(f:∀v H',Q v H'->Q' v H'):tAr K x σ H Q':=by
 obtain⟨m,ρ,S,d,S',E,R,e,q⟩:=h;exact⟨m,ρ,S,d,S',E,R,e,fun m' H' v A vd=>f _ _ (q m' H' v A vd)⟩
theorem jp{ρ ρ':Rho}{i:Nat}{d:D}(h:(if i < ρ.length then some (ρ.set i (some d)) else none)=some ρ'):ρ'=ρ.set i (some d):=by
 split at h
 ·cases h;rfl
 ·cases h
theorem zC{K:Wu}{x:XA}{i j:Nat}{D:Ends}{σ:L2.St}{H:Hp}(h:tSt K (i7 (ic ig x) (.tup [.name i,.name j])) D σ H):GX i j (tAr K x) D σ H:=by
 refine nu (nq h) fun vs H1 ⟨m1,ρ,ρ',ds,E,vd,e,q⟩=>?_;have hl:=fJ _ _ _ _ e
 match ds,hl with
 |[a,c],_=>
  obtain⟨v,w,rfl,va,vc⟩:=yT vd;refine⟨v,w,rfl,q _ ?_⟩;simp only[ax,am] at e;split at e
  ·rename_i r1 h1;have:=jp h1;subst this;split at e
   ·rename_i r2 h2;have:=jp h2;subst this;cases e;exact(E.set va).set vc
   ·cases e
  ·cases e
theorem J9{K:Wu}{m:List Addr}{H:Hp}{a b c:D}{vs:List V}(h:VDs K m H [a,b,c] vs):∃v w z,vs=[v,w,z]/\VD K m H a v/\VD K m H b w/\VD K m H c z:=by
 rw[VDs] at h;obtain⟨v,r,rfl,p,q⟩:=h;obtain⟨w,z,rfl,p',q'⟩:=yT q;exact⟨v,w,z,rfl,p,p',q'⟩
theorem zD{K:Wu}{x:XA}{i j l:Nat}{D:Ends}{σ:L2.St}{H:Hp}(h:tSt K (i7 (ic ig x) (.tup [.name i,.name j,.name l])) D σ H):BH i j l (tAr K x) D σ H:=by
 refine nu (nq h) fun vs H1 ⟨m1,ρ,ρ',ds,E,vd,e,q⟩=>?_;have hl:=fJ _ _ _ _ e
 match ds,hl with
 |[a,c,d],_=>
  obtain⟨v,w,z,rfl,va,vc,vd'⟩:=J9 vd;refine⟨v,w,z,rfl,q _ ?_⟩;simp only[ax,am] at e;split at e
  ·rename_i r1 h1;have:=jp h1;subst this;split at e
   ·rename_i r2 h2;have:=jp h2;subst this;split at e
    ·rename_i r3 h3;have:=jp h3;subst this;cases e;exact((E.set va).set vc).set vd'
    ·cases e
   ·cases e
  ·cases e
theorem vW{e:Expr}{gs:List XN}{scope:Scope}{p:Pos}{c:CE}(h:aE T (n+1) b (.ListComp e gs scope p) c=true):∃own elt tg it cond rest t i ifs gs',c = .comp own elt (⟨tg,it,cond⟩::rest)/\gs=⟨t,i,ifs,0⟩::gs' ∧
  cmB own (je own b.N) b.N scope b.sc=true/\m8 T n b t i it=true/\oT (b.inner own scope) t tg=true/\vC (du T n (b.inner own scope)) ifs cond=true/\kf T n (b.inner own scope) e gs' elt rest=true:=by
 cases c with
 |comp own elt cls=>
  ·obtain⟨tg,it,cond,rest,rfl,hc⟩:=BW h;obtain⟨el,t,i,ifs,gs',scope',p',he,hh⟩:=qB hc;cases he;obtain⟨h0,h1,h2,h3,h4⟩:=an5 hh;exact⟨own,elt,tg,it,cond,rest,t,i,ifs,gs',rfl,rfl,h0,h1,h2,h3,h4⟩
 |_=>exact absurd h Zb
end
section
variable {T:Tab} {C:Calls} {ar:Nat->Nat} {k n:Nat} {b:Blk} {X:Cx}
theorem qI(h:X.env.scope.kind = .function):X.env.blockKind = .function:=by
 unfold Env.blockKind;rw[h];rfl
theorem zE{α:Type}{l:List α}(h:l.length=2):∃a b,l=[a,b]:=by
 match l,h with
 |[a,b],_=>exact⟨a,b,rfl⟩
theorem sK{α:Type}{l:List α}(h:l.length=3):∃a b c,l=[a,b,c]:=by
 match l,h with
 |[a,b,c],_=>exact⟨a,b,c,rfl⟩
theorem D6(G:CtxOk T C ar k b X)(hk:X.env.scope.kind = .function){tg e:Expr}{t:Tg}{c:CE}{p:Pos}(h:o4 T n b tg e t c=true):PS X (.Assign [tg] e p) (tSt X.K (i7 (evE C ar n c) t)):=by
 have hb:=qI hk;unfold o4 at h;cases t with
 |name i=>
  dsimp only at h;cases hx:vm tg with
  |none=>rw[hx] at h;cases h
  |some r=>
  obtain⟨x,px⟩:=r;rw[hx] at h;rw[lJ hx];simp only[bAE] at h;obtain⟨⟨⟨h1,h2⟩,h3⟩,h4⟩:=h;have hi:X.N[i]?=some x:=by rw[G.hN];simpa using h2
  have nd:X.N.Nodup:=by rw[G.hN];exact G.nd
  have o:=G.own h3;have sw:=vN (sc:=b.sc) (v:=e) (t:=x) (pos:=px) (line:=p.line) hb G.hs;cases hw:swW b.sc e x px with
  |false=>
   rw[hw] at sw;exact PS.imp (CA nd hi o.1 ((snd n).e b X e c G h1) sw o.2) fun D σ H q=>gh (oQ q) fun v H' z=>lF z
  |true=>
   rw[hw] at h4 sw;simp only[Bool.not_true,Bool.false_or,bAE] at h4;obtain⟨h5,h4⟩:=h4;obtain⟨el,gs,scope,pp,rfl,_⟩:=gZ h5
   ·cases n with
    |zero=>exact absurd h1 Zb
    |succ n=>
     obtain⟨own,elt,tg',it,cond,rest,tt,ii,ifs,gs',rfl,rfl,c0,c1,c2,c3,c4⟩:=vW h1;have S:CmScope own (je own b.N) b.N scope b.sc:=ug _ c0;have S':CmScope own (je own b.N) X.N scope X.env.scope:=by rw[G.hN,G.hs];exact S
     have hpl:=e8 c1 (fun e he env=>dz he) X.env;have hx:X.env.scope.names.lookup x=some .local:=by rw[G.hs];simpa using h4
     refine PS.imp (yp (g:=tTg X.K tg') (ti:=ifT C ar n X.K cond) (t:=fun acc=>tCl X.K acc (ft C ar n elt rest)) G.calm S' nd hi hx ((snd n).i [] b X tt ii it G c1) (fun C' ex s H=>e9 (G.inner S (C':=C') (ex:=ex) (s:=s) (H:=H)) c2) (fun C' ex s H=>jm (snd n) (G.inner S (C':=C') (ex:=ex) (s:=s) (H:=H)) c3)
      (fun C' ex s H acc=>(snd n).cl _ _ el gs' elt rest (G.inner S (C':=C') (ex:=ex) (s:=s) (H:=H)) c4 _ scope pp acc 0 rfl) sw hpl) fun D σ H q=>?_
     exact qv (fun acc D σ H z=>o1 z) (mP (gh (oQ q) fun v H' z=>lF z))
 |tup gs=>
  dsimp only at h;cases hx:sE tg with
  |none=>rw[hx] at h;cases h
  |some r=>
  obtain⟨ts,kt,pt⟩:=r;rw[hx] at h;rw[lK hx];simp only[bAE] at h;obtain⟨h1,h3⟩:=h;have so:Vv [.Tuple ts kt pt] e p.line X.env=pure false:=nk fun x p z=>nomatch z
  have plain:∀ (hw:Vt [.Tuple ts kt pt] e X.env=pure none) (hg:jf b ts gs=true),PS X (.Assign [.Tuple ts kt pt] e p) (tSt X.K (i7 (evE C ar n c) (.tup gs))):=fun hw hg=>
   PS.imp (iz ((snd n).e b X e c G h1) (e9 G (e:=.Tuple ts kt pt) (t:=.tup gs) hg) so hw rfl) fun D σ H q=>oQ q
  cases hy:sE e with
  |none=>
   rw[hy] at h3;simp only[bAE] at h3;exact plain (gk (.inl fun es k p z=>by rw[z] at hy;cases hy)) h3.2
  |some q=>
   obtain⟨es,ke,pe⟩:=q;rw[hy] at h3;obtain rfl:=lK hy;cases n with
   |zero=>exact absurd h1 Zb
   |succ n=>
    obtain⟨cs,rfl⟩:=vV h1;have ha:=zB h1;dsimp only at h3;cases hr:qF b.sc ts es with
    |none=>rw[hr] at h3;cases h3
    |some w=>
     have hw:=HS (k:=kt) (p:=pt) (k2:=ke) (p2:=pe) hb G.hs hr;rw[hr] at h3;cases w with
     |none=>exact plain hw h3
     |some ns=>
      dsimp only at h3;cases ht:tgL gs with
      |none=>rw[ht] at h3;cases h3
      |some is=>
       rw[ht] at h3;simp only[bAE] at h3;obtain⟨⟨hn0,hl0⟩,h3⟩:=h3;have hn:nmL ts=some ns:=by simpa using hn0
       have hl:es.length=ns.length:=by simpa using hl0
       clear hn0 hl0;obtain rfl:=vO ht;unfold HU at h3;split at h3
       ·rename_i x y;split at h3
        ·rename_i i j;obtain⟨p1,t1,rfl,hn1⟩:=ek hn;obtain⟨p2,t2,rfl,hn2⟩:=ek hn1;obtain rfl:=qG hn2;obtain⟨a1,a2,rfl⟩:=zE hl;simp only[bAE] at h3;obtain⟨⟨⟨⟨q2,q3⟩,q4⟩,q5⟩,q6⟩:=h3;exact PS.imp (CB (i:=i) (j:=j) G.calm (by rw[G.hN];exact G.nd) (by rw[G.hN];simpa using q2) (by rw[G.hN];simpa using q3) (by simpa using q4) (by rw[G.hs];simpa using q5) (by rw[G.hs];simpa using q6) ((snd n).a b X _ cs G ha) hw so) fun D σ H q=>zC q
        ·cases h3
       ·rename_i x y z;split at h3
        ·rename_i i j l;obtain⟨p1,t1,rfl,hn1⟩:=ek hn;obtain⟨p2,t2,rfl,hn2⟩:=ek hn1;obtain⟨p3,t3,rfl,hn3⟩:=ek hn2;obtain rfl:=qG hn3;obtain⟨a1,a2,a3,rfl⟩:=sK hl;simp only[bAE] at h3;obtain⟨⟨⟨⟨⟨⟨⟨⟨q2,q3⟩,q3'⟩,q4⟩,q4'⟩,q4''⟩,q5⟩,q6⟩,q7⟩:=h3;exact PS.imp (yw (i:=i) (j:=j) (k:=l) G.calm (by rw[G.hN];exact G.nd) (by rw[G.hN];simpa using q2) (by rw[G.hN];simpa using q3) (by rw[G.hN];simpa using q3') (by simpa using q4) (by simpa using q4') (by simpa using q4'') (by rw[G.hs];simpa using q5) (by rw[G.hs];simpa using q6) (by rw[G.hs];simpa using q7) ((snd n).a b X _ cs G ha) hw so) fun D σ H q=>zD q
        ·cases h3
       ·cases h3
theorem nv{v:Expr}{line:Nat}(h:lU v=false):Vu v none line X.env=pure false:=by
 unfold Vu;cases v <;> first |rfl |(exact absurd h (fun z=>Zb z.symm))
structure SndS(T:Tab)(C:Calls)(ar:Nat->Nat)(k n:Nat):Prop where
 s:∀ (b:Blk) (X:Cx) (s:Stmt) (c:CS),CtxOk T C ar k b X->X.env.scope.kind = .function->D5 T n b s c=true->PS X s (tSt X.K (evS C ar n c))
 ss:∀ (b:Blk) (X:Cx) (s:List Stmt) (c:List CS),CtxOk T C ar k b X->X.env.scope.kind = .function->jo T n b s c=true->PSs X s (tSt X.K (c7 C ar n c))
theorem HZ{K:Wu}{D:Ends}{σ:L2.St}{H:Hp}(h:tSt K zy D σ H):False:=by
 obtain⟨m,ρ,S,fl,ρ',S',E,R,e,q⟩:=h;cases e
theorem D7:∀n,SndS T C ar k n
 |0=>⟨fun b X s c _ _ h=>absurd h Zb,fun b X s c _ _ h=>absurd h Zb⟩
 |n+1=>by
  have ih:=D7 n;refine⟨fun b X s c G hk h=>?_,fun b X ss cs G hk h=>?_⟩
  ·have hp:PassesOwn (model X.prog X.w) X.A X.env X.xe:=by rw[G.xe];exact PassesOwn.never
   cases c with
   |asg t e=>obtain⟨tg,v,p,rfl,h1⟩:=lV h;exact D6 G hk h1
   |setI v o i=>
    obtain⟨x,y,px,z,p,rfl,h1,h2,h3,pl⟩:=zA h
    exact PS.imp (iz ((snd n).e b X z v G h1) (Cz ((snd n).e b X x o G h2) ((snd n).e b X y i G h3) Hy (fun v=>by
     cases y <;> first | rfl | (exact absurd pl Zb))) (nk fun x p z=>nomatch z) (gk (.inr (.inr ⟨_,_,_,rfl⟩))) rfl) fun D σ H q=>y9 q
   |ex e=>obtain⟨v,p,rfl,h1,h2⟩:=B0 h;exact PS.imp (pP ((snd n).e b X v e G h1) (nv h2)) fun D σ H q=>y8 q
   |ret e=>obtain⟨v,p,rfl,h1⟩:=jn h;exact PS.imp (nS ((snd n).e b X _ _ G h1)) fun D σ H q=>DK q
   |ifs c x y=>obtain⟨t,p,q,r,rfl,h1,h2,h3⟩:=vT h;exact PS.imp (pQ ((snd n).t b X _ _ G h1) (ih.ss b X _ _ G hk h2) (ih.ss b X _ _ G hk h3)) fun D σ H q=>HF q
   |for_ t it x=>
    obtain⟨tg,i,p,pos,rfl,h1,h2⟩:=D3 h;have h1:=an2 h1;exact PS.imp (CD hp G.calm ((snd n).i [] b X _ _ _ G h1.1) (e9 G h1.2) (ih.ss b X _ _ G hk h2) (e8 h1.1 (fun e he env=>dz he) X.env)) fun D σ H q=>DM q
   |while_ c x=>obtain⟨t,p,q,rfl,h1,h2⟩:=vU h;exact PS.imp (tK hp ((snd n).t b X _ _ G h1) (ih.ss b X _ _ G hk h2)) fun D σ H q=>uT q
   |cnt=>obtain⟨p,rfl⟩:=D4 h;exact PS.imp mo fun D σ H q=>DL q
   |never=>exact PS.imp mq fun D σ H q=>(HZ q).elim
  ·cases cs with
   |nil=>rw[bS h];exact PSs.imp fR fun D σ H q=>y7 q
   |cons c cs=>
    obtain⟨s,ss,rfl,h⟩:=bN h;have h:=an2 h;exact PSs.imp (bt (ih.s b X s c G hk h.1) (ih.ss b X ss cs G hk h.2)) fun D σ H q=>DJ q
end
noncomputable def wIs(b:Blk)(x:Str)(e:Expr):Bool:=jg b "isinstance" (fB fun y=>b.N[0]? == some y && b.vis y) (fB fun y=>y == x && b.glo y) e
noncomputable def o5(k:Str->Expr->Bool):List Str->List Expr->Bool
 |[],es=>es.isEmpty
 |x::xs,es=>lC es fun e es=>aA e && k x e && o5 k xs es
noncomputable def wV(b:Blk)(i:Nat)(e:Expr):Bool:=fB (fun y=>b.N[i]? == some y && b.vis y) e
noncomputable def wTg(b:Blk)(i:Nat)(e:Expr):Bool:=fB (fun y=>b.N[i]? == some y && b.own y) e
noncomputable def wMt(b:Blk)(m:Str)(e:Expr):Bool:=zn m (wV b 1) (fun es=>l1 es fun e=>sBl true e) e
noncomputable def qJ(b:Blk)(cs:List Str)(s:Stmt):Bool:=vR (fun tg v=>wTg b 1 tg && zk .Add (wV b 1) (sG (o5 (wIs b) cs)) v) s
noncomputable def Ia(b:Blk)(cs:List Str)(s:Stmt):Bool:=vR (fun tg v=>wTg b 1 tg && sG (o5 (wIs b) cs) v) s
noncomputable def Ib(b:Blk)(s:Stmt):Bool:=zIf (sH .Or (zm .NotEq (wMt b "count") (vn 1)) (zl (wIs b "ValueError"))) (fun ss=>l1 ss fun s=>sJ (sF "other") s) (fun ss=>ss.isEmpty) s
noncomputable def Ic(b:Blk)(ws:List Str)(s:Stmt):Bool:=vR (fun tg v=>wTg b 2 tg && sG (o5 sF ws) v) s
noncomputable def Ie(b:Blk)(ws:List Str)(s:Stmt):Bool:=sJ (sIx (zk .Add (wV b 2) (sG (o5 sF ws))) (wMt b "index")) s
noncomputable def o6(b:Blk)(cs ws:List Str)(ss:List Stmt):Bool:=
 fF b.N && b.N.length == 3 && b.glo "isinstance" && lC ss fun s1 ss=>lC ss fun s2 ss=>lC ss fun s3 ss=>lC ss fun s4 ss=>lC ss fun s5 ss=>lC ss fun s6 ss=>l1 ss fun s7=>
  Ia b (cs.take 4) s1 && qJ b ((cs.drop 4).take 4) s2 && qJ b ((cs.drop 8).take 4) s3 && qJ b (cs.drop 12) s4 && Ib b s5 && (Ic b (ws.take 12) s6 && Ie b (ws.drop 12) s7)
def gM(H H2:Hp):Prop:=∀p o,H p=some o->H2 p=some o
theorem gM.upd{H:Hp}{p:Addr}{o:HO}(h:H p=none):gM H (L2.upd H p o):=fun q u e=>by rw[ak (aD e h)];exact e
theorem gM.trans{H H1 H2:Hp}(a:gM H H1)(b:gM H1 H2):gM H H2:=fun p o e=>b p o (a p o e)
section
variable {X:Cx}
theorem sL:MtR X "list.count" (fun x vs H Q=>∃l xs y,x = .ref l/\vs=[y]/\H l=some (.lst xs)/\bC y=true/\xs.all bC=true/\Q (.int ((xs.countP fun z=>eqV z y:Nat):Int)) H):=by
 intro pins s σ H x vs v us Q I rx rv h;obtain⟨p,xs,y,rfl,rfl,hq,fy,fs,q⟩:=h;cases rx;obtain⟨u,rfl,ru⟩:=rv.one;obtain⟨_,its,n,r,e⟩:=I.hok p _ hq;refine WZ X0 ⟨_,e,rfl⟩ PySem.F.entry_list_count (PySem.F.args_list_count_2 _ _) (SeqAt.list_countAt p its.toArray n none #[] u (eqU y)) ⟨e,fun w hw=>b8 ru fy r fs w (by simpa using hw),?_⟩;refine⟨.int _,H,I.tok _,⟨_,rfl⟩,?_⟩
 have z:(its.toArray.toList.countP (eqU y))=xs.countP fun z=>eqV z y:=by
  rw[Y0];exact fG r fs
 rw[z];exact q
theorem sM:MtR X "list.index" (fun x vs H Q=>∃l xs y,∃j:Nat,∃z,x = .ref l/\vs=[y]/\H l=some (.lst xs)/\bC y=true/\xs.all bC=true/\j < 100/\xs[j]?=some z/\eqV z y=true/\(∀ (m:Nat) z,m < j->xs[m]?=some z->eqV z y=false)/\Q (.int (j:Int)) H):=by
 intro pins s σ H x vs v us Q I rx rv h;obtain⟨p,xs,y,j,z,rfl,rfl,hq,fy,fs,hj,hz,hit,hno,q⟩:=h;cases rx;obtain⟨u,rfl,ru⟩:=rv.one;obtain⟨_,its,n,r,e⟩:=I.hok p _ hq
 have at_:∀m (hm:m < its.toArray.size),∃w,xs[m]?=some w/\eqU y its.toArray[m]=eqV w y:=fun m hm=>by
  have hm':m < xs.length:=by rw[r.length];simpa using hm
  obtain⟨u',hu,rr⟩:=r.get (i:=m) (gEG hm');refine⟨xs[m],gEG hm',?_⟩
  have e1:its.toArray[m]=u':=by
   have:=Za.mp hu;obtain⟨_,z⟩:=this
   simpa using z
  rw[e1];exact kL rr (Zk.mp fs _ (ZM hm'))
 have hjs:j < its.toArray.size:=by have:=(Za.mp hz).1;rw[r.length] at this;simpa using this
 refine WZ X1 ⟨_,e,rfl⟩ PySem.F.entry_list_index (PySem.F.args_list_index_2 _ _) (SeqAt.list_indexAt p its.toArray n none #[] u (eqU y) j hjs (by omega) ?_ ?_) ⟨e,fun w hw=>b8 ru fy r fs w (by simpa using hw),?_⟩
 ·obtain⟨w,hw,e1⟩:=at_ j hjs;rw[hz] at hw;cases hw;rw[e1];exact hit
 ·intro m hm hlt;obtain⟨w,hw,e1⟩:=at_ m hm;rw[e1];exact hno m w hlt hw
 ·exact⟨.int _,H,I.tok _,⟨_,rfl⟩,q⟩
end
section
variable {X:Cx} {b:Blk} {a C R:Addr}
theorem nw(hs:X.env.scope=b.sc){x:Str}(h:b.glo x=true):Gl X x/\(x == ("__debug__" : Str))=false:=by
 unfold Blk.glo at h;rw[bAE] at h;refine⟨?_,by simpa using h.2⟩;show X.env.scope.names.lookup x=_;rw[hs]
 simpa using h.1
theorem kn(hs:X.env.scope=b.sc)(hN:X.N=b.N){i:Nat}{e:Expr}(h:wV b i e=true):PE X e (Cr i):=by
 obtain⟨x,p,rfl,hh⟩:=ci h;obtain⟨h1,h2⟩:=an2 hh;unfold Blk.vis at h2;rw[bAE,bAE] at h2;refine nR (i:=i) (by rw[hN];exact eq_of_beq h1) ?_ (by simpa using h2.1.2) (by simpa using h2.2);unfold Vis;rw[hs];have h3:=h2.1.1;split at h3
 ·rename_i e;exact .inl e
 ·rename_i e;exact .inr (.inl e)
 ·rename_i e;exact .inr (.inr e)
 ·cases h3
theorem vX(hC:a8 X.base C (.ref R::bmV))(hR:a8 X.base R bmV):aV X (.builtin "isinstance") (fun xs H Q=>∃D,xs=[.ref a,.ref D]/\H a=some (exO a C)/\kh X.base D/\D ≠ R/\Q (.bl (C == D)) H):=by
 intro pins s σ H xs us Q I rs h;obtain⟨D,rfl,ha,⟨dd,cd,sl,hD⟩,hr,q⟩:=h;cases rs with
 |cons r1 rs=>
  cases rs with
  |cons r2 rs=>
   cases rs;cases r1;cases r2;exact isx (hC.keeps I.bk) (hR.keeps I.bk) (I.hok a _ ha).1 ⟨dd,cd,sl,I.bk _ _ hD⟩ hr fun tk=>⟨.bl _,H,I.tok _,rfl,q⟩
theorem vY(hC:a8 X.base C (.ref R::bmV))(hR:a8 X.base R bmV):aV X (.builtin "isinstance") (fun xs H Q=>xs=[.ref a,.ty "ValueError"]/\H a=some (exO a C)/\Q (.bl true) H):=by
 intro pins s σ H xs us Q I rs h;obtain⟨rfl,ha,q⟩:=h;cases rs with
 |cons r1 rs=>
  cases rs with
  |cons r2 rs=>
   cases rs;cases r1;cases r2;exact isv (hC.keeps I.bk) (hR.keeps I.bk) (I.hok a _ ha).1 fun tk=>⟨.bl _,H,I.tok _,rfl,q⟩
theorem Ka(hs:X.env.scope=b.sc)(hN:X.N=b.N)(hb:X.mg "isinstance" = none)(hC:a8 X.base C (.ref R::bmV))(hR:a8 X.base R bmV){x:Str}{D:Addr}{e:Expr}(hm:X.mg x=some (.ref D))(h:wIs b x e=true) :
  PE X e (fun σ H Q=>σ[0]?=some (some (.ref a))/\H a=some (exO a C)/\kh X.base D/\D ≠ R/\Q (.bl (C == D)) H):=by
 obtain⟨x1,y,p,p',rfl,h2,h5,h6,h7,_⟩:=cy h;obtain⟨y,p'',rfl,h8⟩:=ci h7;obtain⟨h3,h4⟩:=an2 h8;have hy:=eq_of_beq h3;subst hy;exact PE.imp (cV (vX (a:=a) hC hR) (nw hs h2).1 hb XB (bL (kn hs hN h5) (bf (pO (v:=.ref D) (nw hs h4).1 hm rfl (nw hs h4).2) rfl) h6) (by decide) (nw hs h2).2 (af h6) rfl) fun σ H Q q=>⟨_,q.1,D,rfl,q.2.1,q.2.2.1,q.2.2.2.1,q.2.2.2.2⟩
theorem Ig(hs:X.env.scope=b.sc)(hN:X.N=b.N)(hb:X.mg "isinstance" = none)(hv:X.mg "ValueError" = none)(hC:a8 X.base C (.ref R::bmV))(hR:a8 X.base R bmV){e:Expr}(h:wIs b "ValueError" e=true) :
  PE X e (fun σ H Q=>σ[0]?=some (some (.ref a))/\H a=some (exO a C)/\Q (.bl true) H):=by
 obtain⟨x1,y,p,p',rfl,h2,h5,h6,h7,_⟩:=cy h;obtain⟨y,p'',rfl,h8⟩:=ci h7;obtain⟨h3,h4⟩:=an2 h8;have hy:=eq_of_beq h3;subst hy;exact PE.imp (cV (vY (a:=a) hC hR) (nw hs h2).1 hb XB (bL (kn hs hN h5) (bf (eN (v:=.ty "ValueError") (nw hs h4).1 hv PyProof.Rows.Boot.«ValueError» rfl (by decide) (nw hs h4).2) rfl) h6) (by decide) (nw hs h2).2 (af h6) rfl) fun σ H Q q=>⟨_,q.1,rfl,q.2.1,q.2.2⟩
inductive Cls2(X:Cx)(R:Addr):List Str->List Addr->Prop
 |nil:Cls2 X R [] []
 |cons {x:Str} {D:Addr} {xs:List Str} {Ds:List Addr}:X.mg x=some (.ref D)->kh X.base D->D ≠ R->Cls2 X R xs Ds->Cls2 X R (x::xs) (D::Ds)
theorem vZ(hs:X.env.scope=b.sc)(hN:X.N=b.N)(hb:X.mg "isinstance" = none)(hC:a8 X.base C (.ref R::bmV))(hR:a8 X.base R bmV):∀ {cs:List Str} {Ds:List Addr} {es:List Expr},Cls2 X R cs Ds->o5 (wIs b) cs es=true ->
  PA X es (fun σ H Q=>σ[0]?=some (some (.ref a))/\H a=some (exO a C)/\Q (Ds.map fun D=>.bl (C == D)) H)
 |_,_,es,.nil,h=>by rw[bS h];exact PA.imp kI fun σ H Q q=>q.2.2
 |_,_,es,.cons h1 h2 h3 t,h=>by
  obtain⟨e,es,rfl,h⟩:=bN h;obtain⟨p1,p2,p3⟩:=an3 h;exact PA.imp (bL (Ka hs hN hb hC hR h1 p2) (vZ hs hN hb hC hR t p3) p1) fun σ H Q q=>⟨q.1,q.2.1,h2,h3,q.1,q.2.1,q.2.2⟩
theorem o7:∀ {ws:List Str} {es:List Expr},o5 sF ws es=true->PA X es (fun σ H Q=>Q (ws.map V.str) H)
 |[],es,h=>by rw[bS h];exact PA.imp kI fun σ H Q q=>q
 |w::ws,es,h=>by
  obtain⟨e,es,rfl,h⟩:=bN h;obtain⟨p1,p2,p3⟩:=an3 h;obtain⟨_,_,rfl⟩:=oV p2;exact PA.imp (bL kH (o7 p3) p1) fun σ H Q q=>q
theorem D8(hs:X.env.scope=b.sc)(hN:X.N=b.N)(hf:X.fn=fun _=>true)(hnd:b.N.Nodup){i:Nat}{e:Expr}(h:wTg b i e=true):∃x p,e = .Name x p/\PG X e (jR i):=by
 obtain⟨x,p,rfl,hh⟩:=ci h;obtain⟨h1,h2⟩:=an2 hh;refine⟨x,p,rfl,pR (by rw[hN];exact hnd) (by rw[hN];exact eq_of_beq h1) ?_ (.inl (by rw[hf]))⟩;unfold Blk.own at h2;unfold L2.Loc;rw[hs];split at h2
 ·rename_i e;exact .inl e
 ·rename_i e;exact .inr e
 ·cases h2
theorem o8{x:Str}{p:Pos}{e:Expr}{line:Nat}(hk:X.env.blockKind = .function)(hs:X.env.scope=b.sc)(h:o3 e=none):Vv [.Name x p] e line X.env=pure false:=by
 have z:=vN (sc:=b.sc) (v:=e) (t:=x) (pos:=p) (line:=line) hk hs;unfold swW at z;rw[h] at z;exact z
def sN(a C:Addr)(σ:L2.St)(H:Hp):Prop:=σ.length=3/\σ[0]?=some (some (.ref a))/\H a=some (exO a C)
theorem ez{σ:L2.St}{H H2:Hp}{i:Nat}{v:V}(x:sN a C σ H)(hi:i ≠ 0)(e:gM H H2):sN a C (σ.set i (some v)) H2:=⟨by simpa using x.1,by rw[ZP hi];exact x.2.1,e _ _ x.2.2⟩
variable (hk:X.env.blockKind = .function) (hs:X.env.scope=b.sc) (hN:X.N=b.N) (hf:X.fn=fun _=>true) (hnd:b.N.Nodup) (hb:X.mg "isinstance" = none) (hv:X.mg "ValueError" = none) (hC:a8 X.base C (.ref R::bmV)) (hR:a8 X.base R bmV)
include hk hs hN hf hnd hb hC hR in
theorem Ih{cs:List Str}{Ds:List Addr}{s:Stmt}(c2:Cls2 X R cs Ds)(hl:Ds.length<=100)(h:Ia b cs s=true):PS X s (fun D σ H=>sN a C σ H/\∀q H2,gM H H2->H2 q=some (.lst (Ds.map fun D=>.bl (C == D)))->D.nx (σ.set 1 (some (.ref q))) H2):=by
 obtain⟨tg,v,p,rfl,h⟩:=lV h;obtain⟨h1,h2⟩:=an2 h;obtain⟨x,p1,rfl,g⟩:=D8 hs hN hf hnd h1;obtain⟨es,p2,rfl,h2⟩:=jh h2;refine PS.imp (iz (iE (vZ (a:=a) hs hN hb hC hR c2 h2)) g (o8 hk hs rfl) (gk (.inr (.inl ⟨_,_,rfl⟩))) rfl) fun D σ H ⟨e,q⟩=>?_;exact⟨e.2.1,e.2.2,by rw[Zc,Vp];omega,fun l hl=>q l _ (gM.upd hl) ao⟩
include hk hs hN hf hnd hb hC hR in
theorem o9{cs:List Str}{Ds:List Addr}{s:Stmt}(c2:Cls2 X R cs Ds)(hl:Ds.length<=100)(h:qJ b cs s=true):PS X s (fun D σ H=>sN a C σ H/\∃l xs,σ[1]?=some (some (.ref l))/\H l=some (.lst xs)/\xs.length<=100/\∀q H2,gM H H2->H2 q=some (.lst (xs++Ds.map fun D=>.bl (C == D)))->D.nx (σ.set 1 (some (.ref q))) H2):=by
 obtain⟨tg,v,p,rfl,h⟩:=lV h;obtain⟨h1,h2⟩:=an2 h;obtain⟨x,p1,rfl,g⟩:=D8 hs hN hf hnd h1;obtain⟨y,z,p3,rfl,h3,h4⟩:=oW h2;obtain⟨es,p2,rfl,h4⟩:=jh h4;refine PS.imp (iz (tN n8 (kn hs hN h3) (iE (vZ (a:=a) hs hN hb hC hR c2 h4))) g (o8 hk hs rfl) (gk (.inr (.inl ⟨_,_,rfl⟩))) rfl) fun D σ H ⟨e,l,xs,hl1,hl2,hl3,q⟩=>?_;refine⟨_,hl1,e.2.1,e.2.2,by rw[Zc,Vp];omega,fun p hp=>?_⟩;refine⟨l,p,xs,_,rfl,rfl,gM.upd hp _ _ hl2,ao,by rw[Zc,Vp];omega,fun r hr=>?_⟩;exact q r _ ((gM.upd hp).trans (gM.upd hr)) ao
include hs hN in
theorem Ii{e:Expr}(h:wMt b "count" e=true):PE X e (fun σ H Q=>∃l xs,σ[1]?=some (some (.ref l))/\H l=some (.lst xs)/\xs.all bC=true/\Q (.int ((xs.countP fun z=>eqV z (.bl true):Nat):Int)) H):=by
 obtain⟨x,ap,es,p,rfl,h2,h3,h4,h5⟩:=lP h;obtain⟨y,rfl,h5⟩:=cw h5;obtain⟨_,_,rfl⟩:=vq h5;exact PE.imp (p0 XX X0 PySem.F.type_list_count sL (kn hs hN h4) (bf tf rfl) (dA h2) (iw rfl) h3 (af rfl) rfl) fun σ H Q ⟨l,xs,h1,h2,h3,q⟩=>⟨_,h1,.inl ⟨rfl,xs,SqL.of h2⟩,l,xs,.bl true,rfl,rfl,h2,rfl,h3,q⟩
include hs hN in
theorem Ij{e:Expr}(h:wMt b "index" e=true):PE X e (fun σ H Q=>∃l xs,∃j:Nat,∃z,σ[1]?=some (some (.ref l))/\H l=some (.lst xs)/\xs.all bC=true/\j < 100/\xs[j]?=some z/\eqV z (.bl true)=true/\(∀ (m:Nat) z,m < j->xs[m]?=some z->eqV z (.bl true)=false)/\Q (.int (j:Int)) H):=by
 obtain⟨x,ap,es,p,rfl,h2,h3,h4,h5⟩:=lP h;obtain⟨y,rfl,h5⟩:=cw h5;obtain⟨_,_,rfl⟩:=vq h5;exact PE.imp (p0 XX X1 PySem.F.type_list_index sM (kn hs hN h4) (bf tf rfl) (dA h2) (iw rfl) h3 (af rfl) rfl) fun σ H Q ⟨l,xs,j,z,h1,h2,h3,q⟩=>⟨_,h1,.inl ⟨rfl,xs,SqL.of h2⟩,l,xs,.bl true,j,z,rfl,rfl,h2,rfl,h3,q⟩
include hs hN hb hv hC hR in
theorem Ik{s:Stmt}(h:Ib b s=true):PS X s (fun D σ H=>sN a C σ H/\(∃l xs,σ[1]?=some (some (.ref l))/\H l=some (.lst xs)/\xs.all bC=true/\(xs.countP fun z=>eqV z (.bl true))=1)/\D.nx σ H):=by
 obtain⟨t,p,q,r,rfl,h1,h2,h3⟩:=vT h;obtain⟨s,rfl,h2⟩:=cw h2;obtain⟨v,p',rfl,h2⟩:=jn h2;obtain⟨_,_,rfl⟩:=oV h2;rw[bS h3];obtain⟨x,y,p2,rfl,h4,h5⟩:=ji h1;obtain⟨l,z,p3,rfl,h6,h7,h8⟩:=oY h4;obtain⟨_,_,rfl⟩:=lL h7;obtain⟨w,p4,rfl,h9⟩:=oX h5
 have hw:zi w=true:=by
  obtain⟨_,_,_,_,rfl,_⟩:=cy h9;rfl
 refine PS.imp (pQ (tz (pT G3 (Ii hs hN h6) kG (dy rfl)) (tj (tD (Ct (Ig (a:=a) hs hN hb hv hC hR h9) (jl hw))))).pt (fS (nS kH)) fR) fun D σ H ⟨e,⟨l,xs,h1,h2,h3,h4⟩,q⟩=>?_;refine⟨l,xs,h1,h2,h3,rfl,_,rfl,?_⟩;rw[h4];show if (!decide (V.int ((1:Nat):Int)=V.int 1))=true then _ else _
 rw[if_neg (by decide)];refine⟨e.2.1,e.2.2,true,rfl,?_⟩;show if (!true)=true then _ else _
 rw[if_neg (by decide)];exact q
include hk hs hN hf hnd in
theorem Il{ws:List Str}{s:Stmt}(hl:ws.length<=100)(h:Ic b ws s=true):PS X s (fun D σ H=>∀q H2,gM H H2->H2 q=some (.lst (ws.map V.str))->D.nx (σ.set 2 (some (.ref q))) H2):=by
 obtain⟨tg,v,p,rfl,h⟩:=lV h;obtain⟨h1,h2⟩:=an2 h;obtain⟨x,p1,rfl,g⟩:=D8 hs hN hf hnd h1;obtain⟨es,p2,rfl,h2⟩:=jh h2;refine PS.imp (iz (iE (o7 h2)) g (o8 hk hs rfl) (gk (.inr (.inl ⟨_,_,rfl⟩))) rfl) fun D σ H q=>?_;exact⟨by rw[Zc,Vp];omega,fun l hl=>q l _ (gM.upd hl) ao⟩
include hs hN in
theorem Im{ws:List Str}{s:Stmt}(hl:ws.length<=100)(h:Ie b ws s=true):PS X s (fun D σ H=>∃l xs m ys,∃j:Nat,∃z w,σ[1]?=some (some (.ref l))/\H l=some (.lst xs)/\xs.all bC=true/\j < 100/\xs[j]?=some z/\eqV z (.bl true)=true/\(∀ (m:Nat) z,m < j->xs[m]?=some z->eqV z (.bl true)=false) ∧
  σ[2]?=some (some (.ref m))/\H m=some (.lst ys)/\ys.length<=100/\(ys++ws.map V.str)[j]?=some w/\∀H2,gM H H2->D.rt w H2):=by
 obtain⟨v,p,rfl,h⟩:=jn h;obtain⟨x,y,p1,rfl,h1,h2,h3⟩:=BV h;obtain⟨x1,x2,p2,rfl,h4,h5⟩:=oW h1;obtain⟨es,p3,rfl,h5⟩:=jh h5;refine PS.imp (nS (tV ye (tN n8 (kn hs hN h4) (iE (o7 h5))) (Ij hs hN h2) (jj h3))) fun D σ H ⟨l,xs,m,ys,j,z,w,a1,a2,a3,a4,a5,a6,a7,b1,b2,b3,b4,q⟩=>?_;refine⟨_,b1,by rw[Zc,Vp];omega,fun p hp=>⟨m,p,ys,_,rfl,rfl,gM.upd hp _ _ b2,ao,by rw[Zc,Vp];omega,fun r hr=>?_⟩⟩;refine⟨l,xs,j,z,a1,gM.upd hr _ _ (gM.upd hp _ _ a2),a3,a4,a5,a6,a7,r,_,(j:Int),w,rfl,rfl,SqL.of ao,?_,q _ ((gM.upd hp).trans (gM.upd hr))⟩;have hj:=(Za.mp b4).1;unfold atI ixN;rw[if_pos (Int.natCast_nonneg j),if_pos (by omega)]
 simpa using b4
include hk hs hN hf hb hv hC hR in
theorem zF{cs ws:List Str}{Ds:List Addr}{i:Nat}{w:Str}{ss:List Stmt}(c1:Cls2 X R (cs.take 4) (Ds.take 4))(c2:Cls2 X R ((cs.drop 4).take 4) ((Ds.drop 4).take 4))(c3:Cls2 X R ((cs.drop 8).take 4) ((Ds.drop 8).take 4))(c4:Cls2 X R (cs.drop 12) (Ds.drop 12))
  (hl:Ds.length<=100) (hws:ws.length<=100) (hnd:Ds.Nodup) (hi:Ds[i]?=some C) (hw:ws[i]?=some w) (h:o6 b cs ws ss=true) :
  PSs X ss (fun D σ H=>sN a C σ H/\∀H2,gM H H2->D.rt (.str w) H2):=by
 unfold o6 at h;obtain⟨h1,h2,_,k0⟩:=an4 h;clear h;obtain⟨s1,ss1,e1,k1⟩:=bN k0;subst e1;obtain⟨s2,ss2,e2,k2⟩:=bN k1;subst e2;obtain⟨s3,ss3,e3,k3⟩:=bN k2;subst e3;obtain⟨s4,ss4,e4,k4⟩:=bN k3;subst e4;obtain⟨s5,ss5,e5,k5⟩:=bN k4;subst e5;obtain⟨s6,ss6,e6,k6⟩:=bN k5;subst e6;obtain⟨s7,e7,k7⟩:=cw k6;subst e7;obtain⟨g1,g2,g3,g4,g5,g6⟩:=an6 k7;obtain⟨g6,g7⟩:=an2 g6;have nd:=dW h1;have t1:(Ds.take 4).length<=100:=by rw[Zw];omega
 have t2:((Ds.drop 4).take 4).length<=100:=by rw[Zw];omega
 have t3:((Ds.drop 8).take 4).length<=100:=by rw[Zw];omega
 have t4:(Ds.drop 12).length<=100:=by rw[ZV];omega
 refine PSs.imp (bt (Ih (a:=a) hk hs hN hf nd hb hC hR c1 t1 g1) (bt (o9 (a:=a) hk hs hN hf nd hb hC hR c2 t2 g2) (bt (o9 (a:=a) hk hs hN hf nd hb hC hR c3 t3 g3) (bt (o9 (a:=a) hk hs hN hf nd hb hC hR c4 t4 g4) (bt (Ik (a:=a) hs hN hb hv hC hR g5)
  (bt (Il hk hs hN hf nd (by rw[Zw];omega) g6) (fS (Im hs hN (by rw[ZV];omega) g7))))))) ) fun D σ H ⟨e,q⟩=>?_
 have el:=e.1;refine⟨e,fun q1 H1 x1 y1=>?_⟩;have e1:=ez (v:=.ref q1) e (by decide:1 ≠ 0) x1;refine⟨e1,q1,_,by rw[ZC (by omega)],y1,by rw[Zc];exact t1,fun q2 H2 x2 y2=>?_⟩;have e2:=ez (v:=.ref q2) e1 (by decide:1 ≠ 0) x2;refine⟨e2,q2,_,by rw[ZC (by have:=e1.1;omega)],y2,by rw[Zh,Zc,Zc,Zw,Zw];omega,fun q3 H3 x3 y3=>?_⟩;have e3:=ez (v:=.ref q3) e2 (by decide:1 ≠ 0) x3;refine⟨e3,q3,_,by rw[ZC (by have:=e2.1;omega)],y3,by rw[Zh,Zh,Zc,Zc,Zc,Zw,Zw,Zw];omega,fun q4 H4 x4 y4=>?_⟩;have e4:=ez (v:=.ref q4) e3 (by decide:1 ≠ 0) x4
 have all:(((Ds.take 4).map (fun D=>V.bl (C == D))++((Ds.drop 4).take 4).map (fun D=>V.bl (C == D)))++((Ds.drop 8).take 4).map (fun D=>V.bl (C == D)))++(Ds.drop 12).map (fun D=>V.bl (C == D))=Ds.map fun D=>V.bl (C == D):=by
  rw[<-ZJ,<-ZJ,<-ZJ]
  congr 1
  have z1:Ds.take 4++(Ds.drop 4).take 4=Ds.take 8:=by rw[show 8=4+4 from rfl,Xr]
  have z2:Ds.take 8++(Ds.drop 8).take 4=Ds.take 12:=by rw[show 12=8+4 from rfl,Xr]
  rw[z1,z2,Yr]
 rw[all] at y4;have fl:(Ds.map fun D=>V.bl (C == D)).all bC=true:=by rw[Yh];exact Zk.mpr fun _ _=>rfl
 have hev:∀D:Addr,eqV (V.bl (C == D)) (.bl true)=(C == D):=fun D=>by cases C == D <;> rfl
 have at_:∀ (m:Nat) z,(Ds.map fun D=>V.bl (C == D))[m]?=some z->∃D,Ds[m]?=some D/\z = .bl (C == D):=fun m z hz=>by
  rw[Zt] at hz;cases hd:Ds[m]? with
  |none=>rw[hd] at hz;cases hz
  |some D=>rw[hd] at hz;cases hz;exact⟨D,rfl,rfl⟩
 refine⟨e4,⟨q4,_,by rw[ZC (by have:=e3.1;omega)],y4,fl,?_⟩,fun q5 H5 x5 y5=>?_⟩
 ·rw[List.countP_map]
  have:((fun z=>eqV z (V.bl true)) ∘ fun D=>V.bl (C == D))=fun D=>D == C:=by
   funext D
   show eqV (V.bl (C == D)) (.bl true)=_;rw[hev,Bool.beq_comm]
  rw[this];show Ds.count C=1;rw[hnd.count,if_pos (Zp hi)]
 ·have e5:=ez (v:=.ref q5) e4 (by decide:2 ≠ 0) x5;have hil:=(Za.mp hi).1;refine⟨q4,_,q5,_,i,.bl (C == C),.str w,?_,x5 _ _ y4,fl,by omega,by rw[Zt,hi];rfl,by rw[hev,beq_self_eq_true],fun m z hm hz=>?_,?_,y5,by rw[Zc,Zw];omega,?_,fun H6 x6=>?_⟩
  ·rw[ZP (by decide),ZC (by have:=e3.1;omega)]
  ·obtain⟨D,hD,rfl⟩:=at_ m z hz;rw[hev];refine Z2.mpr fun q=>?_;have z:C=D:=by simpa using q
   subst z;obtain⟨i1,j1⟩:=Za.mp hD;obtain⟨i2,j2⟩:=Za.mp hi;have z2:m=i:=(Ys hnd).mp (j1.trans j2.symm);omega
  ·rw[ZC (by have:=e4.1;omega)]
  ·rw[<-ZJ,Yr,Zt,hw];rfl
  ·exact q H6 ((((x1.trans x2).trans x3).trans x4).trans (x5.trans x6))
end
section
variable {X:Cx}
theorem D9{es:List Expr}{t:TA}(h:PA X.nox es t):PA X es t:=fun pos pins s σ H Q I hw=>
 VT (h pos pins s σ H Q (I.wish _) hw) (fun _ _ ⟨v,H',I',r,q⟩=>⟨v,H',I'.unwish,r,q⟩) fun _ _ z=>False.elim z
theorem Ea{s:Stmt}{t:TS}(h:PS X.nox s t):PS X s t:=fun pins s σ H D I hw=>
 VT (h pins s σ H D (I.wish _) hw) (fun _ _ z=>SP.unwish z) fun _ _ z=>False.elim z
end
noncomputable abbrev cxM(P:Program)(w:World)(K:Wu)(mg:Str->Option Value)(base:Heap)(N:List Str)(qual:Str)(scope:Scope)(f:Addr)(cd:Value)(A:Around)(outer:List Env)(s:Shared)(H:Hp):Cx:=
 { jF CX0 P w K mg base N qual scope f cd { A with handled:=none } outer s H E0 with A:=A.deeper (envOfC qual scope s.heap.objs.size f cd),calm:=false,xe:=fun _ _=>False }
section
variable {P:Program} {w:World} {K:Wu} {mg:Str->Option Value} {base:Heap} {A:Around} {outer:List Env} {s:Shared} {H:Hp}
theorem v0{x qual:Str}{st:Stmt}{f:Addr}{fd:X7}{N ps:List Str}{us:List Value}{vs:List V}{Q:VK}(F:Fun K x qual st f fd)(S:FnScope N ps (ai st))(hd:A.depth < recursionLimit)(e0:Env0 P w K mg base A outer s H)(hb:BindsTo s fd ⟨us,[]⟩ (ps.zip us))(r:aG vs us)(hl:vs.length=ps.length)
  (hbody:∀cdv,∃t,PSs (cxM P w K mg base N qual (ai st) f cdv A outer s H) (aX st) t/\t { nx:=fun _ H'=>Q .non H',rt:=Q } (cK N vs) H) :
  codeAny (model P w) A (.call (.ref f) ⟨us,[]⟩) (fun r s'=>match r with |.ok (.ret u)=>L2.CE outer P w H s Q u s' |_=>False) s:=by
 obtain⟨oc,od,kV,doc,pm,an,cdv,ct,osl,rfl,lk,hcd⟩:=F.ex;have KX:K.In s.heap:=e0.mod.kin.keeps fun b o e=>(e0.bs b o e).1;have lim:s.heap.NoLimit:=e0.mod.nolimit.keeps fun b o e=>(e0.bs b o e).1
 have hkind:∀y ∈ ps.zip us,(ai st).names.lookup y.1=some .local\/((ai st).names.lookup y.1=some .cell/\((W1 (s.heap.objs.size+1) (ai st).names []).lookup y.1).isSome=true):=fun⟨n,v⟩ hy=>by
  rcases S.par n (Yu hy).1 with q |q
  ·exact .inl q
  ·exact .inr ⟨q,Ww _ _ _ (.inl q)⟩
 refine W3 hd (KX _ _ lk) rfl S.co S.gen rfl (Wz KX hcd) (hb _ _ _ _ ?_);refine VU S.kind hkind fun env he s1 x=>?_;subst he;refine⟨lim.keeps x.toInCall.keep,codeAny_func ?_⟩;obtain⟨t,ht,hq⟩:=hbody cdv;have e1:Env0 P w K mg base { A with handled:=none } outer s H:=⟨e0.frames,e0.mod,e0.bs,e0.bsz,e0.funs,e0.frf,e0.hok,e0.bare⟩;have I0:L2.Inv (jF CX0 P w K mg base N qual (ai st) f cdv { A with handled:=none } outer s H E0) [] (cK N vs) H s1:=jW S rfl e1 hl r x
 have I:L2.Inv (cxM P w K mg base N qual (ai st) f cdv A outer s H) [] (cK N vs) H s1:=
  ⟨⟨I0.ok.mod,I0.ok.kind,I0.ok.glob,I0.ok.blt,I0.ok.above,I0.ok.inj,I0.ok.has,I0.ok.cab,fun z=>(nomatch z),I0.ok.frames,I0.ok.stk,I0.ok.exf,I0.ok.bs,I0.ok.bsz,I0.ok.noex,I0.ok.exfs,I0.ok.funs,I0.ok.frf⟩,I0.os,I0.bare,I0.base,I0.loc,I0.cell,I0.free,I0.freeC,I0.pin,I0.hok,I0.len⟩
 refine VT (ht [] s1 (cK N vs) H _ I hq) (fun fl s' hs=>?_) fun e s' hs=>hs.elim
 have fin:∀ {σ':L2.St} {H':Hp} {v:V} {u:Value},L2.Inv (cxM P w K mg base N qual (ai st) f cdv A outer s H) [] σ' H' s'->av v u->Q v H'->L2.CE outer P w H s Q u s':=
  fun {σ' H' v u} J rv q=>⟨v,H',J.os,J.bare,J.base,J.hok,rv,q⟩
 cases fl with
 |ret u=>
  obtain⟨v,σ',H',J,rv,q⟩:=hs;exact fin J rv q
 |next=>
  obtain⟨σ',H',J,q⟩:=hs;exact fin (v:=V.non) (u:=Value.none) J rfl q
 |brk=>
  obtain⟨_,_,_,q⟩:=hs;exact False.elim q
 |cont=>
  obtain⟨_,_,_,q⟩:=hs;exact False.elim q
end
noncomputable def dP:List Str:=["NoMeadow", "NoSky", "NoLandings", "NoOrder", "NoLot", "NoText", "NoName", "NoGlider", "NoMinute", "NoAim", "TooMany", "Bound", "NoDeed", "NoRow", "NoWay"]
noncomputable def ny:List Str:=["meadow", "sky", "landings", "order", "lot", "text", "name", "glider", "minute", "aim", "many", "bound", "deed", "row", "way"]
structure XInf(K:Wu)(mg:Str->Option Value)(R:Addr)(Ds:List Addr):Prop where
 ring:mg "RingError" = some (.ref R)
 ve:mg "ValueError" = none
 isi:mg "isinstance" = none
 hR:∀h,K.In h->a8 h R bmV
 hC:∀h,K.In h->∀ (i:Nat) C,Ds[i]?=some C->i < 14->a8 h C (.ref R::bmV)
 hT:∀h,K.In h->∀D ∈ Ds,kh h D
 nd:Ds.Nodup
 nr:∀D ∈ Ds,D ≠ R
 nm:∀ (i:Nat) x,dP[i]?=some x->∃D,Ds[i]?=some D/\mg x=some (.ref D)
 len:Ds.length=15
section
variable {X:Cx} {R:Addr}
theorem qK:∀ {xs:List Str} {Ds:List Addr},xs.length=Ds.length->(∀ (i:Nat) x,xs[i]?=some x->∃D,Ds[i]?=some D/\X.mg x=some (.ref D))->(∀D ∈ Ds,kh X.base D/\D ≠ R)->Cls2 X R xs Ds
 |[],[],_,_,_=>.nil
 |x::xs,D::Ds,hl,h,g=>by
  obtain⟨D',e,hm⟩:=h 0 x rfl;cases e;exact .cons hm (g D Zf).1 (g D Zf).2 (qK (by simpa using hl) (fun i y hy=>h (i+1) y (by simpa using hy)) fun D hD=>g D (Zd _ hD))
theorem gN{n:Nat}{xs:List Str}{Ds:List Addr}(h:Cls2 X R xs Ds):Cls2 X R (xs.take n) (Ds.take n):=by
 induction h generalizing n with
 |nil=>rw[Xs,Xs];exact .nil
 |cons a b c _ ih=>cases n with
  |zero=>exact .nil
  |succ n=>exact .cons a b c ih
theorem gO{n:Nat}{xs:List Str}{Ds:List Addr}(h:Cls2 X R xs Ds):Cls2 X R (xs.drop n) (Ds.drop n):=by
 induction h generalizing n with
 |nil=>rw[Xu,Xu];exact .nil
 |cons a b c d ih=>cases n with
  |zero=>exact .cons a b c d
  |succ n=>exact ih
end
theorem noE{P:Program}{w:World}{l:List Env}{H H':Hp}{s s':Shared}{B:Heap}{e:Addr}(x:XLeft P w l H H' s B s')(f:B.get? e=none):H' e=none:=by
 cases q:H' e with
 |none=>rfl
 |some o=>obtain⟨z,q2⟩:=ng (x.hok e o q);rw[f] at q2;cases q2
section
variable {X:Cx} {R:Addr} {Ds:List Addr} {k f fw:Nat} {fd fdw:X7} {ps psW NW:List Str} {sp:Sp} {xf xw n:Str} {stw:Stmt} {e:Expr} {es:List Expr} {t:TA} {p pos rp np wp p2 p3 p4 hp tp:Pos} {i:Nat}
theorem zG(hst:X.stack=X.env::X.outer)(hfm:X.env.frame=some X.env.locals)(xi:XInf X.K X.mg R Ds)(F:FnOk X.prog X.w X.K X.mg X.base (CXE X.prog X.w) k f fd ps sp)(hr:Room k X.A)(hg:Gl X xf)(hm:X.mg xf=some (.ref f))(hk:WE X.K (.ref f)=true)(hb:dJ X.K fd ps [])(hA:PA X.nox (e::es) t)
  (he:Vr (e::es) X.env=(false,eval e X.env)::Vr es X.env) (hpl:(backTo pos (Vr es X.env)).any (·.1)=false) (hdb:(xf == ("__debug__" : Str))=false)
  (FW:Fun X.K xw xw stw fw fdw) (SW:FnScope NW psW (ai stw)) (bW:dJ X.K fdw psW []) (h1W:psW.length=1) (cW:o6 ⟨ai stw,none,NW⟩ dP ny (aX stw)=true) (hgW:Gl X xw) (hmW:X.mg xw=some (.ref fw)) (hdw:(xw == ("__debug__" : Str))=false)
  (hN:X.N.Nodup) (hi:X.N[i]?=some n) (hl:X.env.scope.names.lookup n=some .local) (hgr:Gl X "RingError") (hn1:(n == ("__debug__" : Str))=false) (hn2:(n == ("__classdict__" : Str))=false) :
  PS X (.Try [.Return (some (.Call (.Name xf p) (e::es) [] pos)) rp] [.ExceptHandler (some (.Name "RingError" np)) (some n) [.Return (some (.Call (.Name xw wp) [.Name n p2] [] p3)) p4] hp] [] [] tp)
   (fun D σ H=>t σ H fun vs H1=>sp vs H1 D.rt fun c _ H2=>∃j C w,c = .ref C/\Ds[j]?=some C/\j < 14/\ny[j]?=some w/\∀H3,gM H2 H3->D.rt (.str w) H3):=by
 intro pins s σ H D I h;refine wpAny_Try_except ?_;refine VJ (VC (VB (eM I hg hm ?_ hdb)));refine Wv (h₀:=X.base) I.ok.mod.kin hk (VT (hA pos pins s σ H _ (I.wish _) h) (fun us s1 ⟨vs,H1,I1,r,q⟩=>⟨I1.unwish.kIn,?_⟩) fun _ _ z=>z.elim) he hpl;have I1:L2.Inv X pins σ H1 s1:=I1.unwish;have hlen:us.length=ps.length:=by rw[<-r.length];exact F.len _ _ _ _ q
 have hb':=hb s1 us I1.kIn (by rw[ZS];exact hlen);rw[ZS] at hb';refine wpAny_call (W4 (F.run X.A X.stack s1 H1 ⟨us,[]⟩ us vs _ _ hr I1.env0 hb' r q) fun r s' hq=>?_);cases r with
 |ok fl=>
  cases fl with
  |ret u=>
   obtain⟨v,H',I',rv,z⟩:=I1.after hq;exact⟨v,σ,H',I',rv,z⟩
  |next=>exact False.elim hq
  |brk=>exact False.elim hq
  |cont=>exact False.elim hq
 |error ev=>
  obtain⟨a,c,a0,H',B,rfl,fl,x,j,C,w,rfl,hj,hj14,hw,q⟩:=hq;have hC:=xi.hC _ I.ok.mod.kin j C hj hj14;have hR:=xi.hR _ I.ok.mod.kin;have hH':=noE x fl.2.1;refine zt hst hfm I1 fl x hC hR hgr xi.ring (by decide) hN hi hl fun s6 I6=>?_;refine VJ (VC (VB (eM (X:=Cx.mk X a) I6 hgW hmW ?_ hdw)));have hiσ:i < σ.length:=by rw[I.len];exact(Za.mp hi).1
  refine Wv (h₀:=X.base) I.ok.mod.kin FW.kp (VT ((bf (X:=Cx.mk X a) (nR (i:=i) hi (.inl hl) hn1 hn2) rfl) p3 pins s6 _ _ (fun vs H7=>vs=[.ref a]/\H7=upd H' a (exO a C)) I6 ⟨_,ZC hiσ,rfl,rfl⟩) (fun us s7 ⟨vs,H7,I7,r,hvs,hH7⟩=>⟨I7.kIn,?_⟩) fun _ _ z=>z.elim) rfl rfl;subst hvs hH7;have hlW:us.length=psW.length:=by rw[<-r.length,h1W];rfl
  have hbW:=bW s7 us I7.kIn (by rw[ZS];exact hlW);rw[ZS] at hbW;have hdep:X.A.depth < recursionLimit:=hr.depth;refine wpAny_call (W4 (v0 (Q:=fun v H8=>v = .str w/\gM (upd H' a (exO a C)) H8) FW SW hdep I7.env0 hbW r (by rw[h1W];rfl) fun cdv=>?_) fun r s8 hq=>?_)
  ·have c2:Cls2 (cxM X.prog X.w X.K X.mg X.base NW xw (ai stw) fw cdv (Cx.mk X a).A X.stack s7 (upd H' a (exO a C))) R dP Ds:=qK (by rw[xi.len];rfl) xi.nm fun D hD=>⟨xi.hT _ I.ok.mod.kin D hD,xi.nr D hD⟩;refine⟨_,zF (X:=cxM X.prog X.w X.K X.mg X.base NW xw (ai stw) fw cdv (Cx.mk X a).A X.stack s7 (upd H' a (exO a C))) (b:=⟨ai stw,none,NW⟩) (a:=a) (C:=C) (qI SW.kind) rfl rfl rfl xi.isi xi.ve hC hR (gN c2) (gN (gO c2)) (gN (gO c2)) (gO c2) (by rw[xi.len];decide) (by decide) xi.nd hj hw cW,⟨?_,?_,ao⟩,fun H2 x2=>⟨rfl,x2⟩⟩
   ·unfold o6 at cW;have:=(an4 cW).2.1;have hl3:NW.length=3:=by simpa using this
    unfold L2.cK;rw[Zh,Yq,Zc,hl3];rfl
   ·rfl
  ·cases r with
   |ok fl=>
    cases fl with
    |ret u=>
     obtain⟨v,H8,I8,rv,rfl,z⟩:=I7.after hq;exact⟨u,_,_,H8,rfl,I8,rv,q H8 ((gM.upd hH').trans z)⟩
    |next=>exact False.elim hq
    |brk=>exact False.elim hq
    |cont=>exact False.elim hq
   |error ev=>exact False.elim hq
end
inductive RS where
 |pl (s:CS) |ck (f:Nat) (es:List CE) |rz (c:CE) (i:Nat) |tr (f:Nat) (es:List CE)
inductive RR where
 |val (d:D) |exc (i:Nat)
structure DefE where
 x:Str
 st:Stmt
 N:List Str
 ps:List Str
 body:List CS
 rb:Option (List RS)
noncomputable def FU:Nat:=60
noncomputable def fu(ad:List DefE)(f:Nat):Nat:=match ad[f]? with
 |some d=>d.ps.length
 |none=>0
abbrev cT:=Nat->List D->Sto->Option (RR × Sto)
noncomputable def toC(g:cT):Calls:=fun f ds S=>match g f ds S with
 |some (.val d,S')=>some (d,S')
 |_=>none
noncomputable def zH(C:Calls)(ar:Nat->Nat)(d:DefE)(ds:List D)(S:Sto):Option (D × Sto):=
 match c7 C ar FU d.body (ds.map some++Zj (d.N.length - ds.length) none) S with
 |some (.rt v,_,S')=>some (v,S')
 |some (.nx,_,S')=>some (.non,S')
 |_=>none
noncomputable def xck(g:cT)(n f:Nat)(o:Option (List D × Sto))(k:RR->Sto->Option (RR × Sto)):Option (RR × Sto):=match o with
 | some (ds,S1)=>if ds.length=n then (match g f ds S1 with
  |some (r,S2)=>k r S2
  | none=>none) else none
 |none=>none
noncomputable def bO(g:cT)(ar:Nat->Nat):List RS->Rho->Sto->Option (RR × Sto)
 |[],_,S=>some (.val .non,S)
 | .pl s::r,ρ,S=>(match evS (toC g) ar 59 s ρ S with
  |some (.nx,ρ',S')=>bO g ar r ρ' S'
  |some (.rt v,_,S')=>some (.val v,S')
  | _=>none)
 | .ck f es::r,ρ,S=>xck g (ar f) f (evA (toC g) ar FU es ρ S) fun v S2=>(match v with
  |.val _=>bO g ar r ρ S2
  | .exc i=>some (.exc i,S2))
 | .rz c i::r,ρ,S=>(match evT (toC g) ar FU c ρ S with
  |some (true,S1)=>if i < 14 then some (.exc i,S1) else none
  |some (false,S1)=>bO g ar r ρ S1
  | none=>none)
 | .tr f es::_,ρ,S=>xck g (ar f) f (evA (toC g) ar FU es ρ S) fun v S2=>(match v with
  |.val d=>some (.val d,S2)
  | .exc i=>if i < 14 then (ny[i]?).map fun w=>(.val (.str w),S2) else none)
noncomputable def evX(ad:List DefE):Nat->cT
 |0=>fun _ _ _=>none
 |k+1=>fun f ds S=>match ad[f]? with
  | some d=>(match d.rb with
   |none=>(zH (toC (evX ad k)) (fu ad) d ds S).map fun r=>(.val r.1,r.2)
   | some rs=>bO (evX ad k) (fu ad) rs (ds.map some++Zj (d.N.length - ds.length) none) S)
  |none=>none
noncomputable def evC(ad:List DefE)(k:Nat):Calls:=toC (evX ad k)
noncomputable def v5(N ps:List Str)(sc:Scope):Bool:=sc.kind == .function && sc.isCoroutine == false && sc.isGenerator == false && fF N && N.take ps.length == ps && (ps.all fun x=>sc.names.lookup x == some .local || sc.names.lookup x == some .cell) && sc.names.all fun y=>y.2 != .free
theorem qL{N ps:List Str}{sc:Scope}(h:v5 N ps sc=true):FnScope N ps sc:=by
 unfold v5 at h;simp only[bAE,Zk] at h;obtain⟨⟨⟨⟨⟨⟨h1,h2⟩,h3⟩,h4⟩,h5⟩,h6⟩,h7⟩:=h;refine⟨by simpa using h1,by simpa using h2,by simpa using h3,dW h4,by simpa using h5,fun x hx=>?_,fun y hy=>by simpa using h7 y hy⟩;have:=h6 x hx
 simpa using this
noncomputable def v7(e:Stmt)(k:Option Expr->Option Expr->Pos->Bool):Bool:=if h:e.ctorIdx=16 then @Stmt.Raise.elim (fun _=>Bool) e h k else false
theorem v8{e:Stmt}{k:Option Expr->Option Expr->Pos->Bool}(h:v7 e k=true):∃x0 x1 x2,e = .Raise x0 x1 x2/\k x0 x1 x2=true:=by
 obtain⟨h1,h⟩:=bv h;exact Stmt.Raise.elim (motive_2:=fun e=>∀h',@Stmt.Raise.elim (fun _=>Bool) e h' k=true->∃x0 x1 x2,e = .Raise x0 x1 x2/\k x0 x1 x2=true) e h1 (fun x0 x1 x2 _ hh=>⟨x0,x1,x2,rfl,hh⟩) h1 h
noncomputable def Io(e:Stmt)(k:List Stmt->List ExceptHandler->List Stmt->List Stmt->Pos->Bool):Bool:=if h:e.ctorIdx=17 then @Stmt.Try.elim (fun _=>Bool) e h k else false
theorem Eb{e:Stmt}{k:List Stmt->List ExceptHandler->List Stmt->List Stmt->Pos->Bool}(h:Io e k=true):∃x0 x1 x2 x3 x4,e = .Try x0 x1 x2 x3 x4/\k x0 x1 x2 x3 x4=true:=by
 obtain⟨h1,h⟩:=bv h;exact Stmt.Try.elim (motive_2:=fun e=>∀h',@Stmt.Try.elim (fun _=>Bool) e h' k=true->∃x0 x1 x2 x3 x4,e = .Try x0 x1 x2 x3 x4/\k x0 x1 x2 x3 x4=true) e h1 (fun x0 x1 x2 x3 x4 _ hh=>⟨x0,x1,x2,x3,x4,rfl,hh⟩) h1 h
noncomputable def B1(T:Tab)(b:Blk)(f:Nat)(es:List CE)(e:Expr):Bool:=vp (fun x=>oA T.fns[f]? (fun y=>y.1 == x) && b.glo x) (fun a=>ed T FU b a es) e
noncomputable def Kb(b:Blk)(i:Nat)(s:Stmt):Bool:=v7 s fun v c _=>c.isNone && oA v fun e=>sCN e fun x es ks=>l1 es fun a=>ks.isEmpty && dP[i]? == some x && b.glo x && cm a fun c _ _=>(match c with |.str _=>true |_=>false)
noncomputable def g8:Str := "_law_word"
noncomputable def Ip(b:Blk)(h:ExceptHandler):Bool:=match h with
 |.ExceptHandler t n body _=>(oA t fun e=>fB (fun x=>x == ("RingError" : Str) && b.glo x) e) && oA n fun n=>b.sc.names.lookup n == some .local && b.N.contains n && !(n == ("__debug__" : Str)) && !(n == ("__classdict__" : Str)) && l1 body fun s=>sJ (fun e=>sCN e fun x es ks=>l1 es fun a=>ks.isEmpty && x == g8 && b.glo x && fB (fun y=>y == n) a) s
noncomputable def Kc(k:Expr->Bool)(b:Blk)(s:Stmt):Bool:=Io s fun body hs o f _=>o.isEmpty && f.isEmpty && (l1 body fun r=>sJ k r) && l1 hs fun h=>Ip b h
noncomputable def nz(T:Tab)(b:Blk):List RS->List Stmt->Bool
 |[],ss=>ss.isEmpty
 |.pl c::rs,ss=>lC ss fun s ss=>D5 T 59 b s c && nz T b rs ss
 |.ck f es::rs,ss=>lC ss fun s ss=>zEx (B1 T b f es) s && nz T b rs ss
 |.rz c i::rs,ss=>lC ss fun s ss=>zIf (fun e=>du T FU b e c) (fun p=>l1 p fun s=>Kb b i s) (fun q=>q.isEmpty) s && nz T b rs ss
 |.tr f es::rs,ss=>l1 ss fun s=>Kc (B1 T b f es) b s
noncomputable def v9(T:Tab)(d:DefE):Bool:=v5 d.N d.ps (ai d.st) && (match d.rb with
 |none=>jo T FU ⟨ai d.st,none,d.N⟩ (aX d.st) d.body
 | some rs=>nz T ⟨ai d.st,none,d.N⟩ rs (aX d.st))
noncomputable def ko(con:List (Str × Int))(ad:List DefE):Tab:=⟨con,ad.map fun d=>(d.x,d.ps.length)⟩
noncomputable def qM(d:DefE):Bool:=d.x == g8 && d.ps.length == 1 && o6 ⟨ai d.st,none,d.N⟩ dP ny (aX d.st)
structure TextOk(K:Wu)(mg:Str->Option Value)(con:List (Str × Int))(ad:List DefE):Prop where
 con:∀ (i:Nat) (x:Str) (v:Int),con[i]?=some (x,v)->∃tk,mg x=some (.int v tk)
 bl:∀x,x ∈ d8->mg x=none
 fn:∀ (i:Nat) (d:DefE),ad[i]?=some d->∃f fd,mg d.x=some (.ref f)/\WE K (.ref f)=true/\dJ K fd d.ps []/\Fun K d.x d.x d.st f fd
 xs:∃R Ds,XInf K mg R Ds
def spX(K:Wu)(Ds:List Addr)(g:List D->Sto->Option (RR × Sto))(n:Nat):Sp:=fun vs H Q E=>∃m ds S r S',VDs K m H ds vs/\Rel K m S H/\ds.length=n/\g ds S=some (r,S')/\∀m' H',Aft K m H S' m' H'->(match r with
 |.val d=>∀v,VD K m' H' d v->Q v H'
 | .exc i=>∃C,Ds[i]?=some C/\i < 14/\E (.ref C) none H')
theorem wa{K:Wu}{Ds:List Addr}{g:cT}{f n:Nat}{vs:List V}{H:Hp}{Q:VK}{E:XK}(h:spC K (toC g f) n vs H Q E):spX K Ds (g f) n vs H Q E:=by
 obtain⟨m,ds,S,d,S',vd,R,hl,e,q⟩:=h;unfold toC at e;split at e
 ·rename_i d' S2 hg;cases e;exact⟨m,ds,S,.val d,S',vd,R,hl,hg,fun m' H' A v vv=>q m' H' v A vv⟩
 ·cases e
section
variable {P:Program} {w:World} {K:Wu} {mg:Str->Option Value} {base:Heap} {con:List (Str × Int)} {ad:List DefE}
theorem kq{m:List Addr}{H:Hp}{N:List Str}{ds:List D}{vs:List V}(vd:VDs K m H ds vs):EnvR K m H (ds.map some++Zj (N.length - ds.length) none) (L2.cK N vs):=by
 have hl:=vd.length;unfold L2.cK;refine⟨by simp[hl],fun i d e=>?_⟩;by_cases hi:i < ds.length
 ·rw[Zo (by simpa using hi),Zt] at e;cases h:ds[i]? with
  |none=>rw[h] at e;cases e
  |some d'=>
   rw[h] at e;cases e;obtain⟨v,hv,vv⟩:=vd.get h;exact⟨v,by rw[Zo (by simp;omega),Zt,hv];rfl,vv⟩
 ·rw[Zg (by simpa using hi),Ye] at e;split at e <;> cases e
def tRs(K:Wu)(Ds:List Addr)(E:XK)(g:cT)(ar:Nat->Nat)(rs:List RS):TS:=fun D σ H=>(∀σ H,D.rt .non H->D.nx σ H)/\∃m ρ S r S',EnvR K m H ρ σ/\Rel K m S H/\bO g ar rs ρ S=some (r,S')/\∀m' H',Aft K m H S' m' H'->(match r with
 |.val d=>∀v,VD K m' H' d v->D.rt v H'
 | .exc i=>∃C,Ds[i]?=some C/\i < 14/\E (.ref C) none H')
theorem nA{g:cT}{n f:Nat}{o:Option (List D × Sto)}{k:RR->Sto->Option (RR × Sto)}{z:RR × Sto}(h:xck g n f o k=some z):∃ds S1 v S2,o=some (ds,S1)/\ds.length=n/\g f ds S1=some (v,S2)/\k v S2=some z:=by
 cases o with
 |none=>cases h
 |some p=>
  obtain⟨ds,S1⟩:=p;unfold xck at h;dsimp only at h;split at h
  ·rename_i hl;cases hg:g f ds S1 with
   |none=>rw[hg] at h;cases h
   |some p=>obtain⟨v,S2⟩:=p;rw[hg] at h;exact⟨ds,S1,v,S2,rfl,hl,hg,h⟩
  ·cases h
theorem zI{m m2:List Addr}{H H2 H3:Hp}{S2:Sto}(A:Aft K m H S2 m2 H2)(x:gM H2 H3):Aft K m H S2 m2 H3:=by
 have E:Ext m2 H2 m2 H3:=⟨Z1 _,fun a o h _=>x a o h,fun _ h n=>absurd h n⟩
 exact A.trans ⟨E,A.rel.ext_keep E fun b hb=>by
  obtain⟨o,_,ho,_⟩:=A.rel.ex hb;rw[ho];exact x b o ho⟩
structure RCx(T:Tab)(g:cT)(ar:Nat->Nat)(k:Nat)(b:Blk)(X:Cx)(E:XK)(R:Addr)(Ds:List Addr):Prop where
 G:CtxOk T (toC g) ar k b X.nox
 xi:XInf X.K X.mg R Ds
 kin:X.K.In X.base
 fns:∀ (i:Nat) (y:Str × Nat),T.fns[i]?=some y->∃f fd ps,X.mg y.1=some (.ref f)/\WE X.K (.ref f)=true/\dJ X.K fd ps []/\FnOk X.prog X.w X.K X.mg X.base (CXE X.prog X.w) k f fd ps (spX X.K Ds (g i) (ar i))
 pass:iG (CXE X.prog X.w) X E
 made:∀pins σ H s h1 e c args,L2.Inv X pins σ H s->Heap.MadeExcOf s.heap h1 e c args->E c none H->X.xe (.ref e) { s with heap:=h1 }
 stk:X.stack=X.env::X.outer
 frm:X.env.frame=some X.env.locals
 kind:X.env.scope.kind = .function
 word:∃fw fdw psW NW stw,X.mg g8=some (.ref fw)/\Fun X.K g8 g8 stw fw fdw/\FnScope NW psW (ai stw)/\dJ X.K fdw psW []/\psW.length=1/\o6 ⟨ai stw,none,NW⟩ dP ny (aX stw)=true
theorem nB{T:Tab}{g:cT}{ar:Nat->Nat}{k:Nat}{b:Blk}{X:Cx}{E:XK}{R:Addr}{Ds:List Addr}(rc:RCx T g ar k b X E R Ds):∀ (rs:List RS) (ss:List Stmt),nz T b rs ss=true->PSs X ss (tRs X.K Ds E g ar rs)
 |[],ss,h=>by
  rw[bS h];refine PSs.imp fR fun D σ H ⟨hD,m,ρ,S,r,S',Ev,Rl,e,q⟩=>?_;cases e;exact hD σ H (q m H (Aft.refl Rl) _ lg)
 |.pl c::rs,ss,h=>by
  obtain⟨s,ss,rfl,h⟩:=bN h;obtain⟨h1,h2⟩:=an2 h;refine PSs.imp (bt (Ea ((D7 59).s b X.nox s c rc.G rc.kind h1)) (nB rc rs ss h2)) fun D σ H ⟨hD,m,ρ,S,r,S',Ev,Rl,e,q⟩=>?_;simp only[bO] at e;split at e
  ·rename_i ρ1 S1 hs;exact⟨m,ρ,S,.nx,ρ1,S1,Ev,Rl,hs,fun m1 H1 A1 σ1 E1=>⟨hD,m1,ρ1,S1,r,S',E1,A1.rel,e,fun m2 H2 A2=>q m2 H2 (A1.trans A2)⟩⟩
  ·rename_i v ρ1 S1 hs;cases e;exact⟨m,ρ,S,_,_,_,Ev,Rl,hs,fun m1 H1 A1 u vu=>q m1 H1 A1 u vu⟩
  ·cases e
 |.ck f es::rs,ss,h=>by
  obtain⟨s,ss,rfl,h⟩:=bN h;obtain⟨h1,h2⟩:=an2 h;obtain⟨v,p,rfl,h3,h4⟩:=B0 h1;obtain⟨x,e,as,p',p'',rfl,h12,h5⟩:=lO h3;obtain⟨h6,h7⟩:=an2 h12;obtain⟨y,hy,h6⟩:=jP h6;have hx:=iu h6;subst hx;obtain⟨fa,fd,ps,hm,hk,hb,F⟩:=rc.fns f y hy;have hpl:=bw h5;have gl:=rc.G.gl h7;refine PSs.imp (bt (pP (pU F rc.G.room gl.1 hm hk hb .nil rc.pass (D9 ((snd FU).a b X.nox _ es rc.G h5)) gl.2 (af (hpl e Zf)) (cn fun e he=>hpl e (Zd _ he))) (nv h4)) (nB rc rs ss h2)) fun D σ H ⟨hD,m,ρ,S,r,S',Ev,Rl,e,q⟩=>?_;simp only[bO] at e;obtain⟨ds,S1,v,S2,e1,hl,eg,e⟩:=nA e;refine⟨m,ρ,S,ds,S1,Ev,Rl,e1,fun m1 H1 vs A1 vd=>⟨m1,ds,S1,v,S2,by rw[ZS];exact vd,A1.rel,hl,eg,fun m2 H2 A2=>?_⟩⟩;cases v with
  |val d=>exact fun u _=>⟨hD,m2,ρ,S2,r,S',Ev.mono Rl (A1.trans A2).ext,A2.rel,e,fun m3 H3 A3=>q m3 H3 ((A1.trans A2).trans A3)⟩
  |exc i=>cases e;exact q m2 H2 (A1.trans A2)
 |.rz c i::rs,ss,h=>by
  obtain⟨s,ss,rfl,h⟩:=bN h;obtain⟨h1,h2⟩:=an2 h;obtain⟨t,p,q,r,rfl,h3,h4,h5⟩:=vT h1;obtain⟨s1,rfl,h4⟩:=cw h4;rw[bS h5];obtain⟨v,cs,pos,rfl,h6⟩:=v8 h4;obtain⟨h7,h6⟩:=an2 h6;cases cs with
  |some _=>cases h7
  |none=>
  obtain⟨e1,rfl,h6⟩:=jP h6;obtain⟨x,p1,es,ks,p2,rfl,h6⟩:=kd h6;obtain⟨a,rfl,h6⟩:=cw h6;obtain⟨h8,h9,h10,h11⟩:=an4 h6;obtain⟨c0,j,p3,rfl,h11⟩:=b9 h11;cases bS h8;have hx:dP[i]?=some x:=by simpa using h9
  obtain⟨C,hC,hm⟩:=rc.xi.nm i x hx;cases c0 with
  |str z=>
   have gl:=rc.G.gl h10;by_cases h14:i < 14
   ·refine PSs.imp (bt (pQ (PT.nox ((snd FU).t b X.nox t c rc.G h3)) (fS (vF (E:=E) (v:=.str z) (fun pins σ H s h1 e args I mk hE=>rc.made pins σ H s h1 e _ args I mk hE) rc.G.calm gl.1 hm (rc.xi.hC _ rc.kin i C hC h14) (rc.xi.hR _ rc.kin) (bf kH rfl) rfl gl.2)) fR) (nB rc rs ss h2)) fun D σ H ⟨hD,m,ρ,S,r,S',Ev,Rl,e,q⟩=>?_;simp only[bO] at e;split at e
    ·rename_i S1 ht;rw[if_pos h14] at e;cases e;refine⟨m,ρ,S,true,_,Ev,Rl,ht,fun m1 H1 A1=>?_⟩;dsimp only;rw[if_pos rfl];obtain⟨C',hC',_,z⟩:=q m1 H1 A1;rw[hC] at hC';cases hC';exact z
    ·rename_i S1 ht;refine⟨m,ρ,S,false,_,Ev,Rl,ht,fun m1 H1 A1=>?_⟩;dsimp only;rw[if_neg Zb];exact⟨hD,m1,ρ,S1,r,S',Ev.mono Rl A1.ext,A1.rel,e,fun m2 H2 A2=>q m2 H2 (A1.trans A2)⟩
    ·cases e
   ·refine PSs.imp (bt (pQ (PT.nox ((snd FU).t b X.nox t c rc.G h3)) (fS mq) fR) (nB rc rs ss h2)) fun D σ H ⟨hD,m,ρ,S,r,S',Ev,Rl,e,q⟩=>?_;simp only[bO] at e;split at e
    ·rename_i S1 ht;rw[if_neg h14] at e;cases e
    ·rename_i S1 ht;refine⟨m,ρ,S,false,_,Ev,Rl,ht,fun m1 H1 A1=>?_⟩;dsimp only;rw[if_neg Zb];exact⟨hD,m1,ρ,S1,r,S',Ev.mono Rl A1.ext,A1.rel,e,fun m2 H2 A2=>q m2 H2 (A1.trans A2)⟩
    ·cases e
  |_=>cases h11
 |.tr f es::rs,ss,h=>by
  obtain⟨s,rfl,c0⟩:=cw h;obtain⟨body,hs,o,fi,tp,rfl,c1⟩:=Eb c0;obtain⟨h1,h2,h3,h4⟩:=an4 c1;obtain⟨r0,rfl,c2⟩:=cw h3;obtain⟨v,rp,rfl,c3⟩:=jn c2;obtain⟨hd,rfl,c4⟩:=cw h4;cases bS h1;cases bS h2;obtain⟨x,e,as,p',p'',rfl,h12,h5⟩:=lO c3;obtain⟨h6,h7⟩:=an2 h12;obtain⟨y,hy,h8⟩:=jP h6;have hx:=iu h8;subst hx;obtain⟨fa,fd,ps,hm,hk,hb,F⟩:=rc.fns f y hy;have hpl:=bw h5;have gl:=rc.G.gl h7;obtain⟨ty,nm,hbody,hp⟩:=hd;unfold Ip at c4;obtain⟨k1,k2⟩:=an2 c4;obtain⟨e1,rfl,k3⟩:=jP k1;obtain⟨rn,np,rfl,k4⟩:=ci k3;obtain⟨k5,k6⟩:=an2 k4;cases eq_of_beq k5;obtain⟨n,rfl,k7⟩:=jP k2;obtain⟨l5,l6,l7,l8,l9⟩:=an5 k7;obtain⟨s0,rfl,l10⟩:=cw l9;obtain⟨v2,rp2,rfl,l11⟩:=jn l10;obtain⟨xw,wp,es2,ks,p3,rfl,l12⟩:=kd l11;obtain⟨a,rfl,l13⟩:=cw l12;obtain⟨k10,k11,k12,k13⟩:=an4 l13;cases bS k10;cases eq_of_beq k11;obtain⟨n2,p2,rfl,k14⟩:=ci k13;cases eq_of_beq k14;obtain⟨i,hi⟩:=Yl (YV.mp l6);obtain⟨fw,fdw,psW,NW,stw,w1,w2,w3,w4,w5,w6⟩:=rc.word;refine PSs.imp (fS (zG (i:=i) rc.stk rc.frm rc.xi F rc.G.room gl.1 hm hk hb ((snd FU).a b X.nox _ es rc.G h5) (af (hpl e Zf)) (cn fun e he=>hpl e (Zd _ he)) gl.2 w2 w3 w4 w5 w6 (rc.G.gl k12).1 w1 (rc.G.gl k12).2 (by rw[show X.N=b.N from rc.G.hN];exact rc.G.nd) (by rw[show X.N=b.N from rc.G.hN];exact hi) (by rw[show X.env.scope=b.sc from rc.G.hs];simpa using l5) (rc.G.gl k6).1 (by simpa using l7) (by simpa using l8))) fun D σ H ⟨hD,m,ρ,S,r,S',Ev,Rl,e,q⟩=>?_;simp only[bO] at e;obtain⟨ds,S1,v,S2,e1,hl,eg,e⟩:=nA e;refine⟨m,ρ,S,ds,S1,Ev,Rl,e1,fun m1 H1 vs A1 vd=>⟨m1,ds,S1,v,S2,vd,A1.rel,hl,eg,fun m2 H2 A2=>?_⟩⟩;cases v with
  |val d=>cases e;exact fun u vu=>q m2 H2 (A1.trans A2) u vu
  |exc j=>
   dsimp only at e;split at e
   ·rename_i h14;cases hw:ny[j]? with
    |none=>rw[hw] at e;cases e
    |some w=>
     rw[hw] at e;cases e;have hj:j < Ds.length:=by rw[rc.xi.len];omega
     exact⟨Ds[j],gEG hj,h14,j,Ds[j],w,rfl,gEG hj,h14,hw,fun H3 x3=>q m2 H3 (zI (A1.trans A2) x3) _ iW⟩
   ·cases e
theorem zJ{f:Addr}{fd:X7}{ps:List Str}{i n:Nat}{Ds:List Addr}:FnOk P w K mg base (CXE P w) 0 f fd ps (spX K Ds (evX ad 0 i) n):=
 ⟨fun vs H Q E h=>(by obtain⟨m,ds,S,d,S',_,_,_,e,_⟩:=h;cases e),fun A outer s H args us vs Q E _ _ _ _ h=>(by obtain⟨m,ds,S,d,S',_,_,_,e,_⟩:=h;cases e)⟩
theorem qN{R:Addr}{Ds:List Addr}(T:TextOk K mg con ad)(xi:XInf K mg R Ds)(kin:K.In base)(hc:ad.all (v9 (ko con ad))=true)(hw:ad.any qM=true):∀ (k i:Nat) (d:DefE),ad[i]?=some d->∀f fd,mg d.x=some (.ref f)->Fun K d.x d.x d.st f fd->FnOk P w K mg base (CXE P w) k f fd d.ps (spX K Ds (evX ad k i) d.ps.length)
 |0,i,d,_,f,fd,_,_=>zJ
 |k+1,i,d,hd,f,fd,hm,F=>by
  have ih:=qN T xi kin hc hw k;have ck:=Zk.mp hc d (Zp hd);unfold v9 at ck;rw[bAE] at ck;have S:=qL ck.1
  have word:∃fw fdw psW NW stw,mg g8=some (.ref fw)/\Fun K g8 g8 stw fw fdw/\FnScope NW psW (ai stw)/\dJ K fdw psW []/\psW.length=1/\o6 ⟨ai stw,none,NW⟩ dP ny (aX stw)=true:=by
   obtain⟨dw,hmem,hq⟩:=YL.mp hw;obtain⟨j,hj⟩:=Yl hmem;unfold qM at hq;obtain⟨q1,q2,q3⟩:=an3 hq;obtain⟨fw,fdw,m1,m2,m3,m4⟩:=T.fn j dw hj;have ck2:=Zk.mp hc dw hmem;unfold v9 at ck2;rw[bAE] at ck2;rw[<-eq_of_beq q1];exact⟨fw,fdw,dw.ps,dw.N,dw.st,m1,m4,qL ck2.1,m3,by simpa using q2,q3⟩
  obtain⟨oc,od,kV,doc,pm,an,cdv,ct,osl,rfl,lk,hcd⟩:=F.ex;refine Ha lk hcd S (fun vs H Q E h=>?_) fun A outer s H vs Q E hr h=>?_
  ·obtain⟨m,ds,S,d',S',vd,_,hl,_⟩:=h;rw[<-vd.length,hl]
  ·have FX:∀ (j:Nat) (y:Str × Nat),(ko con ad).fns[j]?=some y->fu ad j=y.2/\∃f fd ps,mg y.1=some (.ref f)/\WE K (.ref f)=true/\dJ K fd ps []/\FnOk P w K mg base (CXE P w) k f fd ps (spX K Ds (evX ad k j) (fu ad j)):=fun j y hy=>by
    have hy':(ad.map fun d=>(d.x,d.ps.length))[j]?=some y:=hy;rw[Zt] at hy';cases hj:ad[j]? with
    |none=>rw[hj] at hy';cases hy'
    |some e=>
     rw[hj] at hy';cases hy';have ha:fu ad j=e.ps.length:=by unfold fu;rw[hj]
     obtain⟨f',fd',m',k',b',F'⟩:=T.fn j e hj;refine⟨ha,f',fd',e.ps,m',k',b',?_⟩;rw[ha];exact ih j e hj f' fd' m' F'
   have G:CtxOk (ko con ad) (toC (evX ad k)) (fu ad) k ⟨ai d.st,none,d.N⟩ (jF (CXE P w) P w K mg base d.N d.x (ai d.st) f cdv A outer s H E).nox:=by
    refine⟨rfl,rfl,rfl,rfl,S.nd,fun _ _=>rfl,hr,T.con,T.bl,fun j y hy=>?_⟩;obtain⟨ha,f',fd',ps',m',k',b',F'⟩:=FX j y hy;exact⟨ha,f',fd',ps',m',k',b',F'.imp fun vs H Q E q=>wa q⟩
   obtain⟨m,ds,S0,r,S',vd,Rl,hl,e,q⟩:=h;simp only[evX,hd] at e;cases hrb:d.rb with
   |none=>
    rw[hrb] at e ck;dsimp only at e ck;refine⟨_,((D7 FU).ss _ _ (aX d.st) d.body G S.kind ck.2).nox,?_⟩;unfold zH at e;cases hx:c7 (toC (evX ad k)) (fu ad) FU d.body (ds.map some++Zj (d.N.length - ds.length) none) S0 with
    |none=>rw[hx] at e;cases e
    |some z=>
     obtain⟨fl,ρ',S1⟩:=z;rw[hx] at e;refine⟨m,_,S0,fl,ρ',S1,kq vd,Rl,hx,fun m' H' A'=>?_⟩;cases fl with
     |nx=>cases e;exact fun σ _=>q m' H' A' .non lg
     |rt v=>cases e;exact fun u vu=>q m' H' A' u vu
     |bk=>cases e
     |ct=>cases e
   |some rs=>
    rw[hrb] at e ck;dsimp only at e ck
    have rc:RCx (ko con ad) (evX ad k) (fu ad) k ⟨ai d.st,none,d.N⟩ (jF (CXE P w) P w K mg base d.N d.x (ai d.st) f cdv A outer s H E) E R Ds:=
     ⟨G,xi,kin,fun j y hy=>(FX j y hy).2,HL,fun pins σ H s h1 e c args I mk hE=>HM I mk hE,rfl,rfl,S.kind,word⟩
    exact⟨_,nB rc rs (aX d.st) ck.2,fun _ _ z=>z,m,_,S0,r,S',kq vd,Rl,e,q⟩
end
abbrev qO:=(Str × Str) × (Arguments × List Stmt) × (Scope × Addr) × (List (Str × Addr) × Value) × (Addr × Option Str)
noncomputable def B2(h:Heap):Value->Option Str
 | .ref c=>(match h.get? c with
  |some ⟨_,_,.fields vs,_⟩=>(match vs.toList with |_ :: .str n _::_=>some n |_=>none)
  | _=>none)
 |_=>none
noncomputable def Iq(h:Heap):Option Obj->Option qO
 |some ⟨_,_,.func ⟨nm,qn,ps,.stmts b,sc,gl,cl,dv,_,_,_,_,cd,_,bi⟩,_⟩=>some ((nm,qn),(ps,b),(sc,gl),(cl,dv),(bi,B2 h cd))
 |_=>none
noncomputable def zK(h:Heap)(x:Str):Option qO:=match h.nsMap Vd x with
 |some (.ref f)=>Iq h (h.get? f)
 |_=>none
noncomputable def qP(d:DefE):Option qO:=some ((d.x,d.x),(df d.st,aX d.st),(ai d.st,Vd),([],.none),(WY,some d.x))
noncomputable def Ir(h:Heap)(x:Str):Option Int:=match h.nsMap Vd x with
 |some (.int v _)=>some v
 |_=>none
noncomputable def adX(h:Heap)(x:Str):Addr:=match h.nsMap Vd x with
 |some (.ref C)=>C
 |_=>0
noncomputable def zL(h:Heap)(bm:List Value)(x:Str):Bool:=match h.nsMap Vd x with
 | some (.ref C)=>(match h.get? C with
  | some ⟨.type "type", _,.cls cd,sl⟩=>(match cd.mro,sl.toList with
   |.ref C'::bm',[_,_,_,_,some (.builtin n),_]=>C' == C && bm' == bm && n == "ValueError.__new__" && !cd.hasDel && h.isNs cd.ns && quN.all fun q=>(h.nsMap cd.ns q).isNone
   | _,_=>false)
  | _=>false)
 |_=>false
noncomputable def Ec(h:Heap)(x:Str):Bool:=match h.nsMap Vd x with
 | some (.ref C)=>(match h.get? C with
  |some ⟨.type "type", _,.cls _,_⟩=>true
  | _=>false)
 |_=>false
noncomputable def Ed:List Nat->Bool
 |[]=>true
 |a::l=>!(l.contains a) && Ed l
theorem qQ:∀ {l:List Nat},Ed l=true->l.Nodup
 |[],_=>Xo
 |a::l,h=>by
  obtain⟨h1,h2⟩:=an2 h;refine Z4.mpr ⟨fun hm=>?_,qQ h2⟩;rw[YV.mpr hm] at h1;cases h1
noncomputable def Ee(h:Heap):Bool:=zL h bmV "RingError" && (dP.take 14).all (zL h (.ref (adX h "RingError")::bmV)) && dP.all (Ec h) && Ed (adX h "RingError" :: dP.map (adX h)) && (h.nsMap Vd "ValueError").isNone
noncomputable def bQ(h:Heap)(x:Str):Wu:=match h.nsMap Vd x with
 | some (.ref C)=>(match h.get? C with
  | some ⟨c0,dd,.cls cd,sl⟩=>(C,⟨c0,dd,.cls cd,sl⟩)::(match h.get? cd.ns with
   |some ⟨c1,d1,.dict es ep,s1⟩=>[(cd.ns,⟨c1,d1,.dict es ep,s1⟩)]
   | _=>[])
  | _=>[])
 |_=>[]
abbrev wb:=Bool × List (Option qO) × List (Option Int) × List Bool × Bool
noncomputable def Ef(con:List (Str × Int))(ad:List DefE)(h:Heap):wb:=(h.isNs Vd,ad.map (fun d=>zK h d.x),con.map (fun c=>Ir h c.1),(d8.map fun x=>(h.nsMap Vd x).isNone),Ee h)
noncomputable def wc(con:List (Str × Int))(ad:List DefE):wb:=(true,ad.map qP,con.map (fun c=>some c.2),(d8.map fun _=>true),true)
def B3(d:DefE):Prop:=∀ (kV doc pm:Value) (an:Option Addr) (cdv ct:Value) (us:List Value),us.length=d.ps.length->bindArgs (WB d.x d.x (df d.st) (aX d.st) (ai d.st) .none kV doc pm an cdv ct) ⟨us,[]⟩=pure (d.ps.zip us)
def sO:List DefE->Prop
 |[]=>True
 |d::ds=>B3 d/\sO ds
theorem sO.at:∀ {ds:List DefE} {d:DefE},sO ds->d ∈ ds->B3 d
 |e::ds,d,h,hd=>by
  rcases Zq.mp hd with rfl |hd
  ·exact h.1
  ·exact sO.at h.2 hd
noncomputable def kr(h:Heap)(f:Addr):Wu:=match h.get? f with
 | some o=>(f,o)::(match o.data with
  | .func fd=>(match fd.code with
   |.ref c=>(match h.get? c with |some oc=>[(c,oc)] |none=>[])
   | _=>[])
  | _=>[])
 |none=>[]
noncomputable def cP(h:Heap)(d:DefE):Wu:=match h.nsMap Vd d.x with
 |some (.ref f)=>kr h f
 |_=>[]
def Iu(K:Wu):Prop:=∀a o,K.lookup a=some o->∀its n,o.data ≠ .seq its n
structure Says(con:List (Str × Int))(ad:List DefE)(h:Heap):Prop where
 ns:∃m,h.Ns Vd m
 frag:∃K:Wu,K.In h/\Iu K/\∀mg,h.Ns Vd mg->TextOk K mg con ad
theorem jq{K:Wu}{a:Addr}{o:Obj}(h:K.lookup a=some o):(a,o) ∈ K:=by
 induction K with
 |nil=>cases h
 |cons p K ih=>
  obtain⟨b,q⟩:=p;rw[ZI] at h;cases hb:a == b with
  |true=>
   rw[hb] at h;cases h;have:a=b:=by simpa using hb
   subst this;exact Zf
  |false=>rw[hb] at h;exact Zd _ (ih h)
theorem wd{K:Wu}{a:Addr}{o:Obj}(h:(a,o) ∈ K):∃o',K.lookup a=some o':=by
 induction K with
 |nil=>cases h
 |cons p K ih=>
  obtain⟨b,q⟩:=p;rw[ZI];cases hb:a == b with
  |true=>exact⟨_,rfl⟩
  |false=>
   rcases Zq.mp h with e |h
   ·cases e;simp at hb
   ·exact ih h
theorem we{h:Heap}{f a:Addr}{o:Obj}(e:(a,o) ∈ kr h f):h.get? a=some o:=by
 unfold kr at e;cases hf:h.get? f with
 |none=>rw[hf] at e;cases e
 |some of=>
  rw[hf] at e;dsimp only at e;rcases Zq.mp e with q |e
  ·cases q;exact hf
  ·split at e
   ·split at e
    ·rename_i c hc;cases hc':h.get? c with
     |none=>rw[hc'] at e;cases e
     |some oc=>
      rw[hc'] at e;dsimp only at e;rcases Zq.mp e with q |e
      ·cases q;exact hc'
      ·cases e
    ·cases e
   ·cases e
theorem Eg{h:Heap}{a:Addr}{mg:Str->Option Value}(N:h.Ns a mg):h.nsMap a=mg:=by
 obtain⟨o,es,ep,ho,hd,_,hm⟩:=N
 funext x
 unfold Heap.nsMap;rw[ho];dsimp only;rw[hd];exact hm x
theorem wg{h:Heap}{d:DefE}(e:zK h d.x=qP d):∃f oc od kV doc pm an c ct osl cc cd vs a t r cs,h.nsMap Vd d.x=some (.ref f)/\h.get? f=some ⟨oc,od,.func (WB d.x d.x (df d.st) (aX d.st) (ai d.st) .none kV doc pm an (.ref c) ct),osl⟩ ∧
  h.get? c=some ⟨cc,cd,.fields vs,cs⟩/\vs.toList=a :: .str d.x t::r:=by
 unfold zK qP at e;split at e
 ·rename_i f hf;unfold Iq at e;split at e
  ·rename_i oc od nm qn ps b sc gl cl dv kV doc pm an cdv ct bi osl hg;simp only[Option.some.injEq,Prod.mk.injEq] at e;obtain⟨⟨rfl,rfl⟩,⟨rfl,rfl⟩,⟨rfl,rfl⟩,⟨rfl,rfl⟩,rfl,e⟩:=e;unfold B2 at e;split at e
   ·rename_i c;split at e
    ·rename_i cc cd vs cs hc;split at e
     ·rename_i a n t r hv;cases e;exact⟨f,oc,od,kV,doc,pm,an,c,ct,osl,cc,cd,vs,a,t,r,cs,hf,hg,hc,hv⟩
     ·cases e
    ·cases e
   ·cases e
  ·cases e
 ·cases e
theorem nD{h:Heap}{x:Str}{a:Addr}{o:Obj}(e:(a,o) ∈ bQ h x):h.get? a=some o/\∀its n,o.data ≠ .seq its n:=by
 unfold bQ at e;split at e
 ·split at e
  ·rename_i C _ c0 dd cd sl hC;rcases Zq.mp e with q |e
   ·cases q;exact⟨hC,fun _ _ z=>nomatch z⟩
   ·split at e
    ·rename_i c1 d1 es ep s1 hN;rcases Zq.mp e with q |e
     ·cases q;exact⟨hN,fun _ _ z=>nomatch z⟩
     ·cases e
    ·cases e
  ·cases e
 ·cases e
theorem qR{h:Heap}{x:Str}(e:Ec h x=true):∃dd cd sl,h.nsMap Vd x=some (.ref (adX h x))/\(adX h x,(⟨.type "type", dd,.cls cd,sl⟩:Obj)) ∈ bQ h x:=by
 unfold Ec at e;split at e
 ·rename_i C hx;split at e
  ·rename_i dd cd sl hC;have z:adX h x=C:=by unfold adX;rw[hx]
   refine⟨dd,cd,sl,by rw[hx,z],?_⟩;unfold bQ;rw[hx,z];dsimp only;rw[hC];exact Zf
  ·cases e
 ·cases e
theorem qS{h:Heap}{bm:List Value}{x:Str}(e:zL h bm x=true){K:Wu}(lk:∀a o,(a,o) ∈ bQ h x->K.lookup a=some o):h.nsMap Vd x=some (.ref (adX h x))/\∀h',K.In h'->a8 h' (adX h x) bm:=by
 unfold zL at e;split at e
 ·rename_i C hx;split at e
  ·rename_i dd cd sl hC;split at e
   ·rename_i C' bm' k0 k1 k2 k3 n k5 hm hs;simp only[bAE,beq_iff_eq,Bool.not_eq_true',Zk] at e;obtain⟨⟨⟨⟨⟨rfl,rfl⟩,rfl⟩,hdel⟩,hns⟩,hq⟩:=e;have z:adX h x=C':=by unfold adX;rw[hx]
    refine⟨by rw[hx,z],fun h' KX=>?_⟩;rw[z];have N:=Heap.Ns.of_isNs hns;obtain⟨oN,es,ep,hN,hd,r⟩:=id N;obtain⟨c1,d1,dat,s1⟩:=oN;dsimp only at hd;subst hd
    have m1:(C',(⟨.type "type", dd,.cls cd,sl⟩:Obj)) ∈ bQ h x:=by
     unfold bQ;rw[hx];dsimp only;rw[hC];exact Zf
    have m2:(cd.ns,(⟨c1,d1,.dict es ep,s1⟩:Obj)) ∈ bQ h x:=by
     unfold bQ;rw[hx];dsimp only;rw[hC];dsimp only;rw[hN];exact Zd _ Zf
    have g1:=KX _ _ (lk _ _ m1);have g2:=KX _ _ (lk _ _ m2);obtain⟨nm,bs,mro,ns,qn,hdd,sn,sub,ab,col,del⟩:=cd;dsimp only at hm hdel hns hq N hN r m1 m2 g1 g2;subst hm hdel
    have hsl:sl=#[k0,k1,k2,k3,some (.builtin "ValueError.__new__"),k5]:=by
     obtain⟨l⟩:=sl;simp only at hs;rw[hs]
    subst hsl;exact⟨ns,nm,qn,bs,hdd,sn,sub,ab,col,dd,k0,k1,k2,k3,k5,h.nsMap ns,g1,⟨_,es,ep,g2,rfl,r⟩,fun n hn=>by simpa using hq n hn⟩
   ·cases e
  ·cases e
 ·cases e
theorem zM{h:Heap}(e:Ee h=true){K:Wu}{mg:Str->Option Value}(hm:h.nsMap Vd=mg)(hb:mg "isinstance" = none)(lk:∀x,x ∈ ("RingError" : Str)::dP->∀a o,(a,o) ∈ bQ h x->K.lookup a=some o):XInf K mg (adX h "RingError") (dP.map (adX h)):=by
 unfold Ee at e;obtain⟨e1,e2,e3,e4,e5⟩:=an5 e;subst hm;have r1:=qS e1 (lk _ Zf);have nd:=Z4.mp (qQ e4);refine⟨r1.1,by simpa using e5,hb,r1.2,fun h' KX i C hi h14=>?_,fun h' KX D hD=>?_,nd.2,fun D hD z=>nd.1 (z ▸ hD),fun i x hx=>?_,by rw[Zc];rfl⟩
 ·rw[Zt] at hi;cases hx:dP[i]? with
  |none=>rw[hx] at hi;cases hi
  |some x=>
   rw[hx] at hi;cases hi;have hmem:x ∈ dP.take 14:=Zp (i:=i) (by rw[YI h14];exact hx);exact(qS (Zk.mp e2 x hmem) (lk x (Zd _ (Zp hx)))).2 h' KX
 ·obtain⟨x,hx,rfl⟩:=ZW.mp hD;obtain⟨dd,cd,sl,_,m⟩:=qR (Zk.mp e3 x hx);exact⟨dd,cd,sl,KX _ _ (lk x (Zd _ hx) _ _ m)⟩
 ·obtain⟨dd,cd,sl,m,_⟩:=qR (Zk.mp e3 x (Zp hx));exact⟨adX h x,by rw[Zt,hx];rfl,m⟩
theorem zN{con:List (Str × Int)}{ad:List DefE}(hb:sO ad){h:Heap}(e:Ef con ad h=wc con ad):Says con ad h:=by
 unfold Ef wc at e;simp only[Prod.mk.injEq] at e;obtain⟨e0,e1,e2,e3,e4⟩:=e;have N:=Heap.Ns.of_isNs e0;have D:∀d ∈ ad,zK h d.x=qP d:=fun d hd=>YF.mp e1 d hd
 have inK:∀a o,(a,o) ∈ ad.flatMap (cP h)++(("RingError" : Str)::dP).flatMap (bQ h)->h.get? a=some o:=fun a o he=>by
  rcases Zu.mp he with he |he
  rotate_left
  ·obtain⟨x,_,he⟩:=ZT.mp he;exact(nD he).1
  obtain⟨d,hd,he⟩:=ZT.mp he;obtain⟨f,oc,od,kV,doc,pm,an,c,ct,osl,cc,cd,vs,a',t,r,cs,g1,g2,g3,g4⟩:=wg (D d hd);unfold cP at he;rw[g1] at he;exact we he
 have lk:∀a o,(a,o) ∈ ad.flatMap (cP h)++(("RingError" : Str)::dP).flatMap (bQ h)->(ad.flatMap (cP h)++(("RingError" : Str)::dP).flatMap (bQ h)).lookup a=some o:=fun a o he=>by
  obtain⟨o',q⟩:=wd he;have z:=inK a o' (jq q);rw[inK a o he] at z;cases z;exact q
 refine⟨⟨_,N⟩,ad.flatMap (cP h)++(("RingError" : Str)::dP).flatMap (bQ h),fun a o q=>inK a o (jq q),fun a o q its n hs=>?_,fun mg G=>?_⟩
 ·rcases Zu.mp (jq q) with he |he
  rotate_left
  ·obtain⟨x,_,he⟩:=ZT.mp he;exact(nD he).2 its n hs
  obtain⟨d,hd,he⟩:=ZT.mp he;obtain⟨f,oc,od,kV,doc,pm,an,c,ct,osl,cc,cd,vs,a',t,r,cs,g1,g2,g3,g4⟩:=wg (D d hd);unfold cP at he;rw[g1] at he;dsimp only at he;unfold kr at he;rw[g2] at he;dsimp only at he;rw[g3] at he;dsimp only at he;rcases Zq.mp he with z |he
  ·cases z;cases hs
  ·rcases Zq.mp he with z |he
   ·cases z;cases hs
   ·cases he
 ·have hm:=Eg G
  have bl:∀x,x ∈ d8->mg x=none:=fun x hx=>by
   have z:=YF.mp e3 x hx;rw[hm] at z
   simpa using z
  refine⟨fun i x v hi=>?_,bl,fun i d hi=>?_,_,_,zM e4 hm (bl _ (by decide)) fun x hx a o ho=>lk a o (Zx _ (ZT.mpr ⟨x,hx,ho⟩))⟩
  ·have z:=YF.mp e2 (x,v) (Zp hi);unfold Ir at z;rw[hm] at z;dsimp only at z;split at z
   ·rename_i v' t hv;cases z;exact⟨t,hv⟩
   ·cases z
  ·have hd:=Zp hi;obtain⟨f,oc,od,kV,doc,pm,an,c,ct,osl,cc,cd,vs,a',t,r,cs,g1,g2,g3,g4⟩:=wg (D d hd)
   have m1:(f,_) ∈ ad.flatMap (cP h)++(("RingError" : Str)::dP).flatMap (bQ h):=Z9 _ <| ZT.mpr ⟨d,hd,by
    show _ ∈ cP h d;unfold cP;rw[g1];dsimp only;unfold kr;rw[g2];exact Zf⟩
   have m2:(c,_) ∈ ad.flatMap (cP h)++(("RingError" : Str)::dP).flatMap (bQ h):=Z9 _ <| ZT.mpr ⟨d,hd,by
    show _ ∈ cP h d;unfold cP;rw[g1];dsimp only;unfold kr;rw[g2];dsimp only;rw[g3];exact Zd _ Zf⟩
   have l1:=lk _ _ m1;have l2:=lk _ _ m2;have kp:WE (ad.flatMap (cP h)++(("RingError" : Str)::dP).flatMap (bQ h)) (.ref f)=true:=by unfold WE;dsimp only;rw[l1]
   have cdI:Wy (ad.flatMap (cP h)++(("RingError" : Str)::dP).flatMap (bQ h)) (.ref c) d.x=true:=by
    unfold Wy;dsimp only;rw[l2];dsimp only;rw[g4];simp
   have F:=C1 (st:=d.st) (x:=d.x) (qual:=d.x) l1 cdI kp;refine⟨f,_,by rw[<-hm];exact g1,kp,F.binds (hb.at hd),F⟩
theorem pb{con:List (Str × Int)}{ad:List DefE}{h h':Heap}(x:Says con ad h)(k:∀b o,h.get? b=some o->h'.get? b=some o):Says con ad h':=by
 obtain⟨⟨m,N⟩,K,KX,ns,T⟩:=x
 have back:∀mg,h'.Ns Vd mg->h.Ns Vd mg:=fun mg ⟨o,es,ep,ho,r⟩=>by
  obtain⟨o',es',ep',ho',r'⟩:=N;have z:=k _ _ ho';rw[ho] at z;cases z;exact⟨o,es,ep,ho',r⟩
 refine⟨⟨m,let ⟨o,es,ep,ho,r⟩:=N;⟨o,es,ep,k _ _ ho,r⟩⟩,K,fun a o q=>k _ _ (KX a o q),ns,fun mg G=>T mg (back mg G)⟩
noncomputable def gP(con:List (Str × Int))(ad:List DefE)(hb:sO ad):PySem.W.Hook:=
 ⟨wb,fun s=>Ef con ad s.heap,fun _=>wc con ad,fun _ h=>Says con ad h,fun _ _ e=>zN hb e,fun _ _ _ x k=>pb x k⟩
theorem jr{K:Wu}{m:List Addr}{H:Hp}:∀ns:List Int,VDs K m H (ns.map D.int) (ns.map V.int)
 |[]=>by rw[Yc,Yc,VDs]
 |a::l=>by rw[Zy,Zy,VDs];exact⟨_,_,rfl,bE,jr l⟩
theorem zO{l:PySem.W.OpenLaw}{n k i:Nat}{q:Program}{loose:List Str}{XP:(Str->Option Value)->Heap->Prop}{d:DefRec}{con:List (Str × Int)}{ad:List DefE}{hb:sO ad}{dl:DefE}{x:Str}
  (hn:l.most=some n) (hn2:n<=sizeLine) (hdf:d.params.defaults=[]) (hr:Room k callerA) (hx:d.name=dl.x) (hi:ad[i]?=some dl) (hps:dl.ps=[x]) (hc:ad.all (v9 (ko con ad))=true) (hw:ad.any qM=true)
  (main:∀ns:List Int,ns.length<=n->∃S',evC ad k i [.ref 0] [.frz (ns.map D.int)]=some (.bl true,S')) :
  PySem.W.WalkO q loose XP (gP con ad hb).says l.row.toRowW d [] (fun f vs=>PySem.call f vs):=by
 refine Att.attach_call hn hdf fun w s₀ s₁ mg mb fa o pm cd doc a vs ns G Y ho hd hcd hmg hobj hints hlen hg=>?_;obtain⟨_,K,KX,noS,T⟩:=(show Says con ad s₁.heap from Y);have T:=T mg G.T.g;obtain⟨R,Ds,xi⟩:=T.xs;obtain⟨f,fd,hm,kp,_,F⟩:=T.fn i dl hi;rw[hx] at hmg;rw[hmg] at hm;cases hm
 have bd:∀ (s:Shared) (u:Value),BindsTo s fd ⟨[u],[]⟩ [(x,u)]:=fun s u=>by
  obtain⟨oc,od,kV,doc,pm,an,cdv,ct,osl,rfl,lk,hcd⟩:=F.ex;have z:=(hb.at (Zp hi)) kV doc pm an cdv ct [u] (by rw[hps];rfl);rw[hps] at z;exact .of_eq z
 refine tZ (CX:=CXE l.row.toRowW.prog w) (sp:=spX K Ds (evX ad k i) dl.ps.length) KX G.T.g G.T.b G.T.builtins G.T.nolimit hg hobj hints (Zr hlen hn2) hr (fun base kin _=>by
  have:=qN (P:=l.row.toRowW.prog) (w:=w) (base:=base) T xi kin hc hw k i dl hi fa fd hmg F;rw[hps] at this ⊢;exact this) bd (fun H hO hS=>?_) fun H e s' ⟨_,_,_,_,_,_,_,_,z⟩=>z
 have fz:∃o,H a=some (.frz o (.lst (ns.map V.int))):=by
  rcases hS with (z |⟨o,z⟩) |⟨o,its,n',hk,hc,hdd,hdt,_⟩
  ·rcases hO a with y |⟨o',xs,y⟩
   ·rw[y] at z;cases z
   ·rw[y] at z;cases z
  ·exact⟨o,z⟩
  ·exact absurd hdt (noS a o hk its n')
 obtain⟨o,fz⟩:=fz;obtain⟨S',e⟩:=main ns hlen;refine wa ⟨[a],[.ref 0],[.frz (ns.map D.int)],.bl true,S',?_,⟨rfl,by simp,fun j ob ej=>?_⟩,by rw[hps];rfl,e,fun m' H' v A vv=>vv.bls⟩
 ·rw[VDs];exact⟨_,_,rfl,by rw[VD];exact⟨a,rfl,rfl⟩,by rw[VDs]⟩
 ·cases j with
  |zero=>cases ej;exact⟨a,rfl,o,_,fz,jr ns⟩
  |succ j=>simp at ej
end Ev
namespace Cut
open PySem PySem.W
noncomputable def nF(tb:String->Option Builtin)(p:Program)(w:World)(n₀:Nat)(ann:Option Value):Nat->Shared->Thread->Option (Shared × Thread)
 |0,s,t=>some (s,t)
 |n+1,s,t=>match through t with
  |true=>none
  |false=>match stepOk n₀ ann t with
   |false=>none
   |true=>match step (denote tb) p w s t with
    |.go s' t'=>nF tb p w n₀ ann n s' t'
    |.halt _ _=>none
theorem wj{tb:String->Option Builtin}{p:Program}{w:World}{n₀:Nat}{ann:Option Value}{m:Nat}:∀ {n:Nat} {s s':Shared} {t t':Thread},nF tb p w n₀ ann n s t=some (s',t')->topRun tb p w n₀ ann (m+n) s t=topRun tb p w n₀ ann m s' t'
 |0,s,s',t,t',h=>by cases h;rfl
 |n+1,s,s',t,t',h=>by
  rw[<-Nat.add_assoc];unfold nF at h
  conv=>lhs;unfold topRun
  cases e1:through t with
  |true=>rw[e1] at h;cases h
  |false=>
   rw[e1] at h;dsimp only at h ⊢;cases e2:stepOk n₀ ann t with
   |false=>rw[e2] at h;cases h
   |true=>
    rw[e2] at h;dsimp only at h ⊢;cases e3:step (denote tb) p w s t with
    |halt o s1=>rw[e3] at h;cases h
    |go s1 t1=>
     rw[e3] at h;exact wj h
section
variable (p:Program) (w:World)
noncomputable def s0:Shared:=(fencedOpening Vy p w 20000).getD {}
noncomputable def n0:Nat:=(s0 p w).heap.objs.size
noncomputable def an:Option Value:=(s0 p w).heap.nsMap Vd "__annotations__"
noncomputable def st(n:Nat):Shared × Thread:=(nF Vy p w (n0 p w) (an p w) n (s0 p w) (topStub p)).getD (s0 p w,topStub p)
noncomputable def ent(n:String)(t:Nat)(v:Value):XQ:=⟨reduceHash (w.params.strHash (Str.ofString n).cps),.str (Str.ofString n) t,v⟩
noncomputable def nm:List String:=["NoMeadow", "NoSky", "NoLandings", "NoOrder", "NoLot", "NoText", "NoName", "NoGlider", "NoMinute", "NoAim", "TooMany", "Bound", "NoDeed", "NoRow"]
noncomputable def cls(x:String × Nat):List Obj:=
 let n:=Str.ofString x.1;let b:=28+12 * x.2;let t:=207+16 * x.2;let l:Int:=4+2 * x.2
 let m:=Value.str (Str.ofString "downrings.errors") 187
 let f:=fun t=>Value.str p.main.file t
 [⟨.type "tuple", none,.seq #[.ref 24] 0,#[]⟩,
   ⟨.type "builtin_function_or_method", none,.fields #[.builtin "type.__prepare__", .type "type"],#[]⟩,
   ⟨.type "dict", none,.dict #[ent w "__module__" (t+7) m,ent w "__qualname__" (t+9) (.str n (t+8)),ent w "__firstlineno__" (t+11) (.int l (t+10)),ent w "__static_attributes__" (t+12) (.ref (b+7))] 4,#[]⟩,
   ⟨.type "tuple", none,.seq #[] 0,#[]⟩,
   ⟨.none,none,.fields #[],#[]⟩,
   ⟨.type "code", none,.fields #[.str n (t+2),.str n (t+3),f (t+4),.int l 0,.int 0 0,.int 0 0,.int 0 0,.int 0 0,.ref (b+3),.bool false,.int 181 0,.ref (b+4),.none,.none,.none,.none,.int (t+5:Nat) 0,.int l 0,f (t+6)],#[]⟩,
   ⟨.type "frame", none,.plain,#[some (.ref (b+5)),some (.ref 3),some (.ref (b+2)),none,some m,none,some (.ref 0)]⟩,
   ⟨.type "tuple", none,.seq #[] 0,#[]⟩,
   ⟨.type "dict", none,.dict #[ent w "__module__" (t+7) m,ent w "__firstlineno__" (t+11) (.int l (t+10)),ent w "__static_attributes__" (t+12) (.ref (b+7)),ent w "__doc__" (t+13) .none] 2,#[]⟩,
   ⟨.type "type", none,.cls { name:=n,bases:=[.ref 24],mro:=[.ref (b+9),.ref 24,.type "ValueError", .type "Exception", .type "BaseException", .type "object"],ns:=b+8,qualname:=n },#[some (.ref b),none,some (.str n t),some (.str n (t+8)),some (.builtin "ValueError.__new__"),some (.bool true)]⟩,
   ⟨.type "super", none,.fields #[.ref (b+9),.ref (b+9),.ref (b+9)],#[]⟩,
   ⟨.type "builtin_function_or_method", none,.fields #[.builtin "object.__init_subclass__", .ref (b+9)],#[]⟩]
noncomputable def Kd(o:Obj):Obj:=match o with
 |⟨c,d,.dict es n,s⟩=>⟨c,d,.dict (es++(nm.zipIdx.map fun x=>ent w x.1 (222+16 * x.2) (.ref (37+12 * x.2))).toArray) (n+14),s⟩
 |o=>o
noncomputable def Iv(o:Obj):Obj:=match o with
 |⟨c,d,.fields vs,s⟩=>⟨c,d,.fields (vs++(nm.zipIdx.flatMap fun x=>[Value.int (4+2 * x.2:Nat) 0,.int 0 0,.ref (33+12 * x.2)]).toArray),s⟩
 |o=>o
noncomputable def Iw(o:Obj):Obj:=match o with
 |⟨c,d,.cls k,s⟩=>⟨c,d,.cls { k with subclasses:=nm.zipIdx.map fun x=>.ref (37+12 * x.2) },s⟩
 |o=>o
noncomputable def mid:Shared:=match (st p w 208).1 with
 |⟨⟨os,l⟩,g,d,_,o⟩=>⟨⟨((((os.toList.modify 3 (Kd w)).modify 12 Iv).modify 24 Iw)++(nm.zipIdx.flatMap (cls p w))).toArray,l⟩,g,d,431,o⟩
noncomputable def Ix:Thread:=match (st p w 208).2 with
 |⟨_,.body ss env,_,k⟩=>⟨do return .done (<-(execs (ss.drop 16) env).onRaise (leaving env)),.body ss env,⟨30,0,31,8⟩,k⟩
 |t=>t
noncomputable def Eh(s:Shared)(o:Option Shared):Option Shared:=bif s.gens.size == 0 && s.heap.isNs Vd then (o.bind fun u=>bif laidKept s.heap u.heap && (gensDone u && (namesBound p u.heap && staticsOk (Va p.main.body) s.heap u.heap)) then some u else none) else none
end
theorem Iy{tb:String->Option Builtin}{p:Program}{w:World}{N:Nat}{s:Shared}:topFrom tb p w N s=Eh p s (topRun tb p w s.heap.objs.size (s.heap.nsMap Vd "__annotations__") N s (topStub p)):=by
 unfold topFrom Eh;rw[YK];cases s.gens.size == 0 && s.heap.isNs Vd with
 |false=>rfl
 |true=>
  show Xx _ _=Xx _ _
  congr 1
  funext u
  rw[YK,YK (_ && _) (gensDone u),YK _ (namesBound p u.heap)];cases laidKept s.heap u.heap && (gensDone u && (namesBound p u.heap && staticsOk (Va p.main.body) s.heap u.heap)) <;> rfl
abbrev PartA(p:Program):Prop:=∀w,nF Vy p w (n0 p w) (an p w) 3189 (s0 p w) (topStub p)=some (mid p w,Ix p w)
noncomputable def fin(p:Program)(w:World):Option Shared:=Eh p (s0 p w) (topRun Vy p w (n0 p w) (an p w) 16811 (mid p w) (Ix p w))
abbrev PartB(p q:Program)(loose:List Str)(Xt:Shared->Bool):Prop:=∀w,(fin p w).map (openSeen q loose (Va p.main.body) Xt true)=some (openGood q loose)
abbrev PartC(p:Program){α:Type}(Yf:Shared->α)(Ya:World->α):Prop:=∀w,(fin p w).map Yf=some (Ya w)
theorem left_cut{p q:Program}{loose:List Str}{Xt:Shared->Bool}{α:Type}{Yf:Shared->α}{Ya:World->α}(h0:∀w,(fencedOpening Vy p w 20000).isSome=true)(hA:PartA p)(hB:PartB p q loose Xt)(hC:PartC p Yf Ya):LeftO p q loose Xt Yf Ya 20000:=fun w=>by
 obtain⟨s,hs⟩:=ZL.mp (h0 w);have e0:s0 p w=s:=by unfold s0;rw[hs];rfl
 obtain⟨u,hu,e1⟩:=Option.map_eq_some_iff.mp (hB w);have e2:=hC w;rw[hu] at e2;have e2:Yf u=Ya w:=Option.some.inj e2;have a:=wj (m:=16811) (hA w);unfold fin at hu;unfold n0 an at a hu;rw[<-a,e0] at hu;unfold openEnds;rw[hs];show Option.map _ (topFrom Vy p w 20000 s)=_;rw[Iy];refine(congrArg _ hu).trans ?_;show some (openSeen q loose (Va p.main.body) Xt true u,Yf u)=_;rw[e1,e2]
end Cut
namespace Lw
open PySem
noncomputable def top(i:Nat):Stmt:=PySem.Challenge.pw_downrings_k02_open_minutes.main.body.getD i (.Pass ⟨0,0,0,0⟩)
end Lw
section
open PySem PySem.W PyProof.Rows
noncomputable abbrev Lw.view:Program:={ PySem.Challenge.pw_downrings_k02_open_minutes with main:={ PySem.Challenge.pw_downrings_k02_open_minutes.main with body:=[Lw.top 53] } }
noncomputable abbrev Lw.loose:List PySem.Str:=List.map PySem.Str.ofString ["is_whole", "is_within", "is_minute", "is_tuple", "is_meadow", "are_gaps", "is_gap_row", "no_glider_between_helps", "are_shuts", "is_stretch", "first_not_shut", "open_from", "check_meadow", "_law_cell_at", "_law_pot", "_law_take", "_law_whole", "_law_within", "_law_gaps", "_law_shuts", "_law_meadow", "_law_odd", "_law_bent", "_law_word", "_law_is_meadow", "_law_told", "_law_due", "LAST_MINUTE", "MOST_RINGS", "MOST_SINK", "MOST_KINDS", "MOST_GAP", "MOST_SHUTS", "RingError", "NoMeadow", "NoSky", "NoLandings", "NoOrder", "NoLot", "NoText", "NoName", "NoGlider", "NoMinute", "NoAim", "TooMany", "Bound", "NoDeed", "NoRow", "NoWay"]
set_option maxHeartbeats 0 in
theorem Lw.said:PySem.Challenge.rw_downrings_k02_open_minutes.wellSaid=true:=by kernel_rfl
set_option maxHeartbeats 0 in
theorem Lw.opn:∀w,(fencedOpening Vy PySem.Challenge.rw_downrings_k02_open_minutes.row.toRowW.prog w 20000).isSome=true:=fun w=>by kernel_rfl
set_option maxHeartbeats 0 in
theorem Lw.partA:Cut.PartA PySem.Challenge.rw_downrings_k02_open_minutes.row.toRowW.prog:=fun w=>by kernel_rfl
set_option maxHeartbeats 0 in
theorem Lw.partB:Cut.PartB PySem.Challenge.rw_downrings_k02_open_minutes.row.toRowW.prog Lw.view Lw.loose (fun s=>xlAt Lw.view [] s && recOk (RowW.records PySem.Challenge.rw_downrings_k02_open_minutes.row.toRowW) s):=fun w=>by kernel_rfl
end
namespace Lw
open PySem Ev
noncomputable def jt:List CS:=[.ret (.and (.inst .int (.var 0)) (.not (.inst .bool (.var 0))))]
noncomputable def g9:List CS:=[.ret (.and (.call 0 [.var 0]) (.chn .le .le (.var 1) (.var 0) (.var 2)))]
noncomputable def hF:List CS:=[.ret (.call 1 [.var 0,.int 0,.con 0 9999])]
noncomputable def ju:List CS:=[.ret (.and (.inst .tuple (.var 0)) (.chn .le .le (.var 1) (.len (.var 0)) (.var 2)))]
noncomputable def hJ:List CS:=[.ifs (.not (.call 3 [.var 0,.int 4,.int 4])) [.ret (.bl false)] [],.asg (.tup [.name 1,.name 2,.name 3,.name 4]) (.var 0),.ret (.and (.call 1 [.var 1,.int 0,.con 1 8]) (.and (.call 1 [.var 2,.int 0,.con 2 60]) (.and (.call 5 [.var 3]) (.call 8 [.var 4]))))]
noncomputable def jv:List CS:=[.ifs (.not (.call 3 [.var 0,.int 1,.con 3 4])) [.ret (.bl false)] [],.ret (.and (.all (.comp ["row"] (.call 6 [.var 1,.len (.var 0)]) [⟨.name 1,.val (.var 0),none⟩])) (.call 7 [.var 0]))]
noncomputable def gm:List CS:=[.ret (.and (.call 3 [.var 0,.var 1,.var 1]) (.all (.comp ["gap"] (.call 1 [.var 2,.int 1,.con 4 99]) [⟨.name 2,.val (.var 0),none⟩])))]
noncomputable def bD:List CS:=[.asg (.name 1) (.listR (.len (.var 0))),.ret (.all (.comp ["a", "b", "c"] (.cmp .le (.ix (.ix (.var 0) (.var 2)) (.var 3)) (.bin .add (.ix (.ix (.var 0) (.var 2)) (.var 4)) (.ix (.ix (.var 0) (.var 4)) (.var 3)))) [⟨.name 2,.val (.var 1),none⟩,⟨.name 3,.val (.var 1),none⟩,⟨.name 4,.val (.var 1),none⟩]))]
noncomputable def hU:List CS:=[.ifs (.or (.not (.call 3 [.var 0,.int 0,.con 5 4])) (.not (.all (.comp ["part"] (.call 9 [.var 1]) [⟨.name 1,.val (.var 0),none⟩])))) [.ret (.bl false)] [],.ret (.all (.comp ["at"] (.cmp .gt (.ix (.ix (.var 0) (.var 1)) (.int 0)) (.ix (.ix (.var 0) (.bin .sub (.var 1) (.int 1))) (.int 1))) [⟨.name 1,.r2 (.int 1) (.len (.var 0)),none⟩]))]
noncomputable def gn:List CS:=[.ret (.and (.call 3 [.var 0,.int 2,.int 2]) (.and (.call 2 [.ix (.var 0) (.int 0)]) (.and (.call 2 [.ix (.var 0) (.int 1)]) (.cmp .lt (.ix (.var 0) (.int 0)) (.ix (.var 0) (.int 1))))))]
noncomputable def c8:List CS:=[.for_ (.tup [.name 2,.name 3]) (.val (.ix (.var 0) (.int 3))) [.ifs (.chn .le .lt (.var 2) (.var 1) (.var 3)) [.ret (.var 3)] []],.ret (.var 1)]
noncomputable def cb:List RS:=[.ck 12 [.var 0],.pl (.ret (.call 10 [.var 0,.var 1]))]
noncomputable def cz:List RS:=[.rz (.not (.call 4 [.var 0])) 0]
noncomputable def fC:List CS:=[.ifs (.cmp .lt (.var 1) (.len (.var 0))) [.ret (.ix (.var 0) (.var 1))] [],.ret (.int 0)]
noncomputable def ku:List CS:=[.ifs (.cmp .ge (.var 0) (.bin .pow (.int 10) (.int 18))) [.ret (.lst [.bin .sub (.var 0) (.bin .pow (.int 10) (.int 18))])] [],.asg (.name 1) (.int 0),.for_ (.name 2) (.r1 (.int 64)) [.asg (.name 3) (.bin .mod (.bin .mul (.bin .add (.bin .add (.bin .mod (.var 0) (.int 2147483629)) (.bin .mul (.int 7919) (.var 2))) (.int 1)) (.int 48271)) (.int 2147483647)),.asg (.name 3) (.bin .mod (.bin .add (.bin .add (.bin .mul (.var 3) (.var 3)) (.bin .mul (.int 69621) (.var 2))) (.int 7)) (.int 2147483587)),.asg (.name 1) (.bin .add (.bin .mul (.var 1) (.int 2147483587)) (.var 3))],.ret (.lst [.var 1])]
noncomputable def jw:List CS:=[.asg (.name 2) (.bin .mod (.ix (.var 0) (.int 0)) (.var 1)),.setI (.bin .fdiv (.ix (.var 0) (.int 0)) (.var 1)) (.var 0) (.int 0),.ret (.var 2)]
noncomputable def hV:List CS:=[.ret (.and (.inst .int (.var 0)) (.not (.inst .bool (.var 0))))]
noncomputable def gp:List CS:=[.ret (.and (.call 16 [.var 0]) (.chn .le .le (.var 1) (.var 0) (.var 2)))]
noncomputable def cA:List CS:=[.asg (.name 1) (.bin .add (.int 1) (.call 15 [.var 0,.int 4])),.asg (.name 2) (.comp ["_law_a"] (.comp ["_law_b"] (.bin .add (.int 1) (.call 15 [.var 0,.int 9])) [⟨.name 5,.r1 (.var 1),none⟩]) [⟨.name 4,.r1 (.var 1),none⟩]),.ifs (.cmp .eq (.call 15 [.var 0,.int 8]) (.int 0)) [.asg (.name 2) (.comp ["_law_row"] (.comp ["_law_gap"] (.bin .sub (.int 99) (.call 15 [.var 0,.int 3])) [⟨.name 5,.val (.var 4),none⟩]) [⟨.name 4,.val (.var 2),none⟩])] [],.for_ (.name 3) (.r1 (.var 1)) [.asg (.name 2) (.comp ["_law_row"] (.comp ["_law_b", "_law_gap"] (.mn (.var 6) (.bin .add (.ix (.var 4) (.var 3)) (.ix (.ix (.var 2) (.var 3)) (.var 5)))) [⟨.tup [.name 5,.name 6],.en (.var 4),none⟩]) [⟨.name 4,.val (.var 2),none⟩])],.ret (.tupOf (.comp ["_law_row"] (.tupOf (.var 4)) [⟨.name 4,.val (.var 2),none⟩]))]
noncomputable def hX:List CS:=[.asg (.tup [.name 2,.name 3]) (.tup [.lst [],.var 1]),.for_ (.name 4) (.r1 (.ix (.lst [.int 0,.int 1,.int 2,.int 3,.int 4]) (.call 15 [.var 0,.int 5]))) [.asg (.name 3) (.bin .add (.bin .add (.var 3) (.int 1)) (.call 15 [.var 0,.int 14])),.ex (.app (.var 2) (.tup [.var 3,.bin .add (.bin .add (.var 3) (.int 1)) (.call 15 [.var 0,.int 6])])),.asg (.name 3) (.ix (.ix (.var 2) (.neg (.int 1))) (.int 1))],.ret (.tupOf (.var 2))]
noncomputable def gq:List CS:=[.asg (.name 1) (.ix (.lst [.int 2,.int 1,.int 3,.int 8,.int 0]) (.call 15 [.var 0,.int 5])),.ret (.tup [.var 1,.ix (.lst [.int 2,.int 0,.int 1,.int 5,.int 60]) (.call 15 [.var 0,.int 5]),.call 18 [.var 0],.call 19 [.var 0,.int 0]])]
noncomputable def kw:List CS:=[.asg (.name 1) (.lst [.non,.bl true,.bl false,.neg (.int 1),.bin .pow (.int 10) (.int 30),.str "", .str "a", .str "1", .tup [],.lst [],.dic0,.lst [.tup []],.tup [.tup []],.tup [.int 0],.lst [.int 0],.dic1 0 1,.tup [.bl true,.bl true]]),.ret (.ix (.var 1) (.call 15 [.var 0,.len (.var 1)]))]
noncomputable def fK:List CS:=[.ifs (.not (.inst .tuple (.var 1))) [.ifs (.and (.call 16 [.var 1]) (.cmp .gt (.call 15 [.var 0,.int 3]) (.int 0))) [.ret (.bin .add (.var 1) (.ix (.lst [.int 1,.neg (.int 1),.int 9,.int 100,.int 9999,.neg (.bin .pow (.int 10) (.int 4))]) (.call 15 [.var 0,.int 6])))] [],.ret (.call 21 [.var 0])] [],.asg (.name 2) (.call 15 [.var 0,.int 12]),.ifs (.or (.cmp .eq (.var 2) (.int 0)) (.cmp .eq (.var 1) (.tup []))) [.ret (.ix (.lst [.call 21 [.var 0],.listOf (.var 1),.bin .add (.var 1) (.tup [.call 21 [.var 0]]),.bin .add (.var 1) (.sl (.var 1) (some (.neg (.int 1))) none)]) (.call 15 [.var 0,.int 4]))] [],.asg (.name 3) (.call 15 [.var 0,.len (.var 1)]),.ifs (.cmp .eq (.var 2) (.int 1)) [.ret (.bin .add (.sl (.var 1) none (some (.var 3))) (.sl (.var 1) (some (.bin .add (.var 3) (.int 1))) none))] [],.ifs (.cmp .eq (.var 2) (.int 2)) [.ret (.bin .add (.bin .add (.sl (.var 1) none (some (.var 3))) (.sl (.var 1) (some (.var 3)) (some (.bin .add (.var 3) (.int 1))))) (.sl (.var 1) (some (.var 3)) none))] [],.ret (.bin .add (.bin .add (.sl (.var 1) none (some (.var 3))) (.tup [.call 22 [.var 0,.ix (.var 1) (.var 3)]])) (.sl (.var 1) (some (.bin .add (.var 3) (.int 1))) none))]
noncomputable def pc:List CS:=[.never,.never,.never,.never,.never,.asg (.name 2) (.lst [.str "meadow", .str "sky", .str "landings", .str "order", .str "lot", .str "text", .str "name", .str "glider", .str "minute", .str "aim", .str "many", .str "bound"]),.never]
noncomputable def dM:List CS:=[.ifs (.or (.not (.inst .tuple (.var 0))) (.cmp .ne (.len (.var 0)) (.int 4))) [.ret (.bl false)] [],.asg (.tup [.name 1,.name 2,.name 3,.name 4]) (.var 0),.ifs (.or (.not (.call 17 [.var 1,.int 0,.int 8])) (.not (.call 17 [.var 2,.int 0,.int 60]))) [.ret (.bl false)] [],.ifs (.or (.not (.inst .tuple (.var 3))) (.or (.not (.chn .le .le (.int 1) (.len (.var 3)) (.int 4))) (.or (.not (.inst .tuple (.var 4))) (.cmp .gt (.len (.var 4)) (.int 4))))) [.ret (.bl false)] [],.for_ (.name 5) (.val (.var 3)) [.ifs (.or (.not (.inst .tuple (.var 5))) (.or (.cmp .ne (.len (.var 5)) (.len (.var 3))) (.not (.all (.comp ["_law_gap"] (.call 17 [.var 10,.int 1,.int 99]) [⟨.name 10,.val (.var 5),none⟩]))))) [.ret (.bl false)] []],.for_ (.name 5) (.val (.var 3)) [.for_ (.tup [.name 6,.name 7]) (.en (.var 5)) [.ifs (.cmp .ne (.comp ["_law_b", "_law_gap"] (.var 10) [⟨.tup [.name 10,.name 11],.en (.var 5),some (.cmp .gt (.var 11) (.bin .add (.var 7) (.ix (.ix (.var 3) (.var 6)) (.var 10))))⟩]) (.lst [])) [.ret (.bl false)] []]],.asg (.name 8) (.neg (.int 1)),.for_ (.name 9) (.val (.var 4)) [.ifs (.or (.not (.inst .tuple (.var 9))) (.or (.cmp .ne (.len (.var 9)) (.int 2)) (.not (.all (.comp ["_law_end"] (.call 17 [.var 10,.int 0,.int 9999]) [⟨.name 10,.val (.var 9),none⟩]))))) [.ret (.bl false)] [],.ifs (.or (.cmp .ge (.ix (.var 9) (.int 0)) (.ix (.var 9) (.int 1))) (.cmp .le (.ix (.var 9) (.int 0)) (.var 8))) [.ret (.bl false)] [],.asg (.name 8) (.ix (.var 9) (.int 1))],.ret (.bl true)]
noncomputable def cC:List RS:=[.tr 11 [.var 0,.var 1]]
noncomputable def kx:List CS:=[.asg (.name 2) (.var 1),.while_ (.cmp .ne (.comp ["_law_begin", "_law_end"] (.var 3) [⟨.tup [.name 3,.name 4],.val (.var 0),some (.chn .le .lt (.var 3) (.var 2) (.var 4))⟩]) (.lst [])) [.asg (.name 2) (.bin .add (.var 2) (.int 1))],.ret (.var 2)]
noncomputable def B4:List CS:=[.for_ (.name 1) (.r1 (.mx (.int 1) (.mn (.len (.var 0)) (.int 20)))) [.asg (.name 2) (.call 14 [.call 13 [.var 0,.var 1]]),.asg (.name 3) (.call 20 [.var 2]),.asg (.name 3) (.bin .add (.sl (.var 3) none (some (.int 3))) (.tup [.call 19 [.var 2,.ix (.lst [.int 0,.int 9900,.int 3]) (.call 15 [.var 2,.int 3])]])),.asg (.name 4) (.bin .add (.bin .pow (.int 10) (.int 4)) (.call 15 [.var 2,.bin .pow (.int 10) (.int 26)])),.for_ (.name 5) (.val (.bin .add (.bin .add (.listR2 (.neg (.int 2)) (.int 90)) (.listR2 (.int 9890) (.int 9999))) (.lst [.var 4,.bin .sub (.int 0) (.var 4),.int 9999]))) [.ifs (.cmp .ne (.rep (.call 25 [.var 3,.var 5])) (.rep (.call 26 [.ix (.var 3) (.int 3),.var 5]))) [.ret (.bl false)] []],.asg (.tup [.name 6,.name 7]) (.tup [.call 22 [.var 2,.var 3],.rep (.var 3)]),.ifs (.and (.not (.call 24 [.var 6])) (.or (.cmp .ne (.call 25 [.var 6,.int 3]) (.str "meadow")) (.cmp .ne (.call 25 [.var 6,.var 4]) (.str "meadow")))) [.ret (.bl false)] [],.ifs (.cmp .ne (.rep (.var 3)) (.var 7)) [.ret (.bl false)] []],.ret (.bl true)]
noncomputable def fL:DefE:=⟨"is_whole", top 19,["thing"],["thing"],jt,none⟩
noncomputable def eA:DefE:=⟨"is_within", top 20,["thing", "least", "most"],["thing", "least", "most"],g9,none⟩
noncomputable def eB:DefE:=⟨"is_minute", top 21,["thing"],["thing"],hF,none⟩
noncomputable def fM:DefE:=⟨"is_tuple", top 22,["thing", "least", "most"],["thing", "least", "most"],ju,none⟩
noncomputable def eC:DefE:=⟨"is_meadow", top 29,["thing", "rings", "sink", "gaps", "shuts"],["thing"],hJ,none⟩
noncomputable def fN:DefE:=⟨"are_gaps", top 30,["thing"],["thing"],jv,none⟩
noncomputable def dB:DefE:=⟨"is_gap_row", top 31,["thing", "many"],["thing", "many"],gm,none⟩
noncomputable def aO:DefE:=⟨"no_glider_between_helps", top 32,["gaps", "kinds"],["gaps"],bD,none⟩
noncomputable def eD:DefE:=⟨"are_shuts", top 33,["thing"],["thing"],hU,none⟩
noncomputable def dC:DefE:=⟨"is_stretch", top 34,["thing"],["thing"],gn,none⟩
noncomputable def bT:DefE:=⟨"first_not_shut", top 35,["meadow", "minute", "begin", "end"],["meadow", "minute"],c8,none⟩
noncomputable def eF:DefE:=⟨"open_from", top 36,["meadow", "minute"],["meadow", "minute"],[],some cb⟩
noncomputable def eG:DefE:=⟨"check_meadow", top 37,["thing"],["thing"],[],some cz⟩
noncomputable def cU:DefE:=⟨"_law_cell_at", top 39,["_law_script", "_law_k"],["_law_script", "_law_k"],fC,none⟩
noncomputable def gQ:DefE:=⟨"_law_pot", top 40,["_law_cell", "_law_number", "_law_j", "_law_more"],["_law_cell"],ku,none⟩
noncomputable def fO:DefE:=⟨"_law_take", top 41,["_law_pot_here", "_law_far", "_law_found"],["_law_pot_here", "_law_far"],jw,none⟩
noncomputable def eI:DefE:=⟨"_law_whole", top 42,["_law_thing"],["_law_thing"],hV,none⟩
noncomputable def dD:DefE:=⟨"_law_within", top 43,["_law_thing", "_law_low", "_law_high"],["_law_thing", "_law_low", "_law_high"],gp,none⟩
noncomputable def fP:DefE:=⟨"_law_gaps", top 44,["_law_pot_here", "_law_many", "_law_rows", "_law_c"],["_law_pot_here"],cA,none⟩
noncomputable def eJ:DefE:=⟨"_law_shuts", top 45,["_law_pot_here", "_law_now", "_law_found", "_law_begin", "_law_turn"],["_law_pot_here", "_law_now"],hX,none⟩
noncomputable def dE:DefE:=⟨"_law_meadow", top 46,["_law_pot_here", "_law_rings"],["_law_pot_here"],gq,none⟩
noncomputable def gR:DefE:=⟨"_law_odd", top 47,["_law_pot_here", "_law_some"],["_law_pot_here"],kw,none⟩
noncomputable def cD:DefE:=⟨"_law_bent", top 48,["_law_pot_here", "_law_thing", "_law_way", "_law_at"],["_law_pot_here", "_law_thing"],fK,none⟩
noncomputable def pd:DefE:=⟨"_law_word", top 49,["_law_e", "_law_some", "_law_words"],["_law_e"],pc,none⟩
noncomputable def cf:DefE:=⟨"_law_is_meadow", top 50,["_law_thing", "_law_rings", "_law_sink", "_law_gaps_here", "_law_shuts_here", "_law_row", "_law_c", "_law_first", "_law_behind", "_law_one"],["_law_thing"],dM,none⟩
noncomputable def fQ:DefE:=⟨"_law_told", top 51,["_law_meadow_here", "_law_minute", "_law_e"],["_law_meadow_here", "_law_minute"],[],some cC⟩
noncomputable def gS:DefE:=⟨"_law_due", top 52,["_law_shuts_here", "_law_minute", "_law_found"],["_law_shuts_here", "_law_minute"],kx,none⟩
noncomputable def qT:DefE:=⟨"law", top 53,["_law_script", "_law_k", "_law_pot_here", "_law_meadow_here", "_law_far", "_law_minute", "_law_bad", "_law_kept"],["_law_script"],B4,none⟩
noncomputable def ad:List DefE:=[fL,eA,eB,fM,eC,fN,dB,aO,eD,dC,bT,eF,eG,cU,gQ,fO,eI,dD,fP,eJ,dE,gR,cD,pd,cf,fQ,gS,qT]
noncomputable def con:List (Str × Int):=[("LAST_MINUTE", 9999),("MOST_RINGS", 8),("MOST_SINK", 60),("MOST_KINDS", 4),("MOST_GAP", 99),("MOST_SHUTS", 4)]
theorem chk:ad.all (v9 (ko con ad))=true:=by kernel_rfl
theorem Ke:ad.any qM=true:=by kernel_rfl
theorem us1:∀ {us:List Value},us.length=1->∃a0,us=[a0]
 |[a0],_=>⟨a0,rfl⟩
theorem us2:∀ {us:List Value},us.length=2->∃a0 a1,us=[a0,a1]
 |[a0,a1],_=>⟨a0,a1,rfl⟩
theorem us3:∀ {us:List Value},us.length=3->∃a0 a1 a2,us=[a0,a1,a2]
 |[a0,a1,a2],_=>⟨a0,a1,a2,rfl⟩
theorem bind:sO ad:=by
 repeat' apply And.intro
 all_goals first |trivial |(intro _ _ _ _ _ _ us hl;first |(obtain⟨_,rfl⟩:=us1 hl;rfl) |(obtain⟨_,_,rfl⟩:=us2 hl;rfl) |(obtain⟨_,_,_,rfl⟩:=us3 hl;rfl))
end Lw
section
open PySem PySem.W PyProof.Rows
set_option maxHeartbeats 0 in
theorem Lw.partC:Cut.PartC PySem.Challenge.rw_downrings_k02_open_minutes.row.toRowW.prog (Hook.obs (Ev.gP Lw.con Lw.ad Lw.bind)) (Hook.val (Ev.gP Lw.con Lw.ad Lw.bind)):=fun w=>by kernel_rfl
set_option maxHeartbeats 0 in
theorem Lw.head(hmain:∀ns:List Int,ns.length<=63->∃S',Ev.evC Lw.ad 40 27 [.ref 0] [.frz (ns.map Ev.D.int)]=some (.bl true,S')):PySem.Challenge.rw_downrings_k02_open_minutes.Holds:=by
 w_on;refine holds_law Lw.said fun said=>?_
 refine holds_open (q:=Lw.view) (loose:=Lw.loose) (Xt:=(fun s=>xlAt Lw.view [] s && recOk (RowW.records PySem.Challenge.rw_downrings_k02_open_minutes.row.toRowW) s)) (XP:=XL Lw.view []) (Yf:=(Hook.obs (Ev.gP Lw.con Lw.ad Lw.bind))) (Ya:=(Hook.val (Ev.gP Lw.con Lw.ad Lw.bind))) (YP:=Hook.says (Ev.gP Lw.con Lw.ad Lw.bind)) (N:=20000) ?hl (Hook.of _) (Hook.keeps _) (fun s e=>xl_of s (YZ.mp e).1) XL.keeps (by rfl) (by rfl) (by rfl) (fun s e=>recFacts_of (YZ.mp e).2) (by rfl) (by first |assumption |decide +kernel) (by decide +kernel) ⟨rfl,rfl,rfl,rfl,rfl,by decide +kernel⟩ ?hw ?hc
 case hw=>w_witness2
 case hl=>exact Cut.left_cut Lw.opn Lw.partA Lw.partB Lw.partC
 case hc=>exact Ev.zO (l:=PySem.Challenge.rw_downrings_k02_open_minutes) (n:=63) (k:=40) (i:=27) (dl:=Lw.qT) rfl (by decide) rfl ⟨rfl,by decide,by decide,rfl⟩ rfl rfl rfl Lw.chk Lw.Ke hmain
end
namespace Ev
open PySem PySem.Spec PyProof.Rows L2
def Ok{α:Type}(x:Option (α × Sto))(Q:α->Sto->Prop):Prop:=∃a S,x=some (a,S)/\Q a S
def OkS(x:Option (Fl × Rho × Sto))(Q:Fl->Rho->Sto->Prop):Prop:=∃f ρ S,x=some (f,ρ,S)/\Q f ρ S
section
variable {α β:Type} {S S':Sto} {ρ ρ':Rho}
theorem ae{a:α}{Q:α->Sto->Prop}:Ok (some (a,S)) Q=Q a S:=by
 apply propext;exact⟨fun⟨_,_,e,q⟩=>by cases e;exact q,fun q=>⟨a,S,rfl,q⟩⟩
theorem aM{Q:α->Sto->Prop}:Ok none Q=False:=propext ⟨fun⟨_,_,e,_⟩=>(nomatch e),fun h=>h.elim⟩
theorem a9{x:Option (α × Sto)}{f:α->Sto->Option (β × Sto)}{Q:β->Sto->Prop}:Ok (bnd x f) Q=Ok x fun a S=>Ok (f a S) Q:=by
 apply propext;constructor
 ·rintro⟨b,S',e,q⟩;obtain⟨a,S,e1,e2⟩:=aa e;exact⟨a,S,e1,b,S',e2,q⟩
 ·rintro⟨a,S,e1,b,S',e2,q⟩;exact⟨b,S',by rw[e1];exact e2,q⟩
theorem cE{c:Prop}[Decidable c]{x y:Option (α × Sto)}{Q:α->Sto->Prop}:Ok (if c then x else y) Q=if c then Ok x Q else Ok y Q:=by split <;> rfl
theorem Ei{x:Option β}{f:β->α × Sto}{Q:α->Sto->Prop}:Ok (x.map f) Q=∃b,x=some b/\Q (f b).1 (f b).2:=by
 apply propext;cases x with
 |none=>exact⟨fun⟨_,_,e,_⟩=>(nomatch e),fun⟨_,e,_⟩=>(nomatch e)⟩
 |some b=>exact⟨fun⟨a,S,e,q⟩=>⟨b,rfl,by have e':=Option.some.inj e;rw[e'];exact q⟩,fun⟨b',e,q⟩=>by cases e;exact⟨_,_,rfl,q⟩⟩
theorem Ok.mono{x:Option (α × Sto)}{Q Q':α->Sto->Prop}(h:Ok x Q)(f:∀a S,Q a S->Q' a S):Ok x Q':=let ⟨a,S,e,q⟩:=h;⟨a,S,e,f a S q⟩
theorem OkS.mono{x:Option (Fl × Rho × Sto)}{Q Q':Fl->Rho->Sto->Prop}(h:OkS x Q)(f:∀a ρ S,Q a ρ S->Q' a ρ S):OkS x Q':=let ⟨a,ρ,S,e,q⟩:=h;⟨a,ρ,S,e,f a ρ S q⟩
def nxt(y:XS)(Q:Fl->Rho->Sto->Prop)(f:Fl)(ρ:Rho)(S:Sto):Prop:=match f with
 |.nx=>OkS (y ρ S) Q
 |f=>Q f ρ S
theorem zP{x y:XS}{Q:Fl->Rho->Sto->Prop}:OkS (oP x y ρ S) Q=OkS (x ρ S) (nxt y Q):=by
 apply propext;unfold oP;constructor
 ·rintro⟨f,ρ1,S1,e,q⟩;split at e
  ·cases e
  ·rename_i ρ2 S2 h;exact⟨_,_,_,h,f,ρ1,S1,e,q⟩
  ·rename_i r n h;cases e;cases f with
   |nx=>exact absurd rfl (n ρ1 S1)
   |_=>exact⟨_,_,_,h,q⟩
 ·rintro⟨f,ρ1,S1,e,q⟩;rw[e];cases f with
  |nx=>exact q
  |_=>exact⟨_,_,_,rfl,q⟩
theorem Ej{c:XT}{x y:XS}{Q:Fl->Rho->Sto->Prop}:OkS (xIf c x y ρ S) Q=Ok (c ρ S) fun b S1=>if b=true then OkS (x ρ S1) Q else OkS (y ρ S1) Q:=by
 apply propext;unfold xIf;constructor
 ·rintro⟨f,ρ1,S1,e,q⟩;cases h:c ρ S with
  |none=>rw[h] at e;cases e
  |some r=>
   obtain⟨b,S2⟩:=r;rw[h] at e;refine⟨b,S2,rfl,?_⟩;dsimp only at e ⊢;split
   ·rename_i hb;rw[if_pos hb] at e;exact⟨f,ρ1,S1,e,q⟩
   ·rename_i hb;rw[if_neg hb] at e;exact⟨f,ρ1,S1,e,q⟩
 ·rintro⟨b,S2,e,q⟩;rw[e];dsimp only;split
  ·rename_i hb;rw[if_pos hb] at q;exact q
  ·rename_i hb;rw[if_neg hb] at q;exact q
theorem zQ{x:XE}{t:Tg}{Q:Fl->Rho->Sto->Prop}:OkS (i7 x t ρ S) Q=Ok (x ρ S) fun d S1=>∃ρ1,am t d ρ=some ρ1/\Q .nx ρ1 S1:=by
 apply propext;unfold i7;constructor
 ·rintro⟨f,ρ1,S1,e,q⟩;cases h:x ρ S with
  |none=>rw[h] at e;cases e
  |some r=>
   obtain⟨d,S2⟩:=r;rw[h] at e;dsimp only at e;cases h2:am t d ρ with
   |none=>rw[h2] at e;cases e
   |some ρ2=>rw[h2] at e;cases e;exact⟨d,_,rfl,ρ1,h2,q⟩
 ·rintro⟨d,S2,e,ρ1,e2,q⟩;rw[e];dsimp only;rw[e2];exact⟨_,_,_,rfl,q⟩
theorem wk{x:XE}{Q:Fl->Rho->Sto->Prop}:OkS (mW x ρ S) Q=Ok (x ρ S) fun _ S1=>Q .nx ρ S1:=by
 apply propext;unfold mW;constructor
 ·rintro⟨f,ρ1,S1,e,q⟩;cases h:x ρ S with
  |none=>rw[h] at e;cases e
  |some r=>rw[h] at e;cases e;exact⟨_,_,rfl,q⟩
 ·rintro⟨d,S2,e,q⟩;rw[e];exact⟨_,_,_,rfl,q⟩
theorem zR{x:XE}{Q:Fl->Rho->Sto->Prop}:OkS (uR x ρ S) Q=Ok (x ρ S) fun d S1=>Q (.rt d) ρ S1:=by
 apply propext;unfold uR;constructor
 ·rintro⟨f,ρ1,S1,e,q⟩;cases h:x ρ S with
  |none=>rw[h] at e;cases e
  |some r=>rw[h] at e;cases e;exact⟨_,_,rfl,q⟩
 ·rintro⟨d,S2,e,q⟩;rw[e];exact⟨_,_,_,rfl,q⟩
theorem wm{v o i:XE}{Q:Fl->Rho->Sto->Prop}:OkS (mX v o i ρ S) Q=Ok (v ρ S) fun a S1=>Ok (o ρ S1) fun b S2=>Ok (i ρ S2) fun c S3=>∃S4,lB b c a S3=some S4/\Q .nx ρ S4:=by
 apply propext;unfold mX;constructor
 ·rintro⟨f,ρ1,S1,e,q⟩;cases h:v ρ S with
  |none=>rw[h] at e;cases e
  |some r=>
   rw[h] at e;dsimp only at e;cases h2:o ρ r.2 with
   |none=>rw[h2] at e;cases e
   |some r2=>
    rw[h2] at e;dsimp only at e;cases h3:i ρ r2.2 with
    |none=>rw[h3] at e;cases e
    |some r3=>
     rw[h3] at e;dsimp only at e;cases h4:lB r2.1 r3.1 r.1 r3.2 with
     |none=>rw[h4] at e;cases e
     |some S4=>rw[h4] at e;cases e;exact⟨_,_,rfl,_,_,h2,_,_,h3,_,h4,q⟩
 ·rintro⟨a,S1,e1,b,S2,e2,c,S3,e3,S4,e4,q⟩;rw[e1];dsimp only;rw[e2];dsimp only;rw[e3];dsimp only;rw[e4];exact⟨_,_,_,rfl,q⟩
theorem zS{it:XI}{tg:Tg}{b:XS}{k:Nat}{Q:Fl->Rho->Sto->Prop}:OkS (uS it tg b k ρ S) Q=Ok (it ρ S) fun nx S1=>OkS (dm nx tg b k 0 ρ S1) Q:=by
 apply propext;unfold uS;constructor
 ·rintro⟨f,ρ1,S1,e,q⟩;cases h:it ρ S with
  |none=>rw[h] at e;cases e
  |some r=>rw[h] at e;exact⟨_,_,rfl,_,_,_,e,q⟩
 ·rintro⟨d,S2,e,q⟩;rw[e];exact q
def out(Q:D->Sto->Prop)(f:Fl)(_:Rho)(S:Sto):Prop:=match f with
 |.rt v=>Q v S
 |.nx=>Q .non S
 |_=>False
theorem Ek{Q:D->Sto->Prop}{d:D}:out Q (.rt d) ρ S=Q d S:=rfl
theorem El{Q:D->Sto->Prop}:out Q .nx ρ S=Q .non S:=rfl
theorem bz{ad:List DefE}{k f:Nat}{d:DefE}{ds:List D}{Q:D->Sto->Prop}(hd:ad[f]?=some d)(hρ:ds.map some++Zj (d.N.length - ds.length) none=ρ)(h:OkS (c7 (evC ad k) (fu ad) 60 d.body ρ S) (out Q))(hr:d.rb=none:=by rfl):Ok (evC ad (k+1) f ds S) Q:=by
 subst hρ;obtain⟨fl,ρ1,S1,e,q⟩:=h;have e:c7 (toC (evX ad k)) (fu ad) FU d.body _ S=some (fl,ρ1,S1):=e;have z:evX ad (k+1) f ds S=(zH (toC (evX ad k)) (fu ad) d ds S).map fun r=>(.val r.1,r.2):=by simp only[evX,hd,hr]
 unfold evC toC;rw[z];unfold zH;rw[e];cases fl with
 |rt v=>exact⟨_,_,rfl,q⟩
 |nx=>exact⟨_,_,rfl,q⟩
 |bk=>exact q.elim
 |ct=>exact q.elim
theorem ky{nx:Nxt}{tg:Tg}{c:XA}{N:Nat}(I:Nat->List D->Sto->Prop)
  (step:∀i acc S,i < N->I i acc S->∃d ρ1,nx i S=some (some d)/\am tg d ρ=some ρ1/\Ok (c ρ1 S) fun es S1=>I (i+1) (acc++es) S1) (stop:∀acc S,I N acc S->nx N S=some none) :
  ∀ (n i k:Nat) (acc:List D) (S:Sto),N=i+n->n < k->I i acc S->Ok (aW nx tg c ρ k i S) fun es S'=>I N (acc++es) S'
 |0,i,k+1,acc,S,hN,hk,h=>by
  obtain rfl:N=i:=by omega
  simp only[aW,stop acc S h];exact⟨_,_,rfl,by show I _ (acc++[]) S;rw[ZS];exact h⟩
 |n+1,i,k+1,acc,S,hN,hk,h=>by
  obtain⟨d,ρ1,e1,e2,es,S1,e3,h'⟩:=step i acc S (by omega) h;simp only[aW,e1,e2,e3,bnd];obtain⟨rs,S2,e4,h2⟩:=ky I step stop n (i+1) k (acc++es) S1 (by omega) (by omega) h';simp only[e4];exact⟨_,_,rfl,by show I _ (acc++(es++rs)) S2;rw[<-Yj];exact h2⟩
theorem cF{nx:Nxt}{tg:Tg}{c:XA}{k:Nat}(N:Nat)(I:Nat->List D->Sto->Prop)(hk:N < k)
  (step:∀i acc S,i < N->I i acc S->∃d ρ1,nx i S=some (some d)/\am tg d ρ=some ρ1/\Ok (c ρ1 S) fun es S1=>I (i+1) (acc++es) S1) (stop:∀acc S,I N acc S->nx N S=some none) (h:I 0 [] S) :
  Ok (aW nx tg c ρ k 0 S) (I N):=(ky I step stop N 0 k [] S (by omega) hk h).mono fun es S' z=>by rw[Yv] at z;exact z
theorem jx{nx:Nxt}{tg:Tg}{b:XS}{N:Nat}{Q:Fl->Rho->Sto->Prop}(I:Nat->Rho->Sto->Prop)
  (step:∀i ρ S,i < N->I i ρ S->∃d ρ1,nx i S=some (some d)/\am tg d ρ=some ρ1/\OkS (b ρ1 S) fun fl ρ2 S2=>match fl with |.nx=>I (i+1) ρ2 S2 |.ct=>I (i+1) ρ2 S2 |.bk=>Q .nx ρ2 S2 |.rt d=>Q (.rt d) ρ2 S2)
  (stop:∀ρ S,I N ρ S->nx N S=some none/\Q .nx ρ S) :
  ∀ (n i k:Nat) (ρ:Rho) (S:Sto),N=i+n->n < k->I i ρ S->OkS (dm nx tg b k i ρ S) Q
 |0,i,k+1,ρ,S,hN,hk,h=>by
  obtain rfl:N=i:=by omega
  simp only[dm,(stop ρ S h).1];exact⟨_,_,_,rfl,(stop ρ S h).2⟩
 |n+1,i,k+1,ρ,S,hN,hk,h=>by
  obtain⟨d,ρ1,e1,e2,fl,ρ2,S2,e3,h'⟩:=step i ρ S (by omega) h;simp only[dm,e1,e2,e3];cases fl with
  |nx=>exact jx I step stop n (i+1) k ρ2 S2 (by omega) (by omega) h'
  |ct=>exact jx I step stop n (i+1) k ρ2 S2 (by omega) (by omega) h'
  |bk=>exact⟨_,_,_,rfl,h'⟩
  |rt d=>exact⟨_,_,_,rfl,h'⟩
theorem gr{nx:Nxt}{tg:Tg}{b:XS}{k:Nat}{Q:Fl->Rho->Sto->Prop}(N:Nat)(I:Nat->Rho->Sto->Prop)(hk:N < k)
  (step:∀i ρ S,i < N->I i ρ S->∃d ρ1,nx i S=some (some d)/\am tg d ρ=some ρ1/\OkS (b ρ1 S) fun fl ρ2 S2=>match fl with |.nx=>I (i+1) ρ2 S2 |.ct=>I (i+1) ρ2 S2 |.bk=>Q .nx ρ2 S2 |.rt d=>Q (.rt d) ρ2 S2)
  (stop:∀ρ S,I N ρ S->nx N S=some none/\Q .nx ρ S) (h:I 0 ρ S):OkS (dm nx tg b k 0 ρ S) Q:=jx I step stop N 0 k ρ S (by omega) hk h
end
mutual
def TD(p:Nat)(S:Sto):Dw.D->D->Prop
 |.non,d=>d = .non
 |.bl b,d=>d = .bl b
 |.int i,d=>d = .int i
 |.str x,d=>d = .str x
 |.tup ts,d=>∃ds,d = .tup ds/\TDs p S ts ds
 |.lst ts,d=>∃n ds,d = .ref n/\n ≠ p/\S[n]?=some (.lst ds)/\TDs p S ts ds
 |.dic ks ts,d=>∃n ds,d = .ref n/\n ≠ p/\S[n]?=some (.dic ks ds)/\TDs p S ts ds
def TDs(p:Nat)(S:Sto):List Dw.D->List D->Prop
 |[],ds=>ds=[]
 |t::ts,ds=>∃d r,ds=d::r/\TD p S t d/\TDs p S ts r
end
def Kp(p:Nat)(S S':Sto):Prop:=∀i o,i ≠ p->S[i]?=some o->S'[i]?=some o
def Sm(S S':Sto):Prop:=∀ (i:Nat) (o:Ob),S[i]?=some o->S'[i]?=some o
theorem Sm.kp{p:Nat}{S S':Sto}(h:Sm S S'):Kp p S S':=fun i o _ e=>h i o e
theorem Sm.refl(S:Sto):Sm S S:=fun _ _ e=>e
theorem Sm.trans{S S1 S2:Sto}(a:Sm S S1)(b:Sm S1 S2):Sm S S2:=fun i o e=>b i o (a i o e)
theorem Sm.app(S X:Sto):Sm S (S++X):=fun i o e=>by
 have hi:=(Za.mp e).1;rw[Zo hi];exact e
theorem Kp.refl(p:Nat)(S:Sto):Kp p S S:=fun _ _ _ e=>e
theorem Kp.trans{p:Nat}{S S1 S2:Sto}(a:Kp p S S1)(b:Kp p S1 S2):Kp p S S2:=fun i o n e=>b i o n (a i o n e)
mutual
theorem TD.keep{p:Nat}{S S':Sto}(k:Kp p S S'):∀ {t:Dw.D} {d:D},TD p S t d->TD p S' t d
 |.non,_,h=>by rw[TD] at h ⊢;exact h
 |.bl _,_,h=>by rw[TD] at h ⊢;exact h
 |.int _,_,h=>by rw[TD] at h ⊢;exact h
 |.str _,_,h=>by rw[TD] at h ⊢;exact h
 |.tup ts,_,h=>by rw[TD] at h ⊢;obtain⟨ds,e,q⟩:=h;exact⟨ds,e,TDs.keep k q⟩
 |.lst ts,_,h=>by rw[TD] at h ⊢;obtain⟨n,ds,e,ne,a,q⟩:=h;exact⟨n,ds,e,ne,k _ _ ne a,TDs.keep k q⟩
 |.dic ks ts,_,h=>by rw[TD] at h ⊢;obtain⟨n,ds,e,ne,a,q⟩:=h;exact⟨n,ds,e,ne,k _ _ ne a,TDs.keep k q⟩
theorem TDs.keep{p:Nat}{S S':Sto}(k:Kp p S S'):∀ {ts:List Dw.D} {ds:List D},TDs p S ts ds->TDs p S' ts ds
 |[],_,h=>by rw[TDs] at h ⊢;exact h
 |t::ts,_,h=>by rw[TDs] at h ⊢;obtain⟨d,r,e,a,q⟩:=h;exact⟨d,r,e,TD.keep k a,TDs.keep k q⟩
end
section
variable {p:Nat} {S S':Sto}
theorem Em:TD p S .non .non:=by rw[TD]
theorem qU{b:Bool}:TD p S (.bl b) (.bl b):=by rw[TD]
theorem bU{i:Int}:TD p S (.int i) (.int i):=by rw[TD]
theorem ph{x:Str}:TD p S (.str x) (.str x):=by rw[TD]
theorem bg{ts:List Dw.D}{ds:List D}(h:TDs p S ts ds):TD p S (.tup ts) (.tup ds):=by rw[TD];exact⟨ds,rfl,h⟩
theorem aF:TDs p S [] []:=by rw[TDs]
theorem ac{t:Dw.D}{d:D}{ts:List Dw.D}{ds:List D}(h:TD p S t d)(q:TDs p S ts ds):TDs p S (t::ts) (d::ds):=by rw[TDs];exact⟨d,ds,rfl,h,q⟩
theorem TD.non{d:D}(h:TD p S .non d):d = .non:=by rw[TD] at h;exact h
theorem TD.bl{b:Bool}{d:D}(h:TD p S (.bl b) d):d = .bl b:=by rw[TD] at h;exact h
theorem TD.int{i:Int}{d:D}(h:TD p S (.int i) d):d = .int i:=by rw[TD] at h;exact h
theorem TD.str{x:Str}{d:D}(h:TD p S (.str x) d):d = .str x:=by rw[TD] at h;exact h
theorem TD.tup{ts:List Dw.D}{d:D}(h:TD p S (.tup ts) d):∃ds,d = .tup ds/\TDs p S ts ds:=by rw[TD] at h;exact h
theorem TDs.cons{t:Dw.D}{ts:List Dw.D}{ds:List D}(h:TDs p S (t::ts) ds):∃d r,ds=d::r/\TD p S t d/\TDs p S ts r:=by rw[TDs] at h;exact h
theorem TDs.nil{ds:List D}(h:TDs p S [] ds):ds=[]:=by rw[TDs] at h;exact h
theorem TDs.len:∀ {ts:List Dw.D} {ds:List D},TDs p S ts ds->ds.length=ts.length
 |[],_,h=>by rw[h.nil];rfl
 |t::ts,_,h=>by obtain⟨d,r,rfl,_,q⟩:=h.cons;simp[q.len]
theorem TDs.get:∀ {ts:List Dw.D} {ds:List D} {i:Nat} {t:Dw.D},TDs p S ts ds->ts[i]?=some t->∃d,ds[i]?=some d/\TD p S t d
 |[],_,_,_,_,e=>by simp at e
 |t::ts,_,0,_,h,e=>by obtain⟨d,r,rfl,a,q⟩:=h.cons;simp at e;subst e;exact⟨d,rfl,a⟩
 |t::ts,_,i+1,_,h,e=>by obtain⟨d,r,rfl,a,q⟩:=h.cons;simp at e;obtain⟨x,hx,y⟩:=q.get e;exact⟨x,by simpa using hx,y⟩
theorem TDs.app:∀ {ts us:List Dw.D} {ds es:List D},TDs p S ts ds->TDs p S us es->TDs p S (ts++us) (ds++es)
 |[],_,_,_,h,q=>by rw[h.nil];exact q
 |t::ts,_,_,_,h,q=>by obtain⟨d,r,rfl,a,z⟩:=h.cons;exact ac a (z.app q)
theorem TDs.drop:∀ {ts:List Dw.D} {ds:List D} (n:Nat),TDs p S ts ds->TDs p S (ts.drop n) (ds.drop n)
 |[],_,n,h=>by rw[h.nil];simp[aF]
 |t::ts,_,0,h=>by simpa using h
 |t::ts,_,n+1,h=>by obtain⟨d,r,rfl,a,z⟩:=h.cons;simpa using z.drop n
theorem TDs.take:∀ {ts:List Dw.D} {ds:List D} (n:Nat),TDs p S ts ds->TDs p S (ts.take n) (ds.take n)
 |[],_,n,h=>by rw[h.nil];simp[aF]
 |t::ts,_,0,h=>by simp[aF]
 |t::ts,_,n+1,h=>by obtain⟨d,r,rfl,a,z⟩:=h.cons;simpa using ac a (z.take n)
theorem TDs.cut{ts:List Dw.D}{ds:List D}(lo hi:Option Int)(h:TDs p S ts ds):TDs p S (Dw.aY ts lo hi) (aY ds lo hi):=by
 unfold Dw.aY aY;rw[h.len];exact(h.drop _).take _
noncomputable def tyT:Dw.D->String
 |.non => "NoneType" |.bl _ => "bool" |.int _ => "int" |.str _ => "str" |.tup _ => "tuple" |.lst _ => "list" |.dic _ _ => "dict"
theorem Iz{t:Dw.D}{d:D}(h:TD p S t d):tyN d S=some (tyT t):=by
 cases t with
 |non=>rw[h.non];rfl
 |bl _=>rw[h.bl];rfl
 |int _=>rw[h.int];rfl
 |str _=>rw[h.str];rfl
 |tup _=>obtain⟨_,rfl,_⟩:=h.tup;rfl
 |lst _=>rw[TD] at h;obtain⟨n,ds,rfl,_,e,_⟩:=h;simp only[tyN,e];rfl
 |dic _ _=>rw[TD] at h;obtain⟨n,ds,rfl,_,e,_⟩:=h;simp only[tyN,e];rfl
theorem fg{ty:Ty}{t:Dw.D}{d:D}(h:TD p S t d):gY ty d S=some (.bl (dY ty (tyT t)),S):=by
 unfold gY;rw[Iz h];rfl
end
theorem zT{g:List D->Sto->Option (D × Sto)}{n:Nat}{x:XA}{ρ:Rho}{S:Sto}{Q:D->Sto->Prop}:Ok (m6 g n x ρ S) Q=Ok (x ρ S) fun ds S1=>ds.length=n/\Ok (g ds S1) Q:=by
 unfold m6;rw[a9]
 congr 1
 funext ds S1
 rw[cE,aM];apply propext;split
 ·rename_i h;exact⟨fun z=>⟨h,z⟩,fun z=>z.2⟩
 ·rename_i h;exact⟨fun z=>z.elim,fun z=>(h z.1).elim⟩
theorem En{x y:XE}{ρ:Rho}{S:Sto}{Q:D->Sto->Prop}:Ok (uX x y ρ S) Q=Ok (x ρ S) fun d S1=>∃b,d = .bl b/\if b=true then Ok (y ρ S1) Q else Q (.bl false) S1:=by
 unfold uX;rw[a9]
 congr 1
 funext d S1
 apply propext;cases d with
 |bl b=>cases b <;> simp[ae]
 |_=>simp[aM]
theorem IA{x y:XE}{ρ:Rho}{S:Sto}{Q:D->Sto->Prop}:Ok (xOr x y ρ S) Q=Ok (x ρ S) fun d S1=>∃b,d = .bl b/\if b=true then Q (.bl true) S1 else Ok (y ρ S1) Q:=by
 unfold xOr;rw[a9]
 congr 1
 funext d S1
 apply propext;cases d with
 |bl b=>cases b <;> simp[ae]
 |_=>simp[aM]
theorem Eo{d:D}{S:Sto}{Q:D->Sto->Prop}:Ok (sB d S) Q=∃b,d = .bl b/\Q (.bl (!b)) S:=by
 apply propext;cases d with
 |bl b=>simp[sB,ae]
 |_=>simp[sB,aM]
theorem Ep{f g:D->D->Sto->Option (D × Sto)}{x y z:XE}{ρ:Rho}{S:Sto}{Q:D->Sto->Prop}:Ok (sC f g x y z ρ S) Q=Ok (x ρ S) fun a S1=>Ok (y ρ S1) fun b S2=>Ok (f a b S2) fun r S3=>∃c,r = .bl c/\if c=true then Ok (z ρ S3) fun e S4=>Ok (g b e S4) Q else Q (.bl false) S3:=by
 unfold sC;rw[a9]
 congr 1
 funext a S1
 rw[a9]
 congr 1
 funext b S2
 rw[a9]
 congr 1
 funext r S3
 apply propext;cases r with
 |bl c=>cases c <;> simp[ae,a9]
 |_=>simp[aM]
theorem Er{i:Nat}{ρ:Rho}{S:Sto}{Q:D->Sto->Prop}:Ok (se i ρ S) Q=∃d,ρ[i]?=some (some d)/\Q d S:=by
 apply propext;unfold se;cases h:ρ[i]? with
 |none=>simp[aM]
 |some o=>cases o with
  |none=>simp[aM]
  |some d=>simp[ae]
theorem IB{i j:Int}{S:Sto}{Q:D->Sto->Prop}:Ok (az .le (.int i) (.int j) S) Q=Q (.bl (decide (i<=j))) S:=ae
theorem IC{i j:Int}{S:Sto}{Q:D->Sto->Prop}:Ok (az .lt (.int i) (.int j) S) Q=Q (.bl (decide (i < j))) S:=ae
theorem IE{i j:Int}{S:Sto}{Q:D->Sto->Prop}:Ok (az .gt (.int i) (.int j) S) Q=Q (.bl (decide (j < i))) S:=ae
theorem IG{i j:Int}{S:Sto}{Q:D->Sto->Prop}:Ok (az .ge (.int i) (.int j) S) Q=Q (.bl (decide (j<=i))) S:=ae
theorem Es{i j:Int}{S:Sto}{Q:D->Sto->Prop}:Ok (bI .add (.int i) (.int j) S) Q=Q (.int (i+j)) S:=ae
theorem Et{i j:Int}{S:Sto}{Q:D->Sto->Prop}:Ok (bI .sub (.int i) (.int j) S) Q=Q (.int (i - j)) S:=ae
theorem IH{x:XE}{ρ:Rho}{S:Sto}{Q:Bool->Sto->Prop}:Ok (xB x ρ S) Q=Ok (x ρ S) fun d S1=>∃b,d = .bl b/\Q b S1:=by
 unfold xB;rw[a9]
 congr 1
 funext d S1
 apply propext;cases d with
 |bl b=>simp[ae]
 |_=>simp[aM]
theorem zU{own k:Nat}{it:XI}{tg:Tg}{c:XA}{ρ:Rho}{S:Sto}{Q:List D->Sto->Prop}:Ok (i8 own it tg c k ρ S) Q=Ok (it ρ S) fun nx S1=>cN tg (ρ++Zj own none)=true/\Ok (aW nx tg c (ρ++Zj own none) k 0 S1) fun es S2=>es.length<=100000/\Q es S2:=by
 unfold i8;rw[a9]
 congr 1
 funext nx S1
 rw[cE,aM];apply propext
 have e:Ok (bnd (aW nx tg c (ρ++Zj own none) k 0 S1) fun es S2=>if es.length<=100000 then some (es,S2) else none) Q=Ok (aW nx tg c (ρ++Zj own none) k 0 S1) fun es S2=>es.length<=100000/\Q es S2:=by
  rw[a9]
  congr 1
  funext es S2
  rw[cE,aM,ae];apply propext;split
  ·rename_i h;exact⟨fun z=>⟨h,z⟩,fun z=>z.2⟩
  ·rename_i h;exact⟨fun z=>z.elim,fun z=>(h z.1).elim⟩
 rw[e];split
 ·rename_i h;exact⟨fun z=>⟨h,z⟩,fun z=>z.2⟩
 ·rename_i h;exact⟨fun z=>z.elim,fun z=>(h z.1).elim⟩
theorem wn{k:Nat}{it:XI}{tg:Tg}{c:XA}{ρ:Rho}{S:Sto}{Q:List D->Sto->Prop}:Ok (gK it tg c k ρ S) Q=(cN tg ρ=true/\Ok (it ρ S) fun nx S1=>Ok (aW nx tg c ρ k 0 S1) Q):=by
 unfold gK;rw[cE,aM,a9];apply propext;split
 ·rename_i h;exact⟨fun z=>⟨h,z⟩,fun z=>z.2⟩
 ·rename_i h;exact⟨fun z=>z.elim,fun z=>(h z.1).elim⟩
theorem zV{x:XA}{ρ:Rho}{S:Sto}{Q:List D->Sto->Prop}:Ok (j5 x ρ S) Q=Ok (x ρ S) fun ds S1=>ds.length<=1000/\Q ds S1:=by
 unfold j5;rw[a9]
 congr 1
 funext ds S1
 rw[cE,aM,ae];apply propext;split
 ·rename_i h;exact⟨fun z=>⟨h,z⟩,fun z=>z.2⟩
 ·rename_i h;exact⟨fun z=>z.elim,fun z=>(h z.1).elim⟩
theorem zW{ds:List D}{S:Sto}{Q:D->Sto->Prop}:Ok (ig ds S) Q=(ds.length<=1000/\Q (.tup ds) S):=by
 unfold ig;rw[cE,aM,ae];apply propext;split
 ·rename_i h;exact⟨fun z=>⟨h,z⟩,fun z=>z.2⟩
 ·rename_i h;exact⟨fun z=>z.elim,fun z=>(h z.1).elim⟩
theorem dF{α:Type}(l:List α)(g:α->Bool)(S:Sto):jM false (l.map fun t=>D.bl (g t)) S=some (.bl (l.all g),S):=by
 unfold jM;have h1:(l.map fun t=>D.bl (g t)).all uE=true:=by rw[Yh];simp[Function.comp_def,uE]
 have h2:(l.map fun t=>D.bl (g t)).all su=l.all g:=by rw[Yh];rfl
 rw[if_pos ⟨rfl,h1⟩,h2]
theorem gu{p:Nat}{S:Sto}{ts:List Dw.D}{ds:List D}{tg:Tg}{c:XA}{ρ:Rho}{Q:List D->Sto->Prop}(h:TDs p S ts ds)(hl:ts.length<=100000)(g:Dw.D->Bool)
  (step:∀ (i:Nat) t d S',ts[i]?=some t->Sm S S'->TD p S' t d->∃ρ1,am tg d ρ=some ρ1/\Ok (c ρ1 S') fun es S1=>es=[.bl (g t)]/\Sm S' S1) (q:∀S',Sm S S'->Q (ts.map fun t=>.bl (g t)) S') :
  Ok (aW (nxL ds) tg c ρ LF 0 S) fun es S2=>es.length<=100000/\Q es S2:=by
 refine(cF ts.length (fun i acc S'=>Sm S S'/\acc=(ts.take i).map fun t=>.bl (g t)) (by unfold LF;omega) (fun i acc S' hi ⟨sm,ea⟩=>?_) (fun acc S' ⟨sm,ea⟩=>?_) ⟨Sm.refl S,by simp⟩).mono fun es S' ⟨sm,ea⟩=>?_
 ·obtain⟨d,e1,td⟩:=h.get (gEG hi);obtain⟨ρ1,e2,es,S1,e3,rfl,sm'⟩:=step i ts[i] d S' (gEG hi) sm (td.keep sm.kp);refine⟨d,ρ1,by show some ds[i]?=_;rw[e1],e2,_,S1,e3,sm.trans sm',?_⟩;rw[ea,ZX hi,ZJ];rfl
 ·show some ds[ts.length]?=_;rw[ZH (by rw[h.len];omega)]
 ·rw[Xh] at ea;subst ea;exact⟨by rw[Zc];exact hl,q S' sm⟩
theorem zX{S:Sto}{n:Nat}{lo:Int}{tg:Tg}{c:XA}{ρ:Rho}{Q:List D->Sto->Prop}(hl:n<=100000)(g:Nat->Bool)
  (step:∀ (i:Nat) S',i < n->Sm S S'->∃ρ1,am tg (.int (lo+i)) ρ=some ρ1/\Ok (c ρ1 S') fun es S1=>es=[.bl (g i)]/\Sm S' S1) (q:∀S',Sm S S'->Q ((Zm n).map fun i=>.bl (g i)) S') :
  Ok (aW (nxR lo n) tg c ρ LF 0 S) fun es S2=>es.length<=100000/\Q es S2:=by
 refine(cF n (fun i acc S'=>Sm S S'/\acc=(Zm i).map fun t=>.bl (g t)) (by unfold LF;omega) (fun i acc S' hi ⟨sm,ea⟩=>?_) (fun acc S' ⟨sm,ea⟩=>?_) ⟨Sm.refl S,by simp⟩).mono fun es S' ⟨sm,ea⟩=>?_
 ·obtain⟨ρ1,e2,es,S1,e3,rfl,sm'⟩:=step i S' hi sm;refine⟨_,ρ1,by show some (if i < n then some (D.int (lo+i)) else none)=_;rw[if_pos hi],e2,_,S1,e3,sm.trans sm',?_⟩;rw[ea,Yw,ZJ];rfl
 ·show some (if n < n then some (D.int (lo+n)) else none)=_;rw[if_neg (ZK n)]
 ·subst ea;exact⟨by rw[Zc,ZG];exact hl,q S' sm⟩
theorem pj{S:Sto}{m n:Nat}{tg:Tg}{c:XA}{ρ:Rho}(hm:S[m]?=some (.lst ((Zm n).map fun j=>.int (Int.ofNat j))))(hn:n<=1000)(f:Nat->List D)
  (step:∀ (i:Nat) S',i < n->Sm S S'->∃ρ1,am tg (.int i) ρ=some ρ1/\Ok (c ρ1 S') fun es S1=>es=f i/\Sm S' S1):Ok (aW (nxS m) tg c ρ LF 0 S) fun es S2=>es=(Zm n).flatMap f/\Sm S S2:=by
 refine(cF n (fun i acc S'=>Sm S S'/\acc=(Zm i).flatMap f) (by unfold LF;omega) (fun i acc S' hi ⟨sm,ea⟩=>?_) (fun acc S' ⟨sm,ea⟩=>?_) ⟨Sm.refl S,by simp⟩).mono fun es S' ⟨sm,ea⟩=>⟨ea,sm⟩
 ·obtain⟨ρ1,e2,es,S1,e3,rfl,sm'⟩:=step i S' hi sm;refine⟨.int i,ρ1,?_,e2,_,S1,e3,sm.trans sm',?_⟩
  ·show(ah S' m).map (fun ds=>ds[i]?)=_;simp only[ah,sm _ _ hm,Zz,Zt,Yz hi];rfl
  ·rw[ea,Dw.eR]
 ·show(ah S' m).map (fun ds=>ds[n]?)=_;simp only[ah,sm _ _ hm,Zz];rw[ZH (by simp)]
theorem wo{x:XA}{ρ:Rho}{S:Sto}{Q:D->Sto->Prop}:Ok (cS x ρ S) Q=Ok (x ρ S) fun ds S1=>Q (.ref S1.length) (S1++[.lst ds]):=by
 unfold cS;rw[a9]
 congr 1
 funext ds S1
 rw[ae]
theorem Eu{x:XE}{ρ:Rho}{S:Sto}{Q:List D->Sto->Prop}(h:Ok (x ρ S) fun d S1=>∃i:Nat,d = .int i/\i<=1000/\Q ((Zm i).map fun j=>.int (Int.ofNat j)) S1):Ok (sD x ρ S) Q:=by
 unfold sD;rw[a9];refine h.mono fun d S1 ⟨i,e,hi,q⟩=>?_;subst e;dsimp only;rw[if_pos (by omega),ae,ZN];exact q
theorem zY{x y:XE}{ρ:Rho}{S:Sto}{Q:List D->Sto->Prop}(h:Ok (x ρ S) fun d S1=>Ok (y ρ S1) fun e S2=>∃i j,d = .int i/\e = .int j/\-100000<=i/\i<=j/\j<=i+1000/\i<=100000/\Q (rgD i j) S2):Ok (ka x y ρ S) Q:=by
 unfold ka;rw[a9];refine h.mono fun d S1 h=>?_;rw[a9];refine h.mono fun e S2 ⟨i,j,ei,ej,h1,h2,h3,h4,q⟩=>?_;subst ei ej;dsimp only;rw[if_pos ⟨h1,h2,h3,h4⟩,ae];exact q
theorem zZ(i j:Int)(S:Sto):az .eq (.int i) (.int j) S=some (.bl (decide (i=j)),S):=by
 simp only[az,eqS];have:eqD 60 S (.int i) (.int j)=some (i == j):=rfl;rw[this];rfl
theorem z6(i j:Int)(S:Sto):az .ne (.int i) (.int j) S=some (.bl (!decide (i=j)),S):=qp (x:=.int i) (y:=.int j) (b:=decide (i=j)) rfl
theorem Ew{i j:Int}{S:Sto}{Q:D->Sto->Prop}:Ok (az .eq (.int i) (.int j) S) Q=Q (.bl (decide (i=j))) S:=by rw[zZ,ae]
theorem Ex{i j:Int}{S:Sto}{Q:D->Sto->Prop}:Ok (az .ne (.int i) (.int j) S) Q=Q (.bl (!decide (i=j))) S:=by rw[z6,ae]
theorem z7{i:Nat}{d:D}{ρ:Rho}:am (.name i) d ρ=if i < ρ.length then some (ρ.set i (some d)) else none:=by simp only[am]
theorem wq{ts:List Tg}{ds:List D}{ρ:Rho}:am (.tup ts) (.tup ds) ρ=ax ts ds ρ:=by simp only[am]
theorem qV{ρ:Rho}:ax [] [] ρ=some ρ:=by simp only[ax]
theorem nG{i:Nat}{ts:List Tg}{d:D}{ds:List D}{ρ:Rho}:ax (.name i::ts) (d::ds) ρ=if i < ρ.length then ax ts ds (ρ.set i (some d)) else none:=by
 simp only[ax,am];split
 ·rename_i ρ' h;split at h
  ·rename_i hc;cases h;rw[if_pos hc]
  ·cases h
 ·rename_i h;split at h
  ·cases h
  ·rename_i hc;rw[if_neg hc]
theorem pk{i j:Nat}{a b:D}{ρ:Rho}(h1:i < ρ.length)(h2:j < ρ.length):am (.tup [.name i,.name j]) (.tup [a,b]) ρ=some ((ρ.set i (some a)).set j (some b)):=by
 rw[wq,nG,if_pos h1,nG,if_pos (by rw[YR];exact h2),qV]
noncomputable def eK:Dw.D->Bool
 |.tup _=>true
 |_=>false
theorem cG{p:Nat}{S:Sto}{t:Dw.D}{d:D}(h:TD p S t d):gY .tuple d S=some (.bl (eK t),S):=by
 rw[fg h];cases t <;> rfl
theorem aZ{S:Sto}{a:Nat}{es:List D}(h:S[a]?=some (.lst es)):ah S a=some es:=by simp only[ah,h]
theorem z8{S:Sto}{a b n:Nat}{es:List D}(h1:S[a]?=some (.lst es))(h2:S[b]?=some (.lst []))(hn:a ≠ b):eqD (n+1) S (.ref a) (.ref b)=some es.isEmpty:=by
 show(match ah S a,ah S b with |some xs,some ys=>if a=b then some true else if xs.length=ys.length then eqL (eqD n S) xs ys else some false |_,_=>none)=_;rw[aZ h1,aZ h2];show(if a=b then some true else if es.length=([]:List D).length then eqL (eqD n S) es [] else some false)=_;rw[if_neg hn];cases es with
 |nil=>simp[eqL]
 |cons x xs=>simp
theorem ne_nil{S:Sto}{a b:Nat}{es:List D}(h1:S[a]?=some (.lst es))(h2:S[b]?=some (.lst []))(hn:a ≠ b):az .ne (.ref a) (.ref b) S=some (.bl (!es.isEmpty),S):=qp (z8 h1 h2 hn)
theorem qW{S:Sto}{es:List D}:az .ne (.ref (Zv S)) (.ref (Zv (S++[Ob.lst es]))) (S++[Ob.lst es]++[Ob.lst []])=some (.bl (!es.isEmpty),S++[Ob.lst es]++[Ob.lst []]):=
 ne_nil (by rw[Yj,Zg (Ze _),ZU];rfl) (by rw[Zg (Ze _),ZU];rfl) (by simp)
theorem pq{n:Nat}{g:Nat->Bool}{f:Nat->D}:((Zm n).flatMap fun i=>if g i=true then [f i] else []).isEmpty=(Zm n).all fun i=>!g i:=by
 induction n with
 |zero=>rfl
 |succ n ih=>
  rw[Dw.eR,Yw,List.all_append,<-ih];cases h:g n <;> simp[h]
theorem Ey{p:Nat}{S:Sto}{ts:List Dw.D}{ds:List D}{tg:Tg}{c:XA}{ρ:Rho}{Q:List D->Sto->Prop}(h:TDs p S ts ds)(hl:ts.length<=100000)(g:Nat->Bool)
  (step:∀ (i:Nat) t d S',ts[i]?=some t->Sm S S'->TD p S' t d->∃ρ1,am tg (.tup [.int i,d]) ρ=some ρ1/\Ok (c ρ1 S') fun es S1=>es=(if g i=true then [.int i] else [])/\Sm S' S1) (q:∀es S',Sm S S'->es.isEmpty=((Zm ts.length).all fun i=>!g i)->Q es S') :
  Ok (aW (mU ds) tg c ρ LF 0 S) fun es S2=>es.length<=100000/\Q es S2:=by
 have key:∀n:Nat,((Zm n).flatMap fun i=>if g i=true then [D.int (Int.ofNat i)] else []).length<=n:=fun n=>by
  have:=Dw.kU (n:=n) (m:=1) (f:=fun i=>if g i=true then [D.int (Int.ofNat i)] else []) fun i _=>by split <;> simp
  omega
 refine(cF ts.length (fun i acc S'=>Sm S S'/\acc=(Zm i).flatMap fun i=>if g i=true then [D.int (Int.ofNat i)] else []) (by unfold LF;omega) (fun i acc S' hi ⟨sm,ea⟩=>?_) (fun acc S' ⟨sm,ea⟩=>?_) ⟨Sm.refl S,by simp⟩).mono fun es S' ⟨sm,ea⟩=>?_
 ·obtain⟨d,e1,td⟩:=h.get (gEG hi);obtain⟨ρ1,e2,es,S1,e3,rfl,sm'⟩:=step i ts[i] d S' (gEG hi) sm (td.keep sm.kp);refine⟨.tup [.int i,d],ρ1,?_,e2,_,S1,e3,sm.trans sm',?_⟩
  ·show enm ds i=_;unfold enm;rw[if_pos (by rw[h.len];omega),e1];rfl
  ·rw[ea,Dw.eR];rfl
 ·show enm ds ts.length=_;unfold enm;rw[if_pos (by rw[h.len];omega),ZH (by rw[h.len];omega)];rfl
 ·subst ea;exact⟨Zr (key _) hl,q _ S' sm pq⟩
theorem wr{p:Nat}{S:Sto}{ts:List Dw.D}{ds:List D}{tg:Tg}{b:XS}{ρ:Rho}{Q:Fl->Rho->Sto->Prop}(h:TDs p S ts ds)(hl:ts.length<=100000)(I:Nat->Rho->Prop)
  (step:∀ (i:Nat) t d ρ S',ts[i]?=some t->Sm S S'->TD p S' t d->I i ρ->∃ρ1,am tg d ρ=some ρ1/\OkS (b ρ1 S') fun fl ρ2 S2=>match fl with |.nx=>I (i+1) ρ2/\Sm S' S2 |.ct=>I (i+1) ρ2/\Sm S' S2 |.bk=>Q .nx ρ2 S2 |.rt d=>Q (.rt d) ρ2 S2)
  (q:∀ρ S',Sm S S'->I ts.length ρ->Q .nx ρ S') (h0:I 0 ρ):OkS (dm (nxL ds) tg b LF 0 ρ S) Q:=by
 refine gr ts.length (fun i ρ S'=>I i ρ/\Sm S S') (by unfold LF;omega) (fun i ρ S' hi ⟨iv,sm⟩=>?_) (fun ρ S' ⟨iv,sm⟩=>⟨?_,q ρ S' sm iv⟩) ⟨h0,Sm.refl S⟩
 ·obtain⟨d,e1,td⟩:=h.get (gEG hi);obtain⟨ρ1,e2,z⟩:=step i ts[i] d ρ S' (gEG hi) sm (td.keep sm.kp) iv;refine⟨d,ρ1,by show some ds[i]?=_;rw[e1],e2,z.mono fun fl ρ2 S2 y=>?_⟩;cases fl with
  |nx=>exact⟨y.1,sm.trans y.2⟩
  |ct=>exact⟨y.1,sm.trans y.2⟩
  |bk=>exact y
  |rt d=>exact y
 ·show some ds[ts.length]?=_;rw[ZH (by rw[h.len];omega)]
theorem II{p:Nat}{S:Sto}{ts:List Dw.D}{ds:List D}{tg:Tg}{b:XS}{ρ:Rho}{Q:Fl->Rho->Sto->Prop}(h:TDs p S ts ds)(hl:ts.length<=100000)(I:Nat->Rho->Prop)
  (step:∀ (i:Nat) t d ρ S',ts[i]?=some t->Sm S S'->TD p S' t d->I i ρ->∃ρ1,am tg (.tup [.int i,d]) ρ=some ρ1/\OkS (b ρ1 S') fun fl ρ2 S2=>match fl with |.nx=>I (i+1) ρ2/\Sm S' S2 |.ct=>I (i+1) ρ2/\Sm S' S2 |.bk=>Q .nx ρ2 S2 |.rt d=>Q (.rt d) ρ2 S2)
  (q:∀ρ S',Sm S S'->I ts.length ρ->Q .nx ρ S') (h0:I 0 ρ):OkS (dm (mU ds) tg b LF 0 ρ S) Q:=by
 refine gr ts.length (fun i ρ S'=>I i ρ/\Sm S S') (by unfold LF;omega) (fun i ρ S' hi ⟨iv,sm⟩=>?_) (fun ρ S' ⟨iv,sm⟩=>⟨?_,q ρ S' sm iv⟩) ⟨h0,Sm.refl S⟩
 ·obtain⟨d,e1,td⟩:=h.get (gEG hi);obtain⟨ρ1,e2,z⟩:=step i ts[i] d ρ S' (gEG hi) sm (td.keep sm.kp) iv;refine⟨.tup [.int i,d],ρ1,?_,e2,z.mono fun fl ρ2 S2 y=>?_⟩
  ·show enm ds i=_;unfold enm;rw[if_pos (by rw[h.len];omega),e1];rfl
  ·cases fl with
   |nx=>exact⟨y.1,sm.trans y.2⟩
   |ct=>exact⟨y.1,sm.trans y.2⟩
   |bk=>exact y
   |rt d=>exact y
 ·show enm ds ts.length=_;unfold enm;rw[if_pos (by rw[h.len];omega),ZH (by rw[h.len];omega)];rfl
theorem cH{p:Nat}{S:Sto}{ts:List Dw.D}{ds:List D}(h:TDs p S ts ds):aH fI (.tup ds) S=some (.int ts.length,S):=by
 simp only[aH,au,fI,h.len]
theorem bJ{p:Nat}{S:Sto}{ts:List Dw.D}{ds:List D}{i:Nat}{t:Dw.D}{Q:D->Sto->Prop}(h:TDs p S ts ds)(e:ts[i]?=some t)(q:∀d,TD p S t d->Q d S):Ok (ixS (.tup ds) (.int i) S) Q:=by
 obtain⟨d,e1,td⟩:=h.get e;have hi:=(Za.mp e1).1
 have ea:atI ds (i:Int)=some d:=by
  unfold atI ixN;rw[if_pos (by omega),if_pos (by omega),ZN];exact e1
 simp only[ixS,au,ea,Zz];rw[ae];exact q d td
section
variable {S S' S1 S2:Sto} {p:Nat} {Q:D->Sto->Prop} {ρ:Rho}
theorem Ez{i j:Int}:Ok (bI .mod (.int i) (.int j) S) Q=(0 < j/\Q (.int (i % j)) S):=by
 simp only[bI,Du,cE,ae,aM];apply propext;split
 ·rename_i h;exact⟨fun z=>⟨h,z⟩,fun z=>z.2⟩
 ·rename_i h;exact⟨fun z=>z.elim,fun z=>(h z.1).elim⟩
theorem z9{i j:Int}:Ok (bI .fdiv (.int i) (.int j) S) Q=((0 < j/\j < 1237940039285380274899124224)/\Q (.int (i / j)) S):=by
 simp only[bI,uz,cE,ae,aM];apply propext;split
 ·rename_i h;exact⟨fun z=>⟨h,z⟩,fun z=>z.2⟩
 ·rename_i h;exact⟨fun z=>z.elim,fun z=>(h z.1).elim⟩
theorem EA{i j:Int}:Ok (bI .mul (.int i) (.int j) S) Q=(f9 i j=true/\Q (.int (i * j)) S):=by
 simp only[bI,jL,cE,ae,aM];apply propext;split
 ·rename_i h;exact⟨fun z=>⟨h,z⟩,fun z=>z.2⟩
 ·rename_i h;exact⟨fun z=>z.elim,fun z=>(h z.1).elim⟩
theorem EB{i j:Int}:Ok (bI .pow (.int i) (.int j) S) Q=((0<=j/\j<=1000000/\i.natAbs < 2 ^ 64)/\Q (.int (i ^ j.toNat)) S):=by
 simp only[bI,Dv,cE,ae,aM];apply propext;split
 ·rename_i h;exact⟨fun z=>⟨h,z⟩,fun z=>z.2⟩
 ·rename_i h;exact⟨fun z=>z.elim,fun z=>(h z.1).elim⟩
theorem qX{i j:Int}(h1:-(2 ^ 64) < j)(h2:j < 2 ^ 64):f9 i j=true:=by simp only[f9,YT,bAE,decide_eq_true_eq];exact .inr ⟨h1,h2⟩
theorem lW{i j:Int}(h1:-(2 ^ 64) < i)(h2:i < 2 ^ 64):f9 i j=true:=by simp only[f9,YT,bAE,decide_eq_true_eq];exact .inl ⟨h1,h2⟩
def Pot(p:Nat)(S:Sto):Prop:=∃n:Int,S[p]?=some (.lst [.int n])
structure Dr(p:Nat)(S S':Sto):Prop where
 kp:Kp p S S'
 pot:Pot p S'
theorem Dr.refl(h:Pot p S):Dr p S S:=⟨Kp.refl p S,h⟩
theorem Dr.trans(a:Dr p S S1)(b:Dr p S1 S2):Dr p S S2:=⟨a.kp.trans b.kp,b.pot⟩
theorem Dr.sm(h:Pot p S)(s:Sm S S'):Dr p S S':=⟨s.kp,let ⟨n,e⟩:=h;⟨n,s _ _ e⟩⟩
theorem Dr.thenSm(a:Dr p S S1)(s:Sm S1 S2):Dr p S S2:=a.trans (Dr.sm a.pot s)
theorem Pot.lt(h:Pot p S):p < S.length:=let ⟨_,e⟩:=h;(Za.mp e).1
theorem EC{o:Ob}:Kp p S (S.set p o):=fun i u n e=>by rw[ZP (Ne.symm n)];exact e
theorem wt{o:Ob}(h:p < S.length):(S.set p o)[p]?=some o:=by rw[ZC h]
theorem qY{n:Nat}{lo:Int}{tg:Tg}{b:XS}{Q:Fl->Rho->Sto->Prop}(hl:n<=100000)(I:Nat->Rho->Sto->Prop)
  (step:∀ (i:Nat) ρ S,i < n->I i ρ S->∃ρ1,am tg (.int (lo+i)) ρ=some ρ1/\OkS (b ρ1 S) fun fl ρ2 S2=>match fl with |.nx=>I (i+1) ρ2 S2 |.ct=>I (i+1) ρ2 S2 |.bk=>Q .nx ρ2 S2 |.rt d=>Q (.rt d) ρ2 S2)
  (q:∀ρ S',I n ρ S'->Q .nx ρ S') (h0:I 0 ρ S):OkS (dm (nxR lo n) tg b LF 0 ρ S) Q:=by
 refine gr n I (by unfold LF;omega) (fun i ρ S' hi iv=>?_) (fun ρ S' iv=>⟨?_,q ρ S' iv⟩) h0
 ·obtain⟨ρ1,e2,z⟩:=step i ρ S' hi iv;exact⟨_,ρ1,by show some (if i < n then some (D.int (lo+i)) else none)=_;rw[if_pos hi],e2,z⟩
 ·show some (if n < n then some (D.int (lo+n)) else none)=_;rw[if_neg (ZK n)]
theorem wu{n:Nat}{lo:Int}{tg:Tg}{c:XA}{Q:List D->Sto->Prop}(hl:n<=100000)(I:Nat->List D->Sto->Prop)
  (step:∀ (i:Nat) acc S',i < n->I i acc S'->∃ρ1,am tg (.int (lo+i)) ρ=some ρ1/\Ok (c ρ1 S') fun es S1=>I (i+1) (acc++es) S1) (q:∀es S',I n es S'->es.length<=100000/\Q es S') (h0:I 0 [] S) :
  Ok (aW (nxR lo n) tg c ρ LF 0 S) fun es S2=>es.length<=100000/\Q es S2:=by
 refine(cF n I (by unfold LF;omega) (fun i acc S' hi iv=>?_) (fun acc S' iv=>?_) h0).mono q
 ·obtain⟨ρ1,e2,z⟩:=step i acc S' hi iv;exact⟨_,ρ1,by show some (if i < n then some (D.int (lo+i)) else none)=_;rw[if_pos hi],e2,z⟩
 ·show some (if n < n then some (D.int (lo+n)) else none)=_;rw[if_neg (ZK n)]
theorem ED{x:XA}{y:XE}:Ok (oD x y ρ S) Q=Ok (x ρ S) fun ds S1=>Ok (y ρ S1) fun i S2=>∃k,i = .int k/\∃d,atI ds k=some d/\Q d S2:=by
 unfold oD;rw[a9]
 congr 1
 funext ds S1
 rw[a9]
 congr 1
 funext i S2
 apply propext;cases i with
 |int k=>simp[Ei]
 |_=>simp[aM]
theorem EF{ds:List D}{i:Int}(h0:0<=i)(h1:i < ds.length):∃d,atI ds i=some d/\ds[i.toNat]?=some d:=by
 have hi:i.toNat < ds.length:=by omega
 refine⟨ds[i.toNat],?_,gEG hi⟩;unfold atI ixN;rw[if_pos h0,if_pos (by omega)];exact gEG hi
theorem jy{nx:Nxt}{tg:Tg}{c:XA}{Q:List D->Sto->Prop}(n:Nat)(el:Nat->D)(I:Nat->List D->Sto->Prop)(hnx:∀i acc S',i<=n->I i acc S'->nx i S'=some (if i < n then some (el i) else none))(hl:n<=100000)
  (step:∀ (i:Nat) acc S',i < n->I i acc S'->∃ρ1,am tg (el i) ρ=some ρ1/\Ok (c ρ1 S') fun es S1=>I (i+1) (acc++es) S1) (q:∀es S',I n es S'->es.length<=100000/\Q es S') (h0:I 0 [] S) :
  Ok (aW nx tg c ρ LF 0 S) fun es S2=>es.length<=100000/\Q es S2:=by
 refine(cF n I (by unfold LF;omega) (fun i acc S' hi iv=>?_) (fun acc S' iv=>?_) h0).mono q
 ·obtain⟨ρ1,e2,z⟩:=step i acc S' hi iv;exact⟨_,ρ1,by rw[hnx i acc S' (by omega) iv,if_pos hi],e2,z⟩
 ·rw[hnx n acc S' (Ze _) iv,if_neg (ZK n)]
theorem lX{m i:Nat}{ds:List D}(h:S[m]?=some (.lst ds))(el:Nat->D)(he:∀i d,ds[i]?=some d->el i=d):nxS m i S=some (if i < ds.length then some (el i) else none):=by
 show(ah S m).map (fun ds=>ds[i]?)=_;rw[aZ h,Zz];split
 ·rename_i hi;rw[gEG hi,he i _ (gEG hi)]
 ·rename_i hi;rw[ZH (by omega)]
theorem Aa{m i:Nat}{ds:List D}(h:S[m]?=some (.lst ds))(hi':i<=ds.length)(el:Nat->D)(he:∀i d,ds[i]?=some d->el i = .tup [.int i,d]):uN m i S=some (if i < ds.length then some (el i) else none):=by
 show(ah S m).bind (fun ds=>enm ds i)=_;rw[aZ h];show enm ds i=_;unfold enm;rw[if_pos hi'];split
 ·rename_i hi;rw[gEG hi,he i _ (gEG hi)];rfl
 ·rename_i hi;rw[ZH (by omega)];rfl
structure RowsS(p:Nat)(S:Sto)(rs:List D)(M:List (List Int)):Prop where
 len:rs.length=M.length
 row:∀ (i:Nat) r,M[i]?=some r->∃a,rs[i]?=some (.ref a)/\a ≠ p/\S[a]?=some (.lst (r.map D.int))
theorem RowsS.keep{rs:List D}{M:List (List Int)}(h:RowsS p S rs M)(k:Kp p S S'):RowsS p S' rs M:=⟨h.len,fun i r hr=>let ⟨a,e,n,z⟩:=h.row i r hr;⟨a,e,n,k _ _ n z⟩⟩
theorem RowsS.nil:RowsS p S [] []:=⟨rfl,fun i r h=>by simp at h⟩
theorem RowsS.snoc{rs:List D}{M:List (List Int)}{a:Nat}{r:List Int}(h:RowsS p S rs M)(n:a ≠ p)(z:S[a]?=some (.lst (r.map D.int))):RowsS p S (rs++[.ref a]) (M++[r]):=by
 refine⟨by simp[h.len],fun i r' hr=>?_⟩;by_cases hi:i < M.length
 ·rw[Zo hi] at hr;obtain⟨b,e,nb,zb⟩:=h.row i r' hr;exact⟨b,by rw[Zo (by rw[h.len];exact hi)];exact e,nb,zb⟩
 ·rw[Zg (by omega)] at hr
  have hz:i - M.length=0:=by
   have:=(Za.mp hr).1;simp at this;omega
  rw[hz] at hr;cases hr;exact⟨a,by rw[Zg (by rw[h.len];omega),h.len,hz];rfl,n,z⟩
theorem bG{o:Ob}:(S++[o])[S.length]?=some o:=by rw[Zg (Ze _),ZU];rfl
theorem Kp.setNew{f:Nat}{o:Ob}(h:Kp p S S')(hf:S.length<=f):Kp p S (S'.set f o):=fun i u n e=>by
 have hi:=(Za.mp e).1;rw[ZP (by omega)];exact h i u n e
theorem Pot.setNe{f:Nat}{o:Ob}(h:Pot p S)(hf:f ≠ p):Pot p (S.set f o):=by
 obtain⟨n,e⟩:=h;exact⟨n,by rw[ZP hf];exact e⟩
noncomputable def be(q:Int × Int):D:=.tup [.int q.1,.int q.2]
theorem jz:∀ (es:List (Int × Int)),TDs p S (es.map Dw.cq) (es.map be)
 |[]=>aF
 |e::es=>ac (bg (ac bU (ac bU aF))) (jz es)
theorem EG{f:Nat}{ds:List D}{e:D}(h:S[f]?=some (.lst ds))(hl:ds.length < 100000):Ok (oM (.ref f) [e] S) Q=Q .non (S.set f (.lst (ds++[e]))):=by
 simp only[oM,chg,h];rw[if_pos hl];exact ae
theorem ww{f:Nat}{ds:List D}(h:S[f]?=some (.lst ds)):i5 (.ref f) S=true:=by simp only[i5,aZ h];rfl
theorem Ab{f:Nat}{ds:List D}{e:D}(h:S[f]?=some (.lst (ds++[e]))):ixS (.ref f) (.int (-1)) S=some (e,S):=by
 have:atI (ds++[e]) (-1:Int)=some e:=by
  unfold atI ixN;rw[if_neg (by decide),if_pos (by rw[Zh,ZE];omega)];show(ds++[e])[((-1:Int)+((ds++[e]).length:Int)).toNat]?=some e;have:((-1:Int)+((ds++[e]).length:Int)).toNat=ds.length:=by rw[Zh,ZE];omega
  rw[this,Zg (Ze _),ZU];rfl
 simp only[ixS,au,aZ h,Zz,this]
theorem pY{ds:List D}{i:Nat}{d:D}(h:ds[i]?=some d):atI ds (i:Int)=some d:=by
 have hi:=(Za.mp h).1;unfold atI ixN;rw[if_pos (by omega),if_pos (by omega),ZN];exact h
theorem lY{n:Nat}{ts:List Dw.D}{ds:List D}(hn:n ≠ p)(h:S[n]?=some (.lst ds))(q:TDs p S ts ds):TD p S (.lst ts) (.ref n):=by rw[TD];exact⟨n,ds,rfl,hn,h,q⟩
theorem wx{n:Nat}{ks:List Key}{ts:List Dw.D}{ds:List D}(hn:n ≠ p)(h:S[n]?=some (.dic ks ds))(q:TDs p S ts ds):TD p S (.dic ks ts) (.ref n):=by rw[TD];exact⟨n,ds,rfl,hn,h,q⟩
theorem Ac{ds:List D}:az .eq (.tup ds) (.tup []) S=some (.bl ds.isEmpty,S):=by
 simp only[az,eqS]
 have:eqD 60 S (.tup ds) (.tup [])=some ds.isEmpty:=by
  cases ds <;> rfl
 rw[this];rfl
theorem Ad{ds:List D}:az .ne (.tup ds) (.tup []) S=some (.bl (!ds.isEmpty),S):=qp (x:=.tup ds) (y:=.tup []) (b:=ds.isEmpty) (by cases ds <;> rfl)
theorem EH{xs ys:List D}:Ok (bI .add (.tup xs) (.tup ys) S) Q=(xs.length+ys.length<=1000/\Q (.tup (xs++ys)) S):=by
 simp only[bI,ij,cE,ae,aM];apply propext;split
 ·rename_i h;exact⟨fun z=>⟨h,z⟩,fun z=>z.2⟩
 ·rename_i h;exact⟨fun z=>z.elim,fun z=>(h z.1).elim⟩
end
abbrev WP(α:Type):=Rho->Sto->(α->Sto->Prop)->Prop
def Sd{α:Type}(w:WP α)(x:Rho->Sto->Option (α × Sto)):Prop:=∀ρ S Q,w ρ S Q->Ok (x ρ S) Q
theorem aQ{α β:Type}{x:Option (α × Sto)}{f:α->Sto->Option (β × Sto)}{Q:β->Sto->Prop}(h:Ok x fun a S=>Ok (f a S) Q):Ok (bnd x f) Q:=a9 ▸ h
theorem bA{α:Type}{a:α}{S:Sto}{Q:α->Sto->Prop}(h:Q a S):Ok (some (a,S)) Q:=⟨_,_,rfl,h⟩
def wIf(b:Bool)(A B:Prop):Prop:=match b with
 |true=>A
 |false=>B
def wBl(d:D)(Q:Bool->Prop):Prop:=match d with
 |.bl b=>Q b
 |.non=>False |.int _=>False |.str _=>False |.tup _=>False |.ref _=>False
def cI(d:D)(Q:Int->Prop):Prop:=match d with
 |.int i=>Q i
 |.non=>False |.bl _=>False |.str _=>False |.tup _=>False |.ref _=>False
theorem jA{d:D}{Q:Bool->Prop}(h:wBl d Q):∃b,d = .bl b/\Q b:=by cases d <;> first |exact h.elim |exact⟨_,rfl,h⟩
theorem b6{d:D}{Q:Int->Prop}(h:cI d Q):∃b,d = .int b/\Q b:=by cases d <;> first |exact h.elim |exact⟨_,rfl,h⟩
def Kf(o:Option D)(Q:D->Prop):Prop:=match o with
 |some d=>Q d
 |none=>False
def pv:Rho->Nat->(D->Prop)->Prop
 |[],_,_=>False
 |o::_,0,Q=>Kf o Q
 |_::ρ,i+1,Q=>pv ρ i Q
theorem qZ:∀ {ρ:Rho} {i:Nat} {Q:D->Prop},pv ρ i Q->∃d,ρ[i]?=some (some d)/\Q d
 |[],_,_,h=>h.elim
 |some d::_,0,_,h=>⟨d,rfl,h⟩
 |none::_,0,_,h=>h.elim
 |o::ρ,i+1,_,h=>by rw[YN];exact qZ (ρ:=ρ) h
def IJ(i:Nat):WP D:=fun ρ S Q=>pv ρ i fun d=>Q d S
theorem IK{i:Nat}:Sd (IJ i) (se i):=fun ρ S Q h=>by
 rw[Er];exact qZ h
def wC(d:D):WP D:=fun _ S Q=>Q d S
theorem s_c{d:D}:Sd (wC d) (xC d):=fun _ _ _ h=>bA h
def Ae(g:D->D->Sto->(D->Sto->Prop)->Prop)(x y:WP D):WP D:=fun ρ S Q=>x ρ S fun a S1=>y ρ S1 fun b S2=>g a b S2 Q
theorem wy{g:D->D->Sto->(D->Sto->Prop)->Prop}{f:D->D->Sto->Option (D × Sto)}{w v:WP D}{x y:XE}(hw:Sd w x)(hv:Sd v y)(hg:∀ {a b S Q},g a b S Q->Ok (f a b S) Q):Sd (Ae g w v) (mO f x y):=
 fun _ _ _ h=>aQ ((hw _ _ _ h).mono fun _ _ h=>aQ ((hv _ _ _ h).mono fun _ _ h=>hg h))
def wUn{α β:Type}(g:α->Sto->(β->Sto->Prop)->Prop)(x:WP α):WP β:=fun ρ S Q=>x ρ S fun a S1=>g a S1 Q
theorem Af{α β:Type}{g:α->Sto->(β->Sto->Prop)->Prop}{f:α->Sto->Option (β × Sto)}{w:WP α}{x:Rho->Sto->Option (α × Sto)}(hw:Sd w x)(hg:∀ {a S Q},g a S Q->Ok (f a S) Q):Sd (wUn g w) (fun ρ S=>bnd (x ρ S) f):=
 fun _ _ _ h=>aQ ((hw _ _ _ h).mono fun _ _ h=>hg h)
def wOk{α β:Type}(f:α->Sto->Option (β × Sto))(a:α)(S:Sto)(Q:β->Sto->Prop):Prop:=Ok (f a S) Q
def wII:BOp->Int->Int->Sto->(D->Sto->Prop)->Prop
 |.add,i,j,S,Q=>Q (.int (i+j)) S
 |.sub,i,j,S,Q=>Q (.int (i - j)) S
 |.mul,i,j,S,Q=>f9 i j=true/\Q (.int (i * j)) S
 |.mod,i,j,S,Q=>0 < j/\Q (.int (i % j)) S
 |.fdiv,i,j,S,Q=>(0 < j/\j < 1237940039285380274899124224)/\Q (.int (i / j)) S
 |.pow,i,j,S,Q=>(0<=j/\j<=1000000/\i.natAbs < 2 ^ 64)/\Q (.int (i ^ j.toNat)) S
theorem EI{o:BOp}{i j:Int}{S:Sto}{Q:D->Sto->Prop}(h:wII o i j S Q):Ok (bI o (.int i) (.int j) S) Q:=by
 cases o with
 |add=>rw[Es];exact h
 |sub=>rw[Et];exact h
 |mul=>rw[EA];exact h
 |mod=>rw[Ez];exact h
 |fdiv=>rw[z9];exact h
 |pow=>rw[EB];exact h
def wTT:BOp->List D->List D->Sto->(D->Sto->Prop)->Prop
 |.add,xs,ys,S,Q=>xs.length+ys.length<=1000/\Q (.tup (xs++ys)) S
 |.sub,_,_,_,_=>False
 |.mul,_,_,_,_=>False
 |.mod,_,_,_,_=>False
 |.fdiv,_,_,_,_=>False
 |.pow,_,_,_,_=>False
theorem EJ{o:BOp}{i j:List D}{S:Sto}{Q:D->Sto->Prop}(h:wTT o i j S Q):Ok (bI o (.tup i) (.tup j) S) Q:=by
 cases o with
 |add=>rw[EH];exact h
 |_=>exact h.elim
def wz(o:BOp)(i:Int)(y:D)(S:Sto)(Q:D->Sto->Prop):Prop:=match y with
 |.int j=>wII o i j S Q
 |.non=>False |.bl _=>False |.str _=>False |.ref _=>False
 |.tup ys=>Ok (bI o (.int i) (.tup ys) S) Q
def q8(o:BOp)(xs:List D)(y:D)(S:Sto)(Q:D->Sto->Prop):Prop:=match y with
 |.tup ys=>wTT o xs ys S Q
 |.non=>False |.bl _=>False |.str _=>False |.ref _=>False
 |.int j=>Ok (bI o (.tup xs) (.int j) S) Q
def pw(o:BOp)(x y:D)(S:Sto)(Q:D->Sto->Prop):Prop:=match x with
 |.int i=>wz o i y S Q
 |.tup xs=>q8 o xs y S Q
 |.non=>Ok (bI o .non y S) Q
 |.bl b=>Ok (bI o (.bl b) y S) Q
 |.str b=>Ok (bI o (.str b) y S) Q
 |.ref b=>Ok (bI o (.ref b) y S) Q
theorem Ag{o:BOp}{x y:D}{S:Sto}{Q:D->Sto->Prop}(h:pw o x y S Q):Ok (bI o x y S) Q:=by
 cases x with
 |int i=>cases y with
  |int j=>exact EI h
  |tup ys=>exact h
  |_=>exact h.elim
 |tup xs=>cases y with
  |int j=>exact h
  |tup ys=>exact EJ h
  |_=>exact h.elim
 |_=>exact h
def wCI:COp->Int->Int->Sto->(D->Sto->Prop)->Prop
 |.eq,i,j,S,Q=>Q (.bl (decide (i=j))) S
 |.ne,i,j,S,Q=>Q (.bl (!decide (i=j))) S
 |.lt,i,j,S,Q=>Q (.bl (decide (i < j))) S
 |.le,i,j,S,Q=>Q (.bl (decide (i<=j))) S
 |.gt,i,j,S,Q=>Q (.bl (decide (j < i))) S
 |.ge,i,j,S,Q=>Q (.bl (decide (j<=i))) S
 |.is,_,_,_,_=>False
 |.isnot,_,_,_,_=>False
 |.isin,_,_,_,_=>False
 |.notin,_,_,_,_=>False
theorem EK{o:COp}{i j:Int}{S:Sto}{Q:D->Sto->Prop}(h:wCI o i j S Q):Ok (az o (.int i) (.int j) S) Q:=by
 cases o with
 |eq=>rw[Ew];exact h
 |ne=>rw[Ex];exact h
 |lt=>rw[IC];exact h
 |le=>rw[IB];exact h
 |gt=>rw[IE];exact h
 |ge=>rw[IG];exact h
 |_=>exact h.elim
def EL(o:COp)(i:Int)(y:D)(S:Sto)(Q:D->Sto->Prop):Prop:=match y with
 |.int j=>wCI o i j S Q
 |.non=>Ok (az o (.int i) .non S) Q
 |.bl b=>Ok (az o (.int i) (.bl b) S) Q
 |.str b=>Ok (az o (.int i) (.str b) S) Q
 |.ref b=>Ok (az o (.int i) (.ref b) S) Q
 |.tup b=>Ok (az o (.int i) (.tup b) S) Q
def sP(o:COp)(xs:List D)(y:D)(S:Sto)(Q:D->Sto->Prop):Prop:=match o with
 |.eq=>match y with
  |.tup ys=>match ys with
   |[]=>Q (.bl xs.isEmpty) S
   |y::ys=>Ok (az .eq (.tup xs) (.tup (y::ys)) S) Q
  |.non=>Ok (az .eq (.tup xs) .non S) Q
  |.bl b=>Ok (az .eq (.tup xs) (.bl b) S) Q
  |.str b=>Ok (az .eq (.tup xs) (.str b) S) Q
  |.ref b=>Ok (az .eq (.tup xs) (.ref b) S) Q
  |.int b=>Ok (az .eq (.tup xs) (.int b) S) Q
 |.ne=>match y with
  |.tup ys=>match ys with
   |[]=>Q (.bl (!xs.isEmpty)) S
   |y::ys=>Ok (az .ne (.tup xs) (.tup (y::ys)) S) Q
  |.non=>Ok (az .ne (.tup xs) .non S) Q
  |.bl b=>Ok (az .ne (.tup xs) (.bl b) S) Q
  |.str b=>Ok (az .ne (.tup xs) (.str b) S) Q
  |.ref b=>Ok (az .ne (.tup xs) (.ref b) S) Q
  |.int b=>Ok (az .ne (.tup xs) (.int b) S) Q
 |.is=>Ok (az .is (.tup xs) y S) Q
 |.isnot=>Ok (az .isnot (.tup xs) y S) Q
 |.isin=>Ok (az .isin (.tup xs) y S) Q
 |.notin=>Ok (az .notin (.tup xs) y S) Q
 |.lt=>False |.le=>False |.gt=>False |.ge=>False
def wCx(o:COp)(x y:D)(S:Sto)(Q:D->Sto->Prop):Prop:=match x with
 |.int i=>EL o i y S Q
 |.tup xs=>sP o xs y S Q
 |.non=>Ok (az o .non y S) Q
 |.bl b=>Ok (az o (.bl b) y S) Q
 |.str b=>Ok (az o (.str b) y S) Q
 |.ref b=>Ok (az o (.ref b) y S) Q
theorem EM{o:COp}{x y:D}{S:Sto}{Q:D->Sto->Prop}(h:wCx o x y S Q):Ok (az o x y S) Q:=by
 cases x with
 |int i=>cases y with
  |int j=>exact EK h
  |_=>exact h
 |tup xs=>cases o with
  |eq=>cases y with
   |tup ys=>cases ys with
    |nil=>rw[Ac,ae];exact h
    |cons y ys=>exact h
   |_=>exact h
  |ne=>cases y with
   |tup ys=>cases ys with
    |nil=>rw[Ad,ae];exact h
    |cons y ys=>exact h
   |_=>exact h
  |lt=>exact h.elim
  |le=>exact h.elim
  |gt=>exact h.elim
  |ge=>exact h.elim
  |_=>exact h
 |_=>exact h
def wCm(o:COp)(x y:D)(S:Sto)(Q:D->Sto->Prop):Prop:=match o with
 |.is=>Ok (az .is x y S) Q
 |.isnot=>Ok (az .isnot x y S) Q
 |.isin=>Ok (az .isin x y S) Q
 |.notin=>Ok (az .notin x y S) Q
 |.eq=>wCx .eq x y S Q
 |.ne=>wCx .ne x y S Q
 |.lt=>wCx .lt x y S Q
 |.le=>wCx .le x y S Q
 |.gt=>wCx .gt x y S Q
 |.ge=>wCx .ge x y S Q
theorem lZ{o:COp}{x y:D}{S:Sto}{Q:D->Sto->Prop}(h:wCm o x y S Q):Ok (az o x y S) Q:=by
 cases o <;> first |exact EM h |exact h
def EN(o p:COp)(x y z:WP D):WP D:=fun ρ S Q=>x ρ S fun a S1=>y ρ S1 fun b S2=>wCm o a b S2 fun r S3=>wBl r fun c=>wIf c (z ρ S3 fun e S4=>wCm p b e S4 Q) (Q (.bl false) S3)
theorem B5{o p:COp}{w v u:WP D}{x y z:XE}(hw:Sd w x)(hv:Sd v y)(hu:Sd u z):Sd (EN o p w v u) (sC (az o) (az p) x y z):=fun _ _ _ h=>by
 rw[Ep];refine(hw _ _ _ h).mono fun a S1 h=>(hv _ _ _ h).mono fun b S2 h=>(lZ h).mono fun r S3 h=>?_;obtain⟨c,e,h⟩:=jA h;refine⟨c,e,?_⟩;cases c with
 |true=>exact(hu _ _ _ h).mono fun e S4 h=>lZ h
 |false=>exact h
def IL(x y:WP D):WP D:=fun ρ S Q=>x ρ S fun d S1=>wBl d fun b=>wIf b (y ρ S1 Q) (Q (.bl false) S1)
theorem IM{w v:WP D}{x y:XE}(hw:Sd w x)(hv:Sd v y):Sd (IL w v) (uX x y):=fun _ _ _ h=>by
 rw[En];refine(hw _ _ _ h).mono fun a S1 h=>?_;obtain⟨c,e,h⟩:=jA h;refine⟨c,e,?_⟩;cases c with
 |true=>exact hv _ _ _ h
 |false=>exact h
def wOr(x y:WP D):WP D:=fun ρ S Q=>x ρ S fun d S1=>wBl d fun b=>wIf b (Q (.bl true) S1) (y ρ S1 Q)
theorem Kg{w v:WP D}{x y:XE}(hw:Sd w x)(hv:Sd v y):Sd (wOr w v) (xOr x y):=fun _ _ _ h=>by
 rw[IA];refine(hw _ _ _ h).mono fun a S1 h=>?_;obtain⟨c,e,h⟩:=jA h;refine⟨c,e,?_⟩;cases c with
 |false=>exact hv _ _ _ h
 |true=>exact h
def IO(x:WP D):WP D:=fun ρ S Q=>x ρ S fun d S1=>wBl d fun b=>Q (.bl (!b)) S1
theorem IP{w:WP D}{x:XE}(hw:Sd w x):Sd (IO w) (xUn sB x):=fun _ _ _ h=>aQ ((hw _ _ _ h).mono fun a S1 h=>by
 rw[Eo];exact jA h)
def IQ(x:WP D):WP D:=fun ρ S Q=>x ρ S fun d S1=>cI d fun i=>Q (.int (-i)) S1
theorem IR{w:WP D}{x:XE}(hw:Sd w x):Sd (IQ w) (xUn DP x):=fun _ _ _ h=>aQ ((hw _ _ _ h).mono fun a S1 h=>by
 obtain⟨i,rfl,h⟩:=b6 h;exact bA h)
def wO:Option (WP D)->WP (Option Int)
 |none=>fun _ S Q=>Q none S
 |some w=>fun ρ S Q=>w ρ S fun d S1=>cI d fun i=>Q (some i) S1
def pA(lo hi:Option Int)(d:D)(S:Sto)(Q:D->Sto->Prop):Prop:=match d with
 |.tup ds=>Q (.tup (aY ds lo hi)) S
 |.ref n=>Ok (slS lo hi (.ref n) S) Q
 |.non=>False |.bl _=>False |.str _=>False |.int _=>False
def wSl(x:WP D)(lo hi:WP (Option Int)):WP D:=fun ρ S Q=>x ρ S fun d S1=>lo ρ S1 fun l S2=>hi ρ S2 fun h S3=>pA l h d S3 Q
theorem Kh:Sd (wO none) oH:=fun _ _ _ h=>bA h
theorem Ki{w:WP D}{x:XE}(hw:Sd w x):Sd (wO (some w)) (oI x):=fun _ _ _ h=>aQ ((hw _ _ _ h).mono fun d S1 h=>by
 obtain⟨i,rfl,h⟩:=b6 h;exact bA h)
theorem Kj{w:WP D}{l u:WP (Option Int)}{x:XE}{lo hi:XO}(hw:Sd w x)(hl:Sd l lo)(hu:Sd u hi):Sd (wSl w l u) (xSl x lo hi):=fun _ _ _ h=>aQ ((hw _ _ _ h).mono fun d S1 h=>aQ ((hl _ _ _ h).mono fun a S2 h=>aQ ((hu _ _ _ h).mono fun b S3 h=>by
 cases d with
 |tup ds=>exact bA h
 |ref n=>exact h
 | _=>exact h.elim)))
def B6(g:List D->Sto->Option (D × Sto))(n:Nat)(x:WP (List D)):WP D:=fun ρ S Q=>x ρ S fun ds S1=>ds.length=n/\Ok (g ds S1) Q
theorem EO{g:List D->Sto->Option (D × Sto)}{n:Nat}{w:WP (List D)}{x:XA}(hw:Sd w x):Sd (B6 g n w) (m6 g n x):=fun _ _ _ h=>by
 rw[zT];exact hw _ _ _ h
def gU(x:WP (List D)):WP D:=fun ρ S Q=>x ρ S fun ds S1=>Q (.ref S1.length) (S1++[.lst ds])
theorem fh{w:WP (List D)}{x:XA}(hw:Sd w x):Sd (gU w) (cS x):=fun _ _ _ h=>by rw[wo];exact hw _ _ _ h
def dG:Nat->List CE->Prop->Prop
 |_,[],A=>A
 |0,_::_,_=>False
 |n+1,_::es,A=>dG n es A
theorem gw:∀ {n:Nat} {es:List CE} {A:Prop},dG n es A->es.length<=n/\A
 |n,[],_,h=>⟨Xj _,by cases n <;> exact h⟩
 |0,_::_,_,h=>h.elim
 |n+1,_::es,_,h=>by rw[ZD];exact⟨Nat.succ_le_succ (gw (es:=es) h).1,(gw (es:=es) h).2⟩
def wSh{α:Type}(es:List CE)(x:WP α):WP α:=fun ρ S Q=>dG 60 es (x ρ S Q)
def ER(c:D->Sto->Bool)(f:D->List D->Sto->Option (D × Sto))(x:WP D)(y:WP (List D)):WP D:=fun ρ S Q=>x ρ S fun d S1=>c d S1=true/\y ρ S1 fun as S2=>Ok (f d as S2) Q
theorem B7{c:D->Sto->Bool}{f:D->List D->Sto->Option (D × Sto)}{w:WP D}{v:WP (List D)}{x:XE}{y:XA}(hw:Sd w x)(hv:Sd v y):Sd (ER c f w v) (yW c f x y):=fun _ _ _ h=>aQ ((hw _ _ _ h).mono fun d S1 h=>by
 rw[if_pos h.1];exact aQ (hv _ _ _ h.2))
def ES(x:WP D):WP (List D):=fun ρ S Q=>x ρ S fun d S1=>∃i:Nat,d = .int i/\i<=1000/\Q ((Zm i).map fun j=>.int (Int.ofNat j)) S1
def wD(x y:WP D):WP (List D):=fun ρ S Q=>x ρ S fun d S1=>y ρ S1 fun e S2=>∃i j,d = .int i/\e = .int j/\-100000<=i/\i<=j/\j<=i+1000/\i<=100000/\Q (rgD i j) S2
theorem wG{w w':WP D}{x y:XE}(hw:Sd w x)(hw':Sd w' y):Sd (wD w w') (ka x y):=fun _ _ _ h=>zY ((hw _ _ _ h).mono fun _ _ h=>hw' _ _ _ h)
theorem B8{w:WP D}{x:XE}(hw:Sd w x):Sd (ES w) (sD x):=fun _ _ _ h=>Eu (hw _ _ _ h)
def IS:WP (List D):=fun _ S Q=>Q [] S
theorem IT:Sd IS yI:=fun _ _ _ h=>bA h
def B9(x:WP D)(y:WP (List D)):WP (List D):=fun ρ S Q=>x ρ S fun a S1=>y ρ S1 fun as S2=>Q (a::as) S2
theorem ET{w:WP D}{v:WP (List D)}{x:XE}{y:XA}(hw:Sd w x)(hv:Sd v y):Sd (B9 w v) (qm x y):=fun _ _ _ h=>aQ ((hw _ _ _ h).mono fun d S1 h=>aQ ((hv _ _ _ h).mono fun ds S2 h=>bA h))
def Kk(o:Option D)(A:Prop):Prop:=match o with
 |none=>A
 |some _=>False
def wFr:Rho->Nat->Prop->Prop
 |[],_,_=>False
 |o::_,0,A=>Kk o A
 |_::ρ,i+1,A=>wFr ρ i A
theorem l0:∀ {ρ:Rho} {i:Nat} {A:Prop},wFr ρ i A->ρ[i]?=some none/\A
 |[],_,_,h=>h.elim
 |none::_,0,_,h=>⟨rfl,h⟩
 |some _::_,0,_,h=>h.elim
 |o::ρ,i+1,_,h=>by rw[YN];exact l0 (ρ:=ρ) h
def nI:List Tg->Rho->Prop->Prop
 |[],_,A=>A
 |.name i::ts,ρ,A=>wFr ρ i (nI ts ρ A)
 |.tup us::ts,ρ,A=>cN (.tup us) ρ=true/\nI ts ρ A
def wFt:Tg->Rho->Prop->Prop
 |.name i,ρ,A=>wFr ρ i A
 |.tup ts,ρ,A=>nI ts ρ A
theorem kz{i:Nat}{ρ:Rho}(h:ρ[i]?=some none):cN (.name i) ρ=true:=by rw[cN,h]
theorem ma:∀ {ts:List Tg} {ρ:Rho} {A:Prop},nI ts ρ A->dZ ts ρ=true/\A
 |[],_,_,h=>⟨by rw[dZ],h⟩
 |.name i::ts,ρ,_,h=>by
  obtain⟨e,h⟩:=l0 h;obtain⟨e2,h⟩:=ma h;exact⟨by rw[dZ,kz e,e2];rfl,h⟩
 |.tup us::ts,ρ,_,h=>by
  obtain⟨e,h⟩:=h;obtain⟨e2,h⟩:=ma h;exact⟨by rw[dZ,e,e2];rfl,h⟩
theorem pB{t:Tg}{ρ:Rho}{A:Prop}(h:wFt t ρ A):cN t ρ=true/\A:=by
 cases t with
 |name i=>exact⟨kz (l0 h).1,(l0 h).2⟩
 |tup ts=>rw[cN];exact ma h
def nJ:List Str->Rho->(Rho->Prop)->Prop
 |[],r,Q=>Q r
 |_::own,r,Q=>nJ own (none::r) Q
def nK:Rho->Rho->(Rho->Prop)->Prop
 |[],r,Q=>Q r
 |o::ρ,r,Q=>nK ρ r fun r'=>Q (o::r')
theorem rd:∀ {ρ r:Rho} {Q:Rho->Prop},nK ρ r Q->Q (ρ++r)
 |[],_,_,h=>h
 |o::ρ,r,Q,h=>rd (ρ:=ρ) (Q:=fun r'=>Q (o::r')) h
theorem re:∀ {own:List Str} {k:Nat} {Q:Rho->Prop},nJ own (Zj k none) Q->Q (Zj (own.length+k) none)
 |[],k,_,h=>by rw[YS,Nat.zero_add];exact h
 |_::own,k,Q,h=>by
  have:=re (own:=own) (k:=k+1) h;rw[ZD,show own.length+1+k=own.length+(k+1) by omega];exact this
def Ca(own:List Str)(it:WP Nxt)(tg:Tg)(c:XA)(k:Nat):WP (List D):=fun ρ S Q=>it ρ S fun nx S1=>nJ own [] fun r=>nK ρ r fun ρ'=>wFt tg ρ' (Ok (aW nx tg c ρ' k 0 S1) fun es S2=>es.length<=100000/\Q es S2)
theorem wH{own:List Str}{k:Nat}{w:WP Nxt}{it:XI}{tg:Tg}{c:XA}(hw:Sd w it):Sd (Ca own w tg c k) (i8 own.length it tg c k):=fun _ _ _ h=>by
 rw[zU]
 exact(hw _ _ _ h).mono fun nx S1 h=>by
  have h:=rd (re (own:=own) (k:=0) h);exact pB h
def wJ(it:WP Nxt)(tg:Tg)(c:XA)(k:Nat):WP (List D):=fun ρ S Q=>wFt tg ρ (it ρ S fun nx S1=>Ok (aW nx tg c ρ k 0 S1) Q)
theorem Ah{k:Nat}{w:WP Nxt}{it:XI}{tg:Tg}{c:XA}(hw:Sd w it):Sd (wJ w tg c k) (gK it tg c k):=fun _ _ _ h=>by
 rw[wn];exact⟨(pB h).1,hw _ _ _ (pB h).2⟩
def wK(d:D)(S1:Sto)(Q:Nxt->Sto->Prop):Prop:=match d with
 |.tup ds=>Q (nxL ds) S1
 |.ref n=>(ah S1 n).isSome=true/\Q (nxS n) S1
 |.non=>False |.bl _=>False |.str _=>False |.int _=>False
theorem Kl{w:WP D}{x:XE}(hw:Sd w x):Sd (fun ρ S Q=>w ρ S fun d S1=>wK d S1 Q) (xIV x):=fun _ _ _ h=>aQ ((hw _ _ _ h).mono fun d S1 h=>by
 cases d with
 |tup ds=>exact bA h
 |ref n=>dsimp only;rw[if_pos h.1];exact bA h.2
 | _=>exact h.elim)
def wL(d:D)(S1:Sto)(Q:Nxt->Sto->Prop):Prop:=match d with
 |.tup ds=>Q (mU ds) S1
 |.ref n=>(ah S1 n).isSome=true/\Q (uN n) S1
 |.non=>False |.bl _=>False |.str _=>False |.int _=>False
theorem Km{w:WP D}{x:XE}(hw:Sd w x):Sd (fun ρ S Q=>w ρ S fun d S1=>wL d S1 Q) (xEV x):=fun _ _ _ h=>aQ ((hw _ _ _ h).mono fun d S1 h=>by
 cases d with
 |tup ds=>exact bA h
 |ref n=>dsimp only;rw[if_pos h.1];exact bA h.2
 | _=>exact h.elim)
def wOn{α β:Type}(f:α->β)(x:WP α):WP β:=fun ρ S Q=>x ρ S fun a S1=>Q (f a) S1
theorem wM{α β:Type}{f:α->β}{w:WP α}{x:Rho->Sto->Option (α × Sto)}(hw:Sd w x):Sd (wOn f w) (fun ρ S=>bnd (x ρ S) fun a S1=>some (f a,S1)):=fun _ _ _ h=>aQ ((hw _ _ _ h).mono fun d S1 h=>bA h)
def wR1(x:WP D):WP Nxt:=fun ρ S Q=>x ρ S fun d S1=>cI d fun j=>lim j=true/\Q (nxR 0 j.toNat) S1
theorem Kn{w:WP D}{x:XE}(hw:Sd w x):Sd (wR1 w) (xR1 x):=fun _ _ _ h=>aQ ((hw _ _ _ h).mono fun d S1 h=>by
 obtain⟨i,rfl,h⟩:=b6 h;dsimp only;rw[if_pos h.1];exact bA h.2)
def wR2(x y:WP D):WP Nxt:=fun ρ S Q=>x ρ S fun d S1=>y ρ S1 fun e S2=>cI d fun i=>cI e fun j=>(lim i=true/\lim j=true)/\Q (nxR i (j - i).toNat) S2
theorem Ko{w v:WP D}{x y:XE}(hw:Sd w x)(hv:Sd v y):Sd (wR2 w v) (xR2 x y):=fun _ _ _ h=>aQ ((hw _ _ _ h).mono fun d S1 h=>aQ ((hv _ _ _ h).mono fun e S2 h=>by
 obtain⟨i,rfl,h'⟩:=b6 h;obtain⟨j,rfl,h''⟩:=b6 h';dsimp only;rw[if_pos h''.1];exact bA h''.2))
def aB(d:D)(S:Sto)(Q:Bool->Sto->Prop):Prop:=match d with
 |.bl b=>Q b S
 |.tup ds=>Q (!ds.isEmpty) S
 |.int i=>Q (i != 0) S
 |.non=>Q false S
 |.str y=>Ok (lA (.str y) S) Q
 |.ref y=>Ok (lA (.ref y) S) Q
theorem wN{d:D}{S:Sto}{Q:Bool->Sto->Prop}(h:aB d S Q):Ok (lA d S) Q:=by cases d <;> first |exact bA h |exact h
def wB(x:WP D):WP Bool:=fun ρ S Q=>x ρ S fun d S1=>wBl d fun b=>Q b S1
theorem s_b{w:WP D}{x:XE}(hw:Sd w x):Sd (wB w) (xB x):=fun _ _ _ h=>by
 rw[IH];exact(hw _ _ _ h).mono fun d S1 h=>jA h
def Cb(x y:WP Bool):WP Bool:=fun ρ S Q=>x ρ S fun b S1=>wIf b (y ρ S1 Q) (Q false S1)
def IU(x y:WP Bool):WP Bool:=fun ρ S Q=>x ρ S fun b S1=>wIf b (Q true S1) (y ρ S1 Q)
def Cc(x:WP Bool):WP Bool:=fun ρ S Q=>x ρ S fun b S1=>Q (!b) S1
theorem EU{w v:WP Bool}{x y:XT}(hw:Sd w x)(hv:Sd v y):Sd (Cb w v) (u0 x y):=fun _ _ _ h=>aQ ((hw _ _ _ h).mono fun b S1 h=>by
 cases b with
 |true=>exact hv _ _ _ h
 | false=>exact bA h)
theorem IV{w v:WP Bool}{x y:XT}(hw:Sd w x)(hv:Sd v y):Sd (IU w v) (DR x y):=fun _ _ _ h=>aQ ((hw _ _ _ h).mono fun b S1 h=>by
 cases b with
 |false=>exact hv _ _ _ h
 | true=>exact bA h)
theorem EV{w:WP Bool}{x:XT}(hw:Sd w x):Sd (Cc w) (u4 x):=fun _ _ _ h=>aQ ((hw _ _ _ h).mono fun b S1 h=>bA h)
def Cd(t:WP Bool)(c:WP (List D)):WP (List D):=fun ρ S Q=>t ρ S fun b S1=>wIf b (c ρ S1 Q) (Q [] S1)
theorem EW{t:WP Bool}{c:WP (List D)}{x:XT}{y:XA}(ht:Sd t x)(hc:Sd c y):Sd (Cd t c) (uU x y):=fun _ _ _ h=>aQ ((ht _ _ _ h).mono fun b S1 h=>by
 cases b with
 |true=>exact hc _ _ _ h
 | false=>exact bA h)
def pC(d:D)(S:Sto)(Q:List D->Sto->Prop):Prop:=Ok ((au d S).map fun r=>(r.2,S)) Q
def wNo{α:Type}:WP α:=fun _ _ _=>False
theorem nM{α:Type}{x:Rho->Sto->Option (α × Sto)}:Sd wNo x:=fun _ _ _ h=>h.elim
def aR(b:Bool)(x:WP (List D))(y:WP D)(ρ:Rho)(S:Sto)(KT:List D->Sto->Prop)(KV:D->Sto->Prop):Prop:=match b with
 |true=>x ρ S KT
 |false=>y ρ S KV
def wOf{α:Type}(b:Bool)(x:WP (List D))(y:WP D)(gt:List D->Sto->(α->Sto->Prop)->Prop)(gv:D->Sto->(α->Sto->Prop)->Prop):WP α:=fun ρ S Q=>aR b x y ρ S (fun ds S1=>gt ds S1 Q) (fun d S1=>gv d S1 Q)
theorem s_of{α:Type}{b:Bool}{w:WP (List D)}{v:WP D}{gt:List D->Sto->(α->Sto->Prop)->Prop}{gv:D->Sto->(α->Sto->Prop)->Prop}{x y:Rho->Sto->Option (α × Sto)}(hw:Sd (fun ρ S Q=>w ρ S fun ds S1=>gt ds S1 Q) x)(hv:Sd (fun ρ S Q=>v ρ S fun d S1=>gv d S1 Q) y):Sd (wOf b w v gt gv) (if b=true then x else y):=by
 cases b with
 |true=>exact hw
 |false=>exact hv
theorem Kq{b:Bool}{w:WP (List D)}{v u:WP D}{x:XA}{y z:XE}(hw:Sd w x)(hu:Sd u z)(hv:Sd v y):Sd (fun ρ S Q=>aR b w u ρ S (fun ds S1=>v ρ S1 fun i S2=>cI i fun k=>∃d,atI ds k=some d/\Q d S2) (fun d S1=>v ρ S1 fun i S2=>Ok (ixS d i S2) Q)) (if b=true then oD x y else mO ixS z y):=fun ρ S Q h=>by
 cases b with
 |true=>
  show Ok (oD x y ρ S) Q;rw[ED];exact(hw _ _ _ h).mono fun ds S1 h=>(hv _ _ _ h).mono fun i S2 h=>b6 h
 |false=>exact aQ ((hu _ _ _ h).mono fun ds S1 h=>aQ (hv _ _ _ h))
noncomputable def wO2(t:CE->WP D):Option CE->Option (WP D)
 |none=>none
 |some e=>some (t e)
def Ai(t:CE->WP Bool):Option CE->WP (List D)->WP (List D)
 |some c,x=>Cd (t c) x
 |none,x=>x
def wP(x y:D)(S:Sto)(Q:D->Sto->Prop):Prop:=cI x fun i=>cI y fun j=>Q (.int (if j > i then j else i)) S
def wQ(x y:D)(S:Sto)(Q:D->Sto->Prop):Prop:=cI x fun i=>cI y fun j=>Q (.int (if j < i then j else i)) S
def w2(g:D->D->Sto->(D->Sto->Prop)->Prop):List D->Sto->(D->Sto->Prop)->Prop
 |[],_,_=>False
 |[_],_,_=>False
 |[x,y],S,Q=>g x y S Q
 |_::_::_::_,_,_=>False
theorem Ce{g:D->D->Sto->(D->Sto->Prop)->Prop}{f:D->D->Sto->Option (D × Sto)}(hg:∀ {a b S Q},g a b S Q->Ok (f a b S) Q):∀ {ds:List D} {S:Sto} {Q:D->Sto->Prop},w2 g ds S Q->Ok (two f ds S) Q
 |[],_,_,h=>h.elim
 |[_],_,_,h=>h.elim
 |[x,y],_,_,h=>hg h
 |_::_::_::_,_,_,h=>h.elim
def Cf:WP D:=fun _ S Q=>Q (.ref (Zv S)) (S++[.dic [] []])
def Cg(i j:Int):WP D:=fun _ S Q=>Q (.ref (Zv S)) (S++[.dic [jO i] [.int j]])
def wCf(i:CI->WP Nxt)(own:List Str)(t:CE->XT)(e:List Cl->XA):List Cl->WP (List D)
 |[]=>wNo
 |⟨tg,it,cond⟩::rest=>Ca own (i it) tg (cnd t cond (e rest)) LF
mutual
def wE(C:Calls)(ar:Nat->Nat):Nat->CE->WP D
 |0,_=>wNo
 |n+1,e=>match e with
  |.non=>wC .non
  |.bl b=>wC (.bl b)
  |.int i=>wC (.int i)
  |.str x=>wC (.str x)
  |.var i=>IJ i
  |.con _ v=>wC (.int v)
  |.tup es=>wSh es (wOn D.tup (wA C ar n es))
  |.lst es=>gU (wSh es (wA C ar n es))
  |.dic0=>Cf
  |.dic1 i j=>Cg i j
  |.bin o a b=>Ae (pw o) (wE C ar n a) (wE C ar n b)
  |.neg a=>IQ (wE C ar n a)
  |.cmp o a b=>Ae (wCm o) (wE C ar n a) (wE C ar n b)
  |.chn o p a b c=>EN o p (wE C ar n a) (wE C ar n b) (wE C ar n c)
  |.and a b=>IL (wE C ar n a) (wE C ar n b)
  |.or a b=>wOr (wE C ar n a) (wE C ar n b)
  |.not a=>IO (wE C ar n a)
  |.ix a b=>fun ρ S Q=>aR (ag a) (wTm C ar n a) (wE C ar n a) ρ S (fun ds S1=>wE C ar n b ρ S1 fun i S2=>cI i fun k=>∃d,atI ds k=some d/\Q d S2) (fun d S1=>wE C ar n b ρ S1 fun i S2=>Ok (ixS d i S2) Q)
  |.sl a lo hi=>wSl (wE C ar n a) (wO (wO2 (wE C ar n) lo)) (wO (wO2 (wE C ar n) hi))
  |.call f es=>B6 (C f) (ar f) (wA C ar n es)
  |.inst t a=>wUn (wOk (gY t)) (wE C ar n a)
  |.len a=>wOf (ag a) (wTm C ar n a) (wE C ar n a) (wOk (fI false)) (wOk (aH fI))
  |.all a=>wOf (ag a) (wTm C ar n a) (wE C ar n a) (wOk (jM false)) (wOk (aH jM))
  |.tupOf a=>wOf (ag a) (wTm C ar n a) (wE C ar n a) (wOk (iZ false)) (wOk (aH iZ))
  |.listOf a=>gU (wOf (ag a) (wTm C ar n a) (wE C ar n a) (fun ds S Q=>Q ds S) pC)
  |.listR a=>gU (ES (wE C ar n a))
  |.listR2 a b=>gU (wD (wE C ar n a) (wE C ar n b))
  |.mx a b=>wUn (w2 wP) (wA C ar n [a,b])
  |.mn a b=>wUn (w2 wQ) (wA C ar n [a,b])
  |.rep a=>wUn (wOk i6) (wE C ar n a)
  |.comp own elt cls=>gU (wCf (wI C ar n) own (evT C ar n) (ft C ar n elt) cls)
  |.app o a=>ER i5 oM (wE C ar n o) (wA C ar n [a])
  |.cnt o a=>ER (fun d _=>isTup d) uM (wE C ar n o) (wA C ar n [a])
def wA(C:Calls)(ar:Nat->Nat):Nat->List CE->WP (List D)
 |0,_=>wNo
 |n+1,es=>match es with
  |[]=>IS
  |e::es=>B9 (wE C ar n e) (wA C ar n es)
def wTm(C:Calls)(ar:Nat->Nat):Nat->CE->WP (List D)
 |0,_=>wNo
 |n+1,e=>match e with
  |.lst es=>wSh es (wA C ar n es)
  |.listOf a=>wOf (ag a) (wTm C ar n a) (wE C ar n a) (fun ds S Q=>Q ds S) pC
  |.listR a=>ES (wE C ar n a)
  |.listR2 a b=>wD (wE C ar n a) (wE C ar n b)
  |.comp own elt cls=>wCf (wI C ar n) own (evT C ar n) (ft C ar n elt) cls
  |.non=>wNo
  |.bl _=>wNo
  |.int _=>wNo
  |.str _=>wNo
  |.var _=>wNo
  |.con _ _=>wNo
  |.tup _=>wNo
  |.dic0=>wNo
  |.dic1 _ _=>wNo
  |.bin _ _ _=>wNo
  |.neg _=>wNo
  |.cmp _ _ _=>wNo
  |.chn _ _ _ _ _=>wNo
  |.and _ _=>wNo
  |.or _ _=>wNo
  |.not _=>wNo
  |.ix _ _=>wNo
  |.sl _ _ _=>wNo
  |.call _ _=>wNo
  |.inst _ _=>wNo
  |.len _=>wNo
  |.all _=>wNo
  |.tupOf _=>wNo
  |.mx _ _=>wNo
  |.mn _ _=>wNo
  |.rep _=>wNo
  |.app _ _=>wNo
  |.cnt _ _=>wNo
def wI(C:Calls)(ar:Nat->Nat):Nat->CI->WP Nxt
 |0,_=>wNo
 |n+1,it=>match it with
  |.val a=>wOf (ag a) (wTm C ar n a) (wE C ar n a) (fun ds S Q=>Q (nxL ds) S) wK
  |.r1 a=>wR1 (wE C ar n a)
  |.r2 a b=>wR2 (wE C ar n a) (wE C ar n b)
  |.en a=>wOf (ag a) (wTm C ar n a) (wE C ar n a) (fun ds S Q=>Q (mU ds) S) wL
def wT(C:Calls)(ar:Nat->Nat):Nat->CE->WP Bool
 |0,_=>wNo
 |n+1,e=>match e with
  |.cmp o a b=>wB (Ae (wCm o) (wE C ar n a) (wE C ar n b))
  |.chn o p a b c=>wB (EN o p (wE C ar n a) (wE C ar n b) (wE C ar n c))
  |.and a b=>Cb (wT C ar n a) (wT C ar n b)
  |.or a b=>IU (wT C ar n a) (wT C ar n b)
  |.not a=>Cc (wT C ar n a)
  |.non=>wUn aB (wE C ar n (.non))
  |.bl b=>wUn aB (wE C ar n (.bl b))
  |.int i=>wUn aB (wE C ar n (.int i))
  |.str x=>wUn aB (wE C ar n (.str x))
  |.var i=>wUn aB (wE C ar n (.var i))
  |.con k v=>wUn aB (wE C ar n (.con k v))
  |.tup es=>wUn aB (wE C ar n (.tup es))
  |.lst es=>wUn aB (wE C ar n (.lst es))
  |.dic0=>wUn aB (wE C ar n (.dic0))
  |.dic1 i j=>wUn aB (wE C ar n (.dic1 i j))
  |.bin o a b=>wUn aB (wE C ar n (.bin o a b))
  |.neg a=>wUn aB (wE C ar n (.neg a))
  |.ix a b=>wUn aB (wE C ar n (.ix a b))
  |.sl a lo hi=>wUn aB (wE C ar n (.sl a lo hi))
  |.call f es=>wUn aB (wE C ar n (.call f es))
  |.inst t a=>wUn aB (wE C ar n (.inst t a))
  |.len a=>wUn aB (wE C ar n (.len a))
  |.all a=>wUn aB (wE C ar n (.all a))
  |.tupOf a=>wUn aB (wE C ar n (.tupOf a))
  |.listOf a=>wUn aB (wE C ar n (.listOf a))
  |.listR a=>wUn aB (wE C ar n (.listR a))
  |.listR2 a b=>wUn aB (wE C ar n (.listR2 a b))
  |.mx a b=>wUn aB (wE C ar n (.mx a b))
  |.mn a b=>wUn aB (wE C ar n (.mn a b))
  |.rep a=>wUn aB (wE C ar n (.rep a))
  |.comp own elt cls=>wUn aB (wE C ar n (.comp own elt cls))
  |.app o a=>wUn aB (wE C ar n (.app o a))
  |.cnt o a=>wUn aB (wE C ar n (.cnt o a))
end
def wCl(C:Calls)(ar:Nat->Nat)(n:Nat)(elt:CE):List Cl->WP (List D)
 |[]=>wOn (fun d=>[d]) (wE C ar n elt)
 |⟨tg,it,cond⟩::rest=>wJ (wI C ar n it) tg (cnd (evT C ar n) cond (ft C ar n elt rest)) LF
theorem md{C:Calls}{ar:Nat->Nat}:∀ {n:Nat} {es:List CE} {ρ:Rho} {S S':Sto} {ds:List D},evA C ar n es ρ S=some (ds,S')->ds.length=es.length
 |0,_,_,_,_,_,h=>by simp only[evA,xNo] at h;cases h
 |n+1,[],_,_,_,_,h=>by simp only[evA,yI] at h;cases h;rfl
 |n+1,e::es,_,_,_,_,h=>by
  simp only[evA,qm] at h;obtain⟨a,S1,e1,h⟩:=aa h;obtain⟨as,S2,e2,h⟩:=aa h;cases h;rw[ZD,ZD,md e2]
structure SndW(C:Calls)(ar:Nat->Nat)(n:Nat):Prop where
 e:∀ {e:CE},Sd (wE C ar n e) (evE C ar n e)
 a:∀ {es:List CE},Sd (wA C ar n es) (evA C ar n es)
 m:∀ {e:CE},Sd (wTm C ar n e) (dn C ar n e)
 i:∀ {i:CI},Sd (wI C ar n i) (evI C ar n i)
 t:∀ {e:CE},Sd (wT C ar n e) (evT C ar n e)
section
variable {C:Calls} {ar:Nat->Nat} {n:Nat}
theorem IW(h:SndW C ar n){es:List CE}:Sd (wSh es (wOn D.tup (wA C ar n es))) (ic ig (evA C ar n es)):=fun ρ S Q w=>by
 obtain⟨le,w⟩:=gw w;obtain⟨ds,S1,e1,q⟩:=h.a _ _ _ w;refine aQ ⟨ds,S1,e1,?_⟩;have l:=md e1;show Ok (ig ds S1) Q;rw[zW];exact⟨by omega,q⟩
theorem wR(h:SndW C ar n){es:List CE}:Sd (wSh es (wA C ar n es)) (j5 (evA C ar n es)):=fun ρ S Q w=>by
 obtain⟨le,w⟩:=gw w;obtain⟨ds,S1,e1,q⟩:=h.a _ _ _ w;rw[zV];have l:=md e1;exact⟨ds,S1,e1,by omega,q⟩
theorem Ch(h:SndW C ar n){o:Option CE}:Sd (wO (wO2 (wE C ar n) o)) (opt (evE C ar n) o):=by
 cases o with
 |none=>exact Kh
 |some e=>exact Ki h.e
theorem Aj{a b:D}{S:Sto}{Q:D->Sto->Prop}(h:wP a b S Q):Ok (uG a b S) Q:=by
 obtain⟨i,rfl,h'⟩:=b6 h;obtain⟨j,rfl,h''⟩:=b6 h';exact bA h''
theorem Ak{a b:D}{S:Sto}{Q:D->Sto->Prop}(h:wQ a b S Q):Ok (uH a b S) Q:=by
 obtain⟨i,rfl,h'⟩:=b6 h;obtain⟨j,rfl,h''⟩:=b6 h';exact bA h''
end
section
variable {C:Calls} {ar:Nat->Nat} {n:Nat}
theorem IX(h:SndW C ar n){o:Option CE}{w:WP (List D)}{x:XA}(hw:Sd w x):Sd (Ai (wT C ar n) o w) (cnd (evT C ar n) o x):=by
 cases o with
 |none=>exact hw
 |some c=>exact EW h.t hw
theorem wU{α β:Type}{f:α->Sto->Option (β × Sto)}{a:α}{S:Sto}{Q:β->Sto->Prop}(h:wOk f a S Q):Ok (f a S) Q:=h
theorem s_q(h:SndW C ar n){f:Bool->List D->Sto->Option (D × Sto)}{a:CE}:Sd (wOf (ag a) (wTm C ar n a) (wE C ar n a) (wOk (f false)) (wOk (aH f))) (if ag a=true then r9 f (dn C ar n a) else sd f (evE C ar n a)):=
 s_of (Af (f:=f false) h.m wU) (Af (f:=aH f) h.e wU)
theorem Ci(h:SndW C ar n){a:CE}:Sd (wOf (ag a) (wTm C ar n a) (wE C ar n a) (fun ds S Q=>Q ds S) pC) (if ag a=true then dn C ar n a else i9 (evE C ar n a)):=s_of h.m (fun _ _ _ w=>aQ (h.e _ _ _ w))
theorem s_u{g:D->Sto->Option (D × Sto)}{w:WP D}{x:XE}(hw:Sd w x):Sd (wUn (wOk g) w) (xUn g x):=Af (f:=g) hw wU
theorem Kr{w:WP (List D)}{x:XA}(hw:Sd w x):Sd (wUn (w2 wP) w) (ic (two uG) x):=fun _ _ _ h=>aQ ((hw _ _ _ h).mono fun _ _ h=>Ce (fun z=>Aj z) h)
theorem Ks{w:WP (List D)}{x:XA}(hw:Sd w x):Sd (wUn (w2 wQ) w) (ic (two uH) x):=fun _ _ _ h=>aQ ((hw _ _ _ h).mono fun _ _ h=>Ce (fun z=>Ak z) h)
theorem EX:Sd Cf u6:=fun _ _ _ h=>bA h
theorem EY{i j:Int}:Sd (Cg i j) (u7 i j):=fun _ _ _ h=>bA h
theorem IY{w:WP D}{x:XE}(hw:Sd w x):Sd (wUn aB w) (yS x):=Af (f:=lA) hw wN
theorem jB:∀n,SndW C ar n
 |0=>⟨nM,nM,nM,nM,nM⟩
 |n+1=>by
  have h:=jB n;refine⟨fun {e}=>?_,fun {es}=>?_,fun {e}=>?_,fun {i}=>?_,fun {e}=>?_⟩
  ·cases e with
   |non=>exact s_c
   |bl b=>exact s_c
   |int b=>exact s_c
   |str b=>exact s_c
   |var b=>exact IK
   |con b v=>exact s_c
   |tup es=>exact IW h
   |lst es=>exact fh (wR h)
   |dic0=>exact EX
   |dic1 i j=>exact EY
   |bin o a b=>exact wy h.e h.e Ag
   |neg a=>exact IR h.e
   |cmp o a b=>exact wy h.e h.e lZ
   |chn o p a b c=>exact B5 h.e h.e h.e
   |and a b=>exact IM h.e h.e
   |or a b=>exact Kg h.e h.e
   |not a=>exact IP h.e
   |ix a b=>exact Kq h.m h.e h.e
   |sl a lo hi=>exact Kj h.e (Ch h) (Ch h)
   |call f es=>exact EO h.a
   |inst t a=>exact s_u h.e
   |len a=>exact s_q h
   |all a=>exact s_q h
   |tupOf a=>exact s_q h
   |listOf a=>exact fh (Ci h)
   |listR a=>exact fh (B8 h.e)
   |listR2 a b=>exact fh (wG h.e h.e)
   |mx a b=>exact Kr h.a
   |mn a b=>exact Ks h.a
   |rep a=>exact s_u h.e
   |comp own elt cls=>cases cls with
    |nil=>exact fh nM
    |cons c rest=>cases c with |mk tg it cond=>exact fh (wH h.i)
   |app o a=>exact B7 h.e h.a
   |cnt o a=>exact B7 h.e h.a
  ·cases es with
   |nil=>exact IT
   |cons e es=>exact ET h.e h.a
  ·cases e with
   |lst es=>exact wR h
   |listOf a=>exact Ci h
   |listR a=>exact B8 h.e
   |listR2 a b=>exact wG h.e h.e
   |comp own elt cls=>cases cls with
    |nil=>exact nM
    |cons c rest=>cases c with |mk tg it cond=>exact wH h.i
   |_=>exact nM
  ·cases i with
   |val a=>exact s_of (wM h.m) (Kl h.e)
   |r1 a=>exact Kn h.e
   |r2 a b=>exact Ko h.e h.e
   |en a=>exact s_of (wM h.m) (Km h.e)
  ·cases e with
   |cmp o a b=>exact s_b (wy h.e h.e lZ)
   |chn o p a b c=>exact s_b (B5 h.e h.e h.e)
   |and a b=>exact EU h.t h.t
   |or a b=>exact IV h.t h.t
   |not a=>exact EV h.t
   |_=>exact IY h.e
theorem Kt{elt:CE}{cls:List Cl}:Sd (wCl C ar n elt cls) (ft C ar (n+1) elt cls):=by
 cases cls with
 |nil=>exact wM (jB n).e
 |cons c rest=>cases c with |mk tg it cond=>exact Ah (jB n).i
theorem wW{elt:CE}{cls:List Cl}{o:Option CE}{ρ:Rho}{S:Sto}{Q:List D->Sto->Prop}(h:Ai (wT C ar (n+1)) o (wCl C ar n elt cls) ρ S Q):Ok (cnd (evT C ar (n+1)) o (ft C ar (n+1) elt cls) ρ S) Q:=IX (jB (n+1)) Kt _ _ _ h
def wNm:Nat->D->Rho->(Rho->Prop)->Prop
 |_,_,[],_=>False
 |0,d,_::ρ,Q=>Q (some d::ρ)
 |i+1,d,o::ρ,Q=>wNm i d ρ fun ρ'=>Q (o::ρ')
theorem me:∀ {i:Nat} {d:D} {ρ:Rho} {Q:Rho->Prop},wNm i d ρ Q->i < ρ.length/\Q (ρ.set i (some d))
 |i,_,[],_,h=>by cases i <;> exact h.elim
 |0,d,_::ρ,Q,h=>⟨by simp,h⟩
 |i+1,d,o::ρ,Q,h=>by
  have:=me (ρ:=ρ) (Q:=fun ρ'=>Q (o::ρ')) h;exact⟨by rw[ZD];omega,this.2⟩
def wBs:List Tg->List D->Rho->(Rho->Prop)->Prop
 |[],[],ρ,Q=>Q ρ
 |[],_::_,_,_=>False
 |.name _::_,[],_,_=>False
 |.tup _::_,[],_,_=>False
 |.name i::ts,d::ds,ρ,Q=>wNm i d ρ fun ρ1=>wBs ts ds ρ1 Q
 |.tup us::ts,d::ds,ρ,Q=>∃ρ1,am (.tup us) d ρ=some ρ1/\wBs ts ds ρ1 Q
def wTp(ts:List Tg)(d:D)(ρ:Rho)(Q:Rho->Prop):Prop:=match d with
 |.tup ds=>wBs ts ds ρ Q
 |.non=>False |.bl _=>False |.str _=>False |.int _=>False |.ref _=>False
def wBd:Tg->D->Rho->(Rho->Prop)->Prop
 |.name i,d,ρ,Q=>wNm i d ρ Q
 |.tup ts,d,ρ,Q=>wTp ts d ρ Q
theorem wX{i:Nat}{d:D}{ρ:Rho}{Q:Rho->Prop}(h:wNm i d ρ Q):∃ρ1,am (.name i) d ρ=some ρ1/\Q ρ1:=⟨_,by rw[z7,if_pos (me h).1],(me h).2⟩
theorem pD:∀ {ts:List Tg} {ds:List D} {ρ:Rho} {Q:Rho->Prop},wBs ts ds ρ Q->∃ρ1,ax ts ds ρ=some ρ1/\Q ρ1
 |[],[],ρ,Q,h=>⟨ρ,qV,h⟩
 |[],_::_,_,_,h=>h.elim
 |.name _::_,[],_,_,h=>h.elim
 |.tup _::_,[],_,_,h=>h.elim
 |.name i::ts,d::ds,ρ,Q,h=>by
  obtain⟨ρ1,e,q⟩:=wX h;obtain⟨ρ2,e2,q⟩:=pD q;exact⟨ρ2,by rw[ax,e];exact e2,q⟩
 |.tup us::ts,d::ds,ρ,Q,h=>by
  obtain⟨ρ1,e,q⟩:=h;obtain⟨ρ2,e2,q⟩:=pD q;exact⟨ρ2,by rw[ax,e];exact e2,q⟩
theorem EZ{t:Tg}{d:D}{ρ:Rho}{Q:Rho->Prop}(h:wBd t d ρ Q):∃ρ1,am t d ρ=some ρ1/\Q ρ1:=by
 cases t with
 |name i=>exact wX h
 |tup ts=>cases d with
  |tup ds=>rw[wq];exact pD h
  |_=>exact h.elim
abbrev WS:=Rho->Sto->(Fl->Rho->Sto->Prop)->Prop
def rW(y:WS)(ρ:Rho)(S:Sto)(Q:Fl->Rho->Sto->Prop):Prop:=y ρ S Q
def wNx(y:WS)(Q:Fl->Rho->Sto->Prop)(f:Fl)(ρ:Rho)(S:Sto):Prop:=match f with
 |.nx=>rW y ρ S Q
 |.rt d=>Q (.rt d) ρ S
 |.bk=>Q .bk ρ S
 |.ct=>Q .ct ρ S
mutual
def wS(C:Calls)(ar:Nat->Nat):Nat->CS->WS
 |0,_=>fun _ _ _=>False
 |n+1,s=>match s with
  |.asg t e=>fun ρ S Q=>wE C ar n e ρ S fun d S1=>wBd t d ρ fun ρ1=>Q .nx ρ1 S1
  |.setI v o i=>fun ρ S Q=>wE C ar n v ρ S fun a S1=>wE C ar n o ρ S1 fun b S2=>wE C ar n i ρ S2 fun c S3=>∃S4,lB b c a S3=some S4/\Q .nx ρ S4
  |.ex e=>fun ρ S Q=>wE C ar n e ρ S fun _ S1=>Q .nx ρ S1
  |.ret e=>fun ρ S Q=>wE C ar n e ρ S fun d S1=>Q (.rt d) ρ S1
  |.ifs c a b=>fun ρ S Q=>wT C ar n c ρ S fun t S1=>wIf t (rW (wSs C ar n a) ρ S1 Q) (rW (wSs C ar n b) ρ S1 Q)
  |.for_ t it b=>fun ρ S Q=>wI C ar n it ρ S fun nx S1=>OkS (dm nx t (c7 C ar n b) LF 0 ρ S1) Q
  |.while_ c b=>fun ρ S Q=>OkS (bF (evT C ar n c) (c7 C ar n b) LF ρ S) Q
  |.cnt=>fun ρ S Q=>Q .ct ρ S
  |.never=>fun _ _ _=>False
def wSs(C:Calls)(ar:Nat->Nat):Nat->List CS->WS
 |0,_=>fun _ _ _=>False
 |n+1,ss=>match ss with
  |[]=>fun ρ S Q=>Q .nx ρ S
  |s::ss=>fun ρ S Q=>wS C ar n s ρ S (wNx (wSs C ar n ss) Q)
end
structure SdS(C:Calls)(ar:Nat->Nat)(n:Nat):Prop where
 s:∀ {s:CS} {ρ S Q},wS C ar n s ρ S Q->OkS (evS C ar n s ρ S) Q
 ss:∀ {ss:List CS} {ρ S Q},wSs C ar n ss ρ S Q->OkS (c7 C ar n ss ρ S) Q
theorem wY:∀n,SdS C ar n
 |0=>⟨fun h=>by simp only[wS] at h,fun h=>by simp only[wSs] at h⟩
 |n+1=>by
  have h:=wY n;have g:SndW C ar n:=jB n;refine⟨fun {s ρ S Q} w=>?_,fun {ss ρ S Q} w=>?_⟩
  ·cases s with
   |asg t e=>simp only[evS,zQ];simp only[wS] at w;exact(g.e _ _ _ w).mono fun d S1 w=>EZ w
   |setI v o i=>simp only[evS,wm];simp only[wS] at w;exact(g.e _ _ _ w).mono fun a S1 w=>(g.e _ _ _ w).mono fun b S2 w=>g.e _ _ _ w
   |ex e=>simp only[evS,wk];simp only[wS] at w;exact g.e _ _ _ w
   |ret e=>simp only[evS,zR];simp only[wS] at w;exact g.e _ _ _ w
   |ifs c a b=>
    simp only[evS,Ej];simp only[wS] at w;refine(g.t _ _ _ w).mono fun t S1 w=>?_;cases t with
    |true=>exact h.ss w
    |false=>exact h.ss w
   |for_ t it b=>simp only[evS,zS];simp only[wS] at w;exact g.i _ _ _ w
   |while_ c b=>simp only[wS] at w;simp only[evS];exact w
   |cnt=>simp only[wS] at w;simp only[evS];exact⟨_,_,_,rfl,w⟩
   |never=>simp only[wS] at w
  ·cases ss with
   |nil=>simp only[wSs] at w;simp only[c7];exact⟨_,_,_,rfl,w⟩
   |cons s ss=>
    simp only[wSs] at w;simp only[c7,zP];refine(h.s w).mono fun f ρ1 S1 w=>?_;cases f with
    |nx=>exact h.ss w
    |_=>exact w
theorem pE{ss:List CS}{ρ:Rho}{S:Sto}{Q:Fl->Rho->Sto->Prop}(h:rW (wSs C ar n ss) ρ S Q):OkS (c7 C ar n ss ρ S) Q:=(wY n).ss h
theorem wZ{s:CS}{ss:List CS}{ρ:Rho}{S:Sto}{Q:Fl->Rho->Sto->Prop}(h:wS C ar n s ρ S (wNx (wSs C ar n ss) Q)):rW (wSs C ar (n+1) (s::ss)) ρ S Q:=h
theorem Al{ρ:Rho}{S:Sto}{Q:Fl->Rho->Sto->Prop}(h:Q .nx ρ S):rW (wSs C ar (n+1) []) ρ S Q:=h
end
theorem E5{ad:List DefE}{k f:Nat}{d:DefE}{ds:List D}{ρ:Rho}{S:Sto}{Q:D->Sto->Prop}(hd:ad[f]?=some d)(hρ:ds.map some++Zj (d.N.length - ds.length) none=ρ)(h:rW (wSs (evC ad k) (fu ad) 60 d.body) ρ S (out Q))(hr:d.rb=none:=by rfl):Ok (evC ad (k+1) f ds S) Q:=bz hd hρ (pE h) hr
section
variable {C:Calls} {ar:Nat->Nat} {A B:Prop} {S S1:Sto} {Q:D->Sto->Prop} {Ql:List D->Sto->Prop} {Qn:Nxt->Sto->Prop} {Qb:Bool->Prop} {Qi:Int->Prop} {Qd:D->Prop} {Qr:Rho->Prop} {Qt:Bool->Sto->Prop} {Qs:Fl->Rho->Sto->Prop} {t:Bool} {d x y:D} {i j:Int} {n m f:Nat} {s:Str} {o:BOp} {c p:COp} {ds xs ys:List D} {l h:Option Int} {tg:Tg} {ts:List Tg} {ρ ρ2:Rho} {es:List CE} {a b e:CE} {oa ob cd:Option CE} {own:List Str} {it:CI} {rest:List Cl} {ty:Ty} {w wl:WP (List D)} {wv:WP D} {sa sb:List CS} {ws:WS} {od:Option D} {g:D->D->Sto->(D->Sto->Prop)->Prop}
theorem E6:wE C ar (n+1) (.non) ρ S Q=(Q .non S):=rfl
theorem IZ:wE C ar (n+1) (.bl t) ρ S Q=(Q (.bl t) S):=rfl
theorem E7:wE C ar (n+1) (.int i) ρ S Q=(Q (.int i) S):=rfl
theorem E8:wE C ar (n+1) (.str s) ρ S Q=(Q (.str s) S):=rfl
theorem E9:wE C ar (n+1) (.con m i) ρ S Q=(Q (.int i) S):=rfl
theorem Fa:wE C ar (n+1) (.var m) ρ S Q=(pv ρ m fun d=>Q d S):=rfl
theorem Fb:wE C ar (n+1) (.tup es) ρ S Q=(dG 60 es (wA C ar n es ρ S fun ds S1=>Q (.tup ds) S1)):=rfl
theorem Fc:wE C ar (n+1) (.lst es) ρ S Q=(dG 60 es (wA C ar n es ρ S fun ds S1=>Q (.ref S1.length) (S1++[.lst ds]))):=rfl
theorem Am:wE C ar (n+1) (.dic0) ρ S Q=(Q (.ref (Zv S)) (S++[.dic [] []])):=rfl
theorem An:wE C ar (n+1) (.dic1 i j) ρ S Q=(Q (.ref (Zv S)) (S++[.dic [jO i] [.int j]])):=rfl
theorem Fd:wE C ar (n+1) (.bin o a b) ρ S Q=(wE C ar n a ρ S fun x S1=>wE C ar n b ρ S1 fun y S2=>pw o x y S2 Q):=rfl
theorem Fe:wE C ar (n+1) (.neg a) ρ S Q=(wE C ar n a ρ S fun d S1=>cI d fun i=>Q (.int (-i)) S1):=rfl
theorem Ff:wE C ar (n+1) (.cmp c a b) ρ S Q=(wE C ar n a ρ S fun x S1=>wE C ar n b ρ S1 fun y S2=>wCm c x y S2 Q):=rfl
theorem Fg:wE C ar (n+1) (.chn c p a b e) ρ S Q=(wE C ar n a ρ S fun x S1=>wE C ar n b ρ S1 fun y S2=>wCm c x y S2 fun r S3=>wBl r fun t=>wIf t (wE C ar n e ρ S3 fun z S4=>wCm p y z S4 Q) (Q (.bl false) S3)):=rfl
theorem Fh:wE C ar (n+1) (.and a b) ρ S Q=(wE C ar n a ρ S fun d S1=>wBl d fun t=>wIf t (wE C ar n b ρ S1 Q) (Q (.bl false) S1)):=rfl
theorem Ja:wE C ar (n+1) (.or a b) ρ S Q=(wE C ar n a ρ S fun d S1=>wBl d fun t=>wIf t (Q (.bl true) S1) (wE C ar n b ρ S1 Q)):=rfl
theorem Fi:wE C ar (n+1) (.not a) ρ S Q=(wE C ar n a ρ S fun d S1=>wBl d fun t=>Q (.bl (!t)) S1):=rfl
theorem Jb:wE C ar (n+1) (.ix a b) ρ S Q=(aR (ag a) (wTm C ar n a) (wE C ar n a) ρ S (fun ds S1=>wE C ar n b ρ S1 fun i S2=>cI i fun k=>∃d,atI ds k=some d/\Q d S2) (fun d S1=>wE C ar n b ρ S1 fun i S2=>Ok (ixS d i S2) Q)):=rfl
theorem Ao:wE C ar (n+1) (.sl a none none) ρ S Q=(wE C ar n a ρ S fun d S1=>pA none none d S1 Q):=rfl
theorem Ap:wE C ar (n+1) (.sl a none (some b)) ρ S Q=(wE C ar n a ρ S fun d S1=>wE C ar n b ρ S1 fun y S2=>cI y fun j=>pA none (some j) d S2 Q):=rfl
theorem Aq:wE C ar (n+1) (.sl a (some b) none) ρ S Q=(wE C ar n a ρ S fun d S1=>wE C ar n b ρ S1 fun y S2=>cI y fun j=>pA (some j) none d S2 Q):=rfl
theorem Ar:wE C ar (n+1) (.sl a (some b) (some e)) ρ S Q=(wE C ar n a ρ S fun d S1=>wE C ar n b ρ S1 fun y S2=>cI y fun j=>wE C ar n e ρ S2 fun z S3=>cI z fun k=>pA (some j) (some k) d S3 Q):=rfl
theorem As:wE C ar (n+1) (.call f es) ρ S Q=(wA C ar n es ρ S fun ds S1=>ds.length=ar f/\Ok (C f ds S1) Q):=rfl
theorem Au:wE C ar (n+1) (.inst ty a) ρ S Q=(wE C ar n a ρ S fun d S1=>Ok (gY ty d S1) Q):=rfl
theorem Fj:wE C ar (n+1) (.len a) ρ S Q=(aR (ag a) (wTm C ar n a) (wE C ar n a) ρ S (fun ds S1=>Ok (fI false ds S1) Q) (fun d S1=>Ok (aH fI d S1) Q)):=rfl
theorem Fk:wE C ar (n+1) (.all a) ρ S Q=(aR (ag a) (wTm C ar n a) (wE C ar n a) ρ S (fun ds S1=>Ok (jM false ds S1) Q) (fun d S1=>Ok (aH jM d S1) Q)):=rfl
theorem w8:wE C ar (n+1) (.tupOf a) ρ S Q=(aR (ag a) (wTm C ar n a) (wE C ar n a) ρ S (fun ds S1=>Ok (iZ false ds S1) Q) (fun d S1=>Ok (aH iZ d S1) Q)):=rfl
theorem sQ:wE C ar (n+1) (.listOf a) ρ S Q=(aR (ag a) (wTm C ar n a) (wE C ar n a) ρ S (fun ds S1=>Q (.ref S1.length) (S1++[.lst ds])) (fun d S1=>Ok ((au d S1).map fun r=>(r.2,S1)) fun ds S1=>Q (.ref S1.length) (S1++[.lst ds]))):=rfl
theorem w9:wE C ar (n+1) (.listR a) ρ S Q=(wE C ar n a ρ S fun d S1=>∃i:Nat,d = .int i/\i<=1000/\Q (.ref S1.length) (S1++[.lst ((Zm i).map fun j=>.int (Int.ofNat j))])):=rfl
theorem sR:wE C ar (n+1) (.listR2 a b) ρ S Q=(wE C ar n a ρ S fun d S1=>wE C ar n b ρ S1 fun e S2=>∃i j,d = .int i/\e = .int j/\-100000<=i/\i<=j/\j<=i+1000/\i<=100000/\Q (.ref S2.length) (S2++[.lst (rgD i j)])):=rfl
theorem Jc:wE C ar (n+1) (.mx a b) ρ S Q=(wA C ar n [a,b] ρ S fun ds S1=>w2 wP ds S1 Q):=rfl
theorem Jd:wE C ar (n+1) (.mn a b) ρ S Q=(wA C ar n [a,b] ρ S fun ds S1=>w2 wQ ds S1 Q):=rfl
theorem Fm:wE C ar (n+1) (.rep a) ρ S Q=(wE C ar n a ρ S fun d S1=>Ok (i6 d S1) Q):=rfl
theorem Av:wE C ar (n+1) (.comp own a (⟨tg,it,cd⟩::rest)) ρ S Q=(wI C ar n it ρ S fun nx S1=>nJ own [] fun r=>nK ρ r fun ρ'=>wFt tg ρ' (Ok (aW nx tg (cnd (evT C ar n) cd (ft C ar n a rest)) ρ' LF 0 S1) fun es S2=>es.length<=100000/\Q (.ref S2.length) (S2++[.lst es]))):=rfl
theorem Fn:wE C ar (n+1) (.app a b) ρ S Q=(wE C ar n a ρ S fun d S1=>i5 d S1=true/\wA C ar n [b] ρ S1 fun as S2=>Ok (oM d as S2) Q):=rfl
theorem Fo:wE C ar (n+1) (.cnt a b) ρ S Q=(wE C ar n a ρ S fun d S1=>isTup d=true/\wA C ar n [b] ρ S1 fun as S2=>Ok (uM d as S2) Q):=rfl
theorem Ku:wA C ar (n+1) [] ρ S Ql=Ql [] S:=rfl
theorem Kv:wA C ar (n+1) (a::es) ρ S Ql=(wE C ar n a ρ S fun d S1=>wA C ar n es ρ S1 fun ds S2=>Ql (d::ds) S2):=rfl
theorem Fp:wTm C ar (n+1) (.lst es) ρ S Ql=dG 60 es (wA C ar n es ρ S Ql):=rfl
theorem sS:wTm C ar (n+1) (.listOf a) ρ S Ql=(aR (ag a) (wTm C ar n a) (wE C ar n a) ρ S (fun ds S1=>Ql ds S1) (fun d S1=>Ok ((au d S1).map fun r=>(r.2,S1)) Ql)):=rfl
theorem xa:wTm C ar (n+1) (.listR a) ρ S Ql=(wE C ar n a ρ S fun d S1=>∃i:Nat,d = .int i/\i<=1000/\Ql ((Zm i).map fun j=>.int (Int.ofNat j)) S1):=rfl
theorem sT:wTm C ar (n+1) (.listR2 a b) ρ S Ql=(wE C ar n a ρ S fun d S1=>wE C ar n b ρ S1 fun e S2=>∃i j,d = .int i/\e = .int j/\-100000<=i/\i<=j/\j<=i+1000/\i<=100000/\Ql (rgD i j) S2):=rfl
theorem Aw:wTm C ar (n+1) (.comp own a (⟨tg,it,cd⟩::rest)) ρ S Ql=(wI C ar n it ρ S fun nx S1=>nJ own [] fun r=>nK ρ r fun ρ'=>wFt tg ρ' (Ok (aW nx tg (cnd (evT C ar n) cd (ft C ar n a rest)) ρ' LF 0 S1) fun es S2=>es.length<=100000/\Ql es S2)):=rfl
theorem Fq:wI C ar (n+1) (.val a) ρ S Qn=(aR (ag a) (wTm C ar n a) (wE C ar n a) ρ S (fun ds S1=>Qn (nxL ds) S1) (fun d S1=>wK d S1 Qn)):=rfl
theorem Je:wI C ar (n+1) (.en a) ρ S Qn=(aR (ag a) (wTm C ar n a) (wE C ar n a) ρ S (fun ds S1=>Qn (mU ds) S1) (fun d S1=>wL d S1 Qn)):=rfl
theorem Jf:wI C ar (n+1) (.r1 a) ρ S Qn=(wE C ar n a ρ S fun d S1=>cI d fun j=>lim j=true/\Qn (nxR 0 j.toNat) S1):=rfl
theorem Jg:wI C ar (n+1) (.r2 a b) ρ S Qn=(wE C ar n a ρ S fun d S1=>wE C ar n b ρ S1 fun e S2=>cI d fun i=>cI e fun j=>(lim i=true/\lim j=true)/\Qn (nxR i (j - i).toNat) S2):=rfl
theorem Fr:wT C ar (n+1) (.cmp c a b) ρ S Qt=(wE C ar n a ρ S fun x S1=>wE C ar n b ρ S1 fun y S2=>wCm c x y S2 fun d S3=>wBl d fun t=>Qt t S3):=rfl
theorem Fs:wT C ar (n+1) (.chn c p a b e) ρ S Qt=(wE C ar n a ρ S fun x S1=>wE C ar n b ρ S1 fun y S2=>wCm c x y S2 fun r S3=>wBl r fun t=>wIf t (wE C ar n e ρ S3 fun z S4=>wCm p y z S4 fun d S5=>wBl d fun t=>Qt t S5) (wBl (.bl false) fun t=>Qt t S3)):=rfl
theorem Ft:wT C ar (n+1) (.and a b) ρ S Qt=(wT C ar n a ρ S fun t S1=>wIf t (wT C ar n b ρ S1 Qt) (Qt false S1)):=rfl
theorem Jh:wT C ar (n+1) (.or a b) ρ S Qt=(wT C ar n a ρ S fun t S1=>wIf t (Qt true S1) (wT C ar n b ρ S1 Qt)):=rfl
theorem Fu:wT C ar (n+1) (.not a) ρ S Qt=(wT C ar n a ρ S fun t S1=>Qt (!t) S1):=rfl
theorem Ji:wT C ar (n+1) (.bl t) ρ S Qt=(wE C ar n (.bl t) ρ S fun d S1=>aB d S1 Qt):=rfl
theorem Fv:wT C ar (n+1) (.var m) ρ S Qt=(wE C ar n (.var m) ρ S fun d S1=>aB d S1 Qt):=rfl
theorem Ax:wT C ar (n+1) (.call f es) ρ S Qt=(wE C ar n (.call f es) ρ S fun d S1=>aB d S1 Qt):=rfl
theorem Ay:wT C ar (n+1) (.inst ty a) ρ S Qt=(wE C ar n (.inst ty a) ρ S fun d S1=>aB d S1 Qt):=rfl
theorem Fw:wT C ar (n+1) (.all a) ρ S Qt=(wE C ar n (.all a) ρ S fun d S1=>aB d S1 Qt):=rfl
theorem Fx:wT C ar (n+1) (.len a) ρ S Qt=(wE C ar n (.len a) ρ S fun d S1=>aB d S1 Qt):=rfl
theorem Jj:wT C ar (n+1) (.ix a b) ρ S Qt=(wE C ar n (.ix a b) ρ S fun d S1=>aB d S1 Qt):=rfl
theorem Fy:wT C ar (n+1) (.lst es) ρ S Qt=(wE C ar n (.lst es) ρ S fun d S1=>aB d S1 Qt):=rfl
theorem Fz:wT C ar (n+1) (.tup es) ρ S Qt=(wE C ar n (.tup es) ρ S fun d S1=>aB d S1 Qt):=rfl
theorem Kw:wCl C ar n a [] ρ S Ql=(wE C ar n a ρ S fun d S1=>Ql [d] S1):=rfl
theorem Kx:wCl C ar n a (⟨tg,it,cd⟩::rest) ρ S Ql=(wFt tg ρ (wI C ar n it ρ S fun nx S1=>Ok (aW nx tg (cnd (evT C ar n) cd (ft C ar n a rest)) ρ LF 0 S1) Ql)):=rfl
theorem Ky:Ai (wT C ar n) none w ρ S Ql=w ρ S Ql:=rfl
theorem Kz:Ai (wT C ar n) (some a) w ρ S Ql=(wT C ar n a ρ S fun t S1=>wIf t (w ρ S1 Ql) (Ql [] S1)):=rfl
theorem FA:wS C ar (n+1) (.asg tg a) ρ S Qs=(wE C ar n a ρ S fun d S1=>wBd tg d ρ fun ρ1=>Qs .nx ρ1 S1):=rfl
theorem Az:wS C ar (n+1) (.setI a b e) ρ S Qs=(wE C ar n a ρ S fun x S1=>wE C ar n b ρ S1 fun y S2=>wE C ar n e ρ S2 fun z S3=>∃S4,lB y z x S3=some S4/\Qs .nx ρ S4):=rfl
theorem Jk:wS C ar (n+1) (.ex a) ρ S Qs=(wE C ar n a ρ S fun _ S1=>Qs .nx ρ S1):=rfl
theorem FC:wS C ar (n+1) (.ret a) ρ S Qs=(wE C ar n a ρ S fun d S1=>Qs (.rt d) ρ S1):=rfl
theorem FD:wS C ar (n+1) (.ifs a sa sb) ρ S Qs=(wT C ar n a ρ S fun t S1=>wIf t (rW (wSs C ar n sa) ρ S1 Qs) (rW (wSs C ar n sb) ρ S1 Qs)):=rfl
theorem FE:wS C ar (n+1) (.for_ tg it sa) ρ S Qs=(wI C ar n it ρ S fun nx S1=>OkS (dm nx tg (c7 C ar n sa) LF 0 ρ S1) Qs):=rfl
theorem xc:wS C ar (n+1) (.while_ a sa) ρ S Qs=OkS (bF (evT C ar n a) (c7 C ar n sa) LF ρ S) Qs:=rfl
theorem FF:wS C ar (n+1) .cnt ρ S Qs=Qs .ct ρ S:=rfl
theorem Jl:wNx ws Qs .nx ρ S=rW ws ρ S Qs:=rfl
theorem Jm:wNx ws Qs (.rt d) ρ S=Qs (.rt d) ρ S:=rfl
theorem Jn:wNx ws Qs .bk ρ S=Qs .bk ρ S:=rfl
theorem Jo:wNx ws Qs .ct ρ S=Qs .ct ρ S:=rfl
theorem FG:wIf (true && t) A B=wIf t A B:=rfl
theorem FH:wIf (false && t) A B=B:=rfl
theorem FI:wIf (true || t) A B=A:=rfl
theorem AA:wIf (false || t) A B=wIf t A B:=rfl
theorem AB:wIf (!(true && t)) A B=wIf (!t) A B:=rfl
theorem AC:wIf (!(false && t)) A B=A:=rfl
theorem AD:wIf (!(true || t)) A B=B:=rfl
theorem AE:wIf (!(false || t)) A B=wIf (!t) A B:=rfl
theorem Jp:wIf true A B=A:=rfl
theorem Jq:wIf false A B=B:=rfl
theorem FJ:wIf (!true) A B=B:=rfl
theorem FK:wIf (!false) A B=A:=rfl
theorem Jr:wBl (.bl t) Qb=Qb t:=rfl
theorem FL:cI (.int i) Qi=Qi i:=rfl
theorem FM:pv (some d::ρ) 0 Qd=Qd d:=rfl
theorem FN:pv (od::ρ) (n+1) Qd=pv ρ n Qd:=rfl
theorem Js:wFr (none::ρ) 0 A=A:=rfl
theorem Jt:wFr (od::ρ) (n+1) A=wFr ρ n A:=rfl
theorem FO:nI [] ρ A=A:=rfl
theorem FP:nI (.name m::ts) ρ A=wFr ρ m (nI ts ρ A):=rfl
theorem Ju:wFt (.name m) ρ A=wFr ρ m A:=rfl
theorem Jv:wFt (.tup ts) ρ A=nI ts ρ A:=rfl
theorem FQ:nJ [] ρ Qr=Qr ρ:=rfl
theorem FR:nJ (s::own) ρ Qr=nJ own (none::ρ) Qr:=rfl
theorem FS:nK [] ρ Qr=Qr ρ:=rfl
theorem FT:nK (od::ρ) ρ2 Qr=nK ρ ρ2 fun r=>Qr (od::r):=rfl
theorem Jw:dG (n+1) [] A=A:=rfl
theorem Jx:dG (n+1) (a::es) A=dG n es A:=rfl
theorem Jy:wNm 0 d (od::ρ) Qr=Qr (some d::ρ):=rfl
theorem Jz:wNm (n+1) d (od::ρ) Qr=wNm n d ρ fun r=>Qr (od::r):=rfl
theorem JA:wBs [] [] ρ Qr=Qr ρ:=rfl
theorem JB:wBs (.name m::ts) (d::ds) ρ Qr=wNm m d ρ fun r=>wBs ts ds r Qr:=rfl
theorem JC:wBd (.name m) d ρ Qr=wNm m d ρ Qr:=rfl
theorem JD:wBd (.tup ts) d ρ Qr=wTp ts d ρ Qr:=rfl
theorem JE:wTp ts (.tup ds) ρ Qr=wBs ts ds ρ Qr:=rfl
theorem AF:wII .add i j S Q=Q (.int (i+j)) S:=rfl
theorem AG:wII .sub i j S Q=Q (.int (i - j)) S:=rfl
theorem AH:wII .mul i j S Q=(f9 i j=true/\Q (.int (i * j)) S):=rfl
theorem AI:wII .mod i j S Q=(0 < j/\Q (.int (i % j)) S):=rfl
theorem xg:wII .fdiv i j S Q=((0 < j/\j < 1237940039285380274899124224)/\Q (.int (i / j)) S):=rfl
theorem AJ:wII .pow i j S Q=((0<=j/\j<=1000000/\i.natAbs < 2 ^ 64)/\Q (.int (i ^ j.toNat)) S):=rfl
theorem AK:wTT .add xs ys S Q=(xs.length+ys.length<=1000/\Q (.tup (xs++ys)) S):=rfl
theorem AL:wz o i (.int j) S Q=wII o i j S Q:=rfl
theorem AM:q8 o xs (.tup ys) S Q=wTT o xs ys S Q:=rfl
theorem AN:q8 o xs (.int j) S Q=Ok (bI o (.tup xs) (.int j) S) Q:=rfl
theorem FV:pw o (.int i) y S Q=wz o i y S Q:=rfl
theorem FY:pw o (.tup xs) y S Q=q8 o xs y S Q:=rfl
theorem FZ:pw o (.ref n) y S Q=Ok (bI o (.ref n) y S) Q:=rfl
theorem F0:pw o (.str s) y S Q=Ok (bI o (.str s) y S) Q:=rfl
theorem F1:wCI .eq i j S Q=Q (.bl (decide (i=j))) S:=rfl
theorem F2:wCm .eq x y S Q=wCx .eq x y S Q:=rfl
theorem F3:wCI .ne i j S Q=Q (.bl (!decide (i=j))) S:=rfl
theorem F4:wCm .ne x y S Q=wCx .ne x y S Q:=rfl
theorem F5:wCI .lt i j S Q=Q (.bl (decide (i < j))) S:=rfl
theorem F6:wCm .lt x y S Q=wCx .lt x y S Q:=rfl
theorem F7:wCI .le i j S Q=Q (.bl (decide (i<=j))) S:=rfl
theorem F8:wCm .le x y S Q=wCx .le x y S Q:=rfl
theorem F9:wCI .gt i j S Q=Q (.bl (decide (j < i))) S:=rfl
theorem Ga:wCm .gt x y S Q=wCx .gt x y S Q:=rfl
theorem Gb:wCI .ge i j S Q=Q (.bl (decide (j<=i))) S:=rfl
theorem Gc:wCm .ge x y S Q=wCx .ge x y S Q:=rfl
theorem Gd:wCm .is x y S Q=Ok (az .is x y S) Q:=rfl
theorem sU:wCm .isnot x y S Q=Ok (az .isnot x y S) Q:=rfl
theorem xh:wCm .isin x y S Q=Ok (az .isin x y S) Q:=rfl
theorem sV:wCm .notin x y S Q=Ok (az .notin x y S) Q:=rfl
theorem JF:wCx c (.int i) y S Q=EL c i y S Q:=rfl
theorem JG:wCx c (.tup xs) y S Q=sP c xs y S Q:=rfl
theorem JH:wCx c .non y S Q=Ok (az c .non y S) Q:=rfl
theorem JI:wCx c (.bl t) y S Q=Ok (az c (.bl t) y S) Q:=rfl
theorem JJ:wCx c (.str s) y S Q=Ok (az c (.str s) y S) Q:=rfl
theorem JK:wCx c (.ref n) y S Q=Ok (az c (.ref n) y S) Q:=rfl
theorem Gf:EL c i (.int j) S Q=wCI c i j S Q:=rfl
theorem Gg:sP .eq xs (.tup []) S Q=Q (.bl xs.isEmpty) S:=rfl
theorem Gh:sP .ne xs (.tup []) S Q=Q (.bl (!xs.isEmpty)) S:=rfl
theorem AO:sP .eq xs (.tup (y::ys)) S Q=Ok (az .eq (.tup xs) (.tup (y::ys)) S) Q:=rfl
theorem AQ:sP .ne xs (.tup (y::ys)) S Q=Ok (az .ne (.tup xs) (.tup (y::ys)) S) Q:=rfl
theorem Gi:pA l h (.tup ds) S Q=Q (.tup (aY ds l h)) S:=rfl
theorem Gj:pA l h (.ref n) S Q=Ok (slS l h (.ref n) S) Q:=rfl
theorem Gk:wK (.tup ds) S Qn=Qn (nxL ds) S:=rfl
theorem Gm:wK (.ref n) S Qn=((ah S n).isSome=true/\Qn (nxS n) S):=rfl
theorem Gn:wL (.tup ds) S Qn=Qn (mU ds) S:=rfl
theorem Go:wL (.ref n) S Qn=((ah S n).isSome=true/\Qn (uN n) S):=rfl
theorem AR:aB (.bl t) S Qt=Qt t S:=rfl
theorem AS:aB (.tup ds) S Qt=Qt (!ds.isEmpty) S:=rfl
theorem AU:aB (.int i) S Qt=Qt (i != 0) S:=rfl
theorem AV:aB (.ref n) S Qt=Ok (lA (.ref n) S) Qt:=rfl
theorem KA:w2 g [x,y] S Q=g x y S Q:=rfl
theorem Gp:wP (.int i) (.int j) S Q=Q (.int (if j > i then j else i)) S:=rfl
theorem Gq:wQ (.int i) (.int j) S Q=Q (.int (if j < i then j else i)) S:=rfl
theorem AW:aR (ag (.lst es)) wl wv ρ S Ql Q=wl ρ S Ql:=rfl
theorem pF:aR (ag (.listOf a)) wl wv ρ S Ql Q=wl ρ S Ql:=rfl
theorem sW:aR (ag (.listR a)) wl wv ρ S Ql Q=wl ρ S Ql:=rfl
theorem pG:aR (ag (.listR2 a b)) wl wv ρ S Ql Q=wl ρ S Ql:=rfl
theorem xj:aR (ag (.comp own a rest)) wl wv ρ S Ql Q=wl ρ S Ql:=rfl
theorem AX:aR (ag (.non)) wl wv ρ S Ql Q=wv ρ S Q:=rfl
theorem Gr:aR (ag (.bl t)) wl wv ρ S Ql Q=wv ρ S Q:=rfl
theorem AY:aR (ag (.int i)) wl wv ρ S Ql Q=wv ρ S Q:=rfl
theorem AZ:aR (ag (.str s)) wl wv ρ S Ql Q=wv ρ S Q:=rfl
theorem A0:aR (ag (.var m)) wl wv ρ S Ql Q=wv ρ S Q:=rfl
theorem A6:aR (ag (.con m i)) wl wv ρ S Ql Q=wv ρ S Q:=rfl
theorem A7:aR (ag (.tup es)) wl wv ρ S Ql Q=wv ρ S Q:=rfl
theorem xk:aR (ag (.dic0)) wl wv ρ S Ql Q=wv ρ S Q:=rfl
theorem xl:aR (ag (.dic1 i j)) wl wv ρ S Ql Q=wv ρ S Q:=rfl
theorem A8:aR (ag (.bin o a b)) wl wv ρ S Ql Q=wv ρ S Q:=rfl
theorem A9:aR (ag (.neg a)) wl wv ρ S Ql Q=wv ρ S Q:=rfl
theorem Ba:aR (ag (.cmp c a b)) wl wv ρ S Ql Q=wv ρ S Q:=rfl
theorem Bb:aR (ag (.chn c p a b e)) wl wv ρ S Ql Q=wv ρ S Q:=rfl
theorem Bc:aR (ag (.and a b)) wl wv ρ S Ql Q=wv ρ S Q:=rfl
theorem Gs:aR (ag (.or a b)) wl wv ρ S Ql Q=wv ρ S Q:=rfl
theorem Be:aR (ag (.not a)) wl wv ρ S Ql Q=wv ρ S Q:=rfl
theorem Gu:aR (ag (.ix a b)) wl wv ρ S Ql Q=wv ρ S Q:=rfl
theorem Gv:aR (ag (.sl a oa ob)) wl wv ρ S Ql Q=wv ρ S Q:=rfl
theorem xm:aR (ag (.call f es)) wl wv ρ S Ql Q=wv ρ S Q:=rfl
theorem xn:aR (ag (.inst ty a)) wl wv ρ S Ql Q=wv ρ S Q:=rfl
theorem Bf:aR (ag (.len a)) wl wv ρ S Ql Q=wv ρ S Q:=rfl
theorem Bg:aR (ag (.all a)) wl wv ρ S Ql Q=wv ρ S Q:=rfl
theorem sX:aR (ag (.tupOf a)) wl wv ρ S Ql Q=wv ρ S Q:=rfl
theorem Gw:aR (ag (.mx a b)) wl wv ρ S Ql Q=wv ρ S Q:=rfl
theorem Gx:aR (ag (.mn a b)) wl wv ρ S Ql Q=wv ρ S Q:=rfl
theorem Bh:aR (ag (.rep a)) wl wv ρ S Ql Q=wv ρ S Q:=rfl
theorem Bi:aR (ag (.app a b)) wl wv ρ S Ql Q=wv ρ S Q:=rfl
theorem Bj:aR (ag (.cnt a b)) wl wv ρ S Ql Q=wv ρ S Q:=rfl
theorem ay{α:Type}{z:Option (α × Sto)}{r:α}{S2:Sto}{K:α->Sto->Prop}(e:z=some (r,S2))(q:K r S2):Ok z K:=⟨r,S2,e,q⟩
theorem Gy{u:Bool}(ha:A)(hb:t=false->u=false->B):wIf t A (wIf u A B):=by
 cases t with
 |true=>exact ha
 |false=>cases u with
  |true=>exact ha
  |false=>exact hb rfl rfl
theorem bB(h1:t=true->A)(h2:t=false->B):wIf t A B:=by
 cases t with
 |true=>exact h1 rfl
 |false=>exact h2 rfl
end
end Ev
local macro_rules |`(tactic|k_go)=>`(tactic|dsimp only[↓Ev.E6,↓Ev.IZ,↓Ev.E7,↓Ev.E8,↓Ev.E9,↓Ev.Fa,↓Ev.Fb,↓Ev.Fc,↓Ev.Am,↓Ev.An,↓Ev.Fd,↓Ev.Fe,↓Ev.Ff,↓Ev.Fg,↓Ev.Fh,↓Ev.Ja,↓Ev.Fi,↓Ev.Jb,↓Ev.Ao,↓Ev.Ap,↓Ev.Aq,↓Ev.Ar,↓Ev.As,↓Ev.Au,↓Ev.Fj,↓Ev.Fk,↓Ev.w8,↓Ev.sQ,↓Ev.w9,↓Ev.sR,↓Ev.Jc,↓Ev.Jd,↓Ev.Fm,↓Ev.Av,↓Ev.Fn,↓Ev.Fo,↓Ev.Ku,↓Ev.Kv,↓Ev.Fp,↓Ev.sS,↓Ev.xa,↓Ev.sT,↓Ev.Aw,↓Ev.Fq,↓Ev.Je,↓Ev.Jf,↓Ev.Jg,↓Ev.Fr,↓Ev.Fs,↓Ev.Ft,↓Ev.Jh,↓Ev.Fu,↓Ev.Ji,↓Ev.Fv,↓Ev.Ax,↓Ev.Ay,↓Ev.Fw,↓Ev.Fx,↓Ev.Jj,↓Ev.Fy,↓Ev.Fz,↓Ev.Kw,↓Ev.Kx,↓Ev.Ky,↓Ev.Kz,↓Ev.FA,↓Ev.Az,↓Ev.Jk,↓Ev.FC,↓Ev.FD,↓Ev.FE,↓Ev.xc,↓Ev.FF,↓Ev.Jl,↓Ev.Jm,↓Ev.Jn,↓Ev.Jo,↓Ev.FG,↓Ev.FH,↓Ev.FI,↓Ev.AA,↓Ev.AB,↓Ev.AC,↓Ev.AD,↓Ev.AE,↓Ev.Jp,↓Ev.Jq,↓Ev.FJ,↓Ev.FK,↓Ev.Jr,↓Ev.FL,↓Ev.FM,↓Ev.FN,↓Ev.Js,↓Ev.Jt,↓Ev.FO,↓Ev.FP,↓Ev.Ju,↓Ev.Jv,↓Ev.FQ,↓Ev.FR,↓Ev.FS,↓Ev.FT,↓Ev.Jw,↓Ev.Jx,↓Ev.Jy,↓Ev.Jz,↓Ev.JA,↓Ev.JB,↓Ev.JC,↓Ev.JD,↓Ev.JE,↓Ev.AF,↓Ev.AG,↓Ev.AH,↓Ev.AI,↓Ev.xg,↓Ev.AJ,↓Ev.AK,↓Ev.AL,↓Ev.AM,↓Ev.AN,↓Ev.FV,↓Ev.FY,↓Ev.FZ,↓Ev.F0,↓Ev.F1,↓Ev.F2,↓Ev.F3,↓Ev.F4,↓Ev.F5,↓Ev.F6,↓Ev.F7,↓Ev.F8,↓Ev.F9,↓Ev.Ga,↓Ev.Gb,↓Ev.Gc,↓Ev.Gd,↓Ev.sU,↓Ev.xh,↓Ev.sV,↓Ev.JF,↓Ev.JG,↓Ev.JH,↓Ev.JI,↓Ev.JJ,↓Ev.JK,↓Ev.Gf,↓Ev.Gg,↓Ev.Gh,↓Ev.AO,↓Ev.AQ,↓Ev.Gi,↓Ev.Gj,↓Ev.Gk,↓Ev.Gm,↓Ev.Gn,↓Ev.Go,↓Ev.AR,↓Ev.AS,↓Ev.AU,↓Ev.AV,↓Ev.KA,↓Ev.Gp,↓Ev.Gq,↓Ev.AW,↓Ev.pF,↓Ev.sW,↓Ev.pG,↓Ev.xj,↓Ev.AX,↓Ev.Gr,↓Ev.AY,↓Ev.AZ,↓Ev.A0,↓Ev.A6,↓Ev.A7,↓Ev.xk,↓Ev.xl,↓Ev.A8,↓Ev.A9,↓Ev.Ba,↓Ev.Bb,↓Ev.Bc,↓Ev.Gs,↓Ev.Be,↓Ev.Gu,↓Ev.Gv,↓Ev.xm,↓Ev.xn,↓Ev.Bf,↓Ev.Bg,↓Ev.sX,↓Ev.Gw,↓Ev.Gx,↓Ev.Bh,↓Ev.Bi,↓Ev.Bj,↓Ev.Ek,↓Ev.El])
local macro_rules |`(tactic|k_is)=>`(tactic|((with_reducible first |refine Ev.pE ?_ |refine Ev.wW ?_ |refine Ev.wcl_ok ?_ |skip);(try dsimp only[List.set_cons_zero,List.set_cons_succ]);(try k_go);(repeat ((with_reducible first |refine Ev.wZ ?_ |refine Ev.Al ?_);(try k_go)))))
namespace Lw
open PySem Ev
variable {p:Nat} {S:Sto} {k:Nat} {Q:D->Sto->Prop}
theorem xo{t:Dw.D}{d:D}(h:TD p S t d)(q:Q (.bl (Dw.isW t)) S):Ok (evC ad (k+1) 0 [d] S) Q:=by
 refine bz (d:=fL) (ρ:=[some d]) rfl rfl ?_;dsimp only[fL,jt];k_is;refine ay (fg h) ?_;k_is;cases t <;> first |exact q |(k_is;rw[fg h,ae];exact q)
theorem fj{t:Dw.D}{d:D}{a b:Int}(h:TD p S t d)(q:Q (.bl (Dw.aj t a b)) S):Ok (evC ad (k+2) 1 [d,.int a,.int b] S) Q:=by
 refine bz (d:=eA) (ρ:=[some d,some (.int a),some (.int b)]) rfl rfl ?_;dsimp only[eA,g9];k_is;refine⟨rfl,xo h ?_⟩;k_is;cases t with
 |int i=>
  obtain rfl:=h.int;dsimp only[Dw.isW];k_is;dsimp only[Dw.aj] at q;cases c:decide (a<=i) with
  |true=>rw[c] at q;exact q
  |false=>rw[c] at q;exact q
 |_=>exact q
theorem kA{t:Dw.D}{d:D}(h:TD p S t d)(q:Q (.bl (Dw.aj t 0 9999)) S):Ok (evC ad (k+3) 2 [d] S) Q:=by
 refine bz (d:=eB) (ρ:=[some d]) rfl rfl ?_;dsimp only[eB,hF];k_is;exact⟨rfl,fj h q⟩
theorem eL{t:Dw.D}{d:D}{a b:Int}(h:TD p S t d)(q:Q (.bl (Dw.isT t a b)) S):Ok (evC ad (k+1) 3 [d,.int a,.int b] S) Q:=by
 refine bz (d:=fM) (ρ:=[some d,some (.int a),some (.int b)]) rfl rfl ?_;dsimp only[fM,ju];k_is;refine ay (fg h) ?_;k_is;cases t with
 |tup ts=>
  obtain⟨ds,rfl,hs⟩:=h.tup;rw[show dY Ty.tuple (tyT (Dw.D.tup ts))=true from rfl];k_is;refine ay (cH hs) ?_;k_is;dsimp only[Dw.isT] at q;cases c:decide (a<=(ts.length:Int)) with
  |true=>rw[c] at q;exact q
  |false=>rw[c] at q;exact q
 |_=>exact q
theorem Gz{t:Dw.D}{d:D}{n:Nat}(h:TD p S t d)(hn:n<=1000)(q:∀S',Sm S S'->Q (.bl (Dw.bo n t)) S'):Ok (evC ad (k+3) 6 [d,.int n] S) Q:=by
 refine bz (d:=dB) (ρ:=[some d,some (.int n)]) rfl rfl ?_;dsimp only[dB,gm];k_is;refine⟨rfl,eL h ?_⟩;k_is;cases t with
 |tup ts=>
  obtain⟨ds,rfl,hs⟩:=h.tup;rw[Dw.om];by_cases hl:ts.length=n
  ·rw[decide_eq_true hl];k_is;refine gu hs (by omega) (fun e=>Dw.aj e 1 99) (fun i t d S' _ sm td=>⟨_,rfl,?_⟩) fun S' sm=>?_
   ·k_is;exact⟨rfl,fj td ⟨rfl,Sm.refl _⟩⟩
   ·rw[dF,ae];have:=q S' sm;simp only[Dw.bo,decide_eq_true hl,Yd] at this;exact this
  ·rw[decide_eq_false hl];k_is;have:=q S (Sm.refl S);simp only[Dw.bo,decide_eq_false hl,ZQ] at this;exact this
 |_=>exact q S (Sm.refl S)
theorem GA{rows:List Dw.D}{d:D}(h:TD p S (.tup rows) d)(hl:rows.length<=4)(hr:rows.all (Dw.bo rows.length)=true)(q:∀S',Sm S S'->Q (.bl ((Dw.jJ rows rows.length).all id)) S'):Ok (evC ad (k+1) 7 [d] S) Q:=by
 obtain⟨ds,rfl,hs⟩:=h.tup;refine bz (d:=aO) (ρ:=[some (.tup ds),none]) rfl rfl ?_;dsimp only[aO,bD];k_is;refine ay (cH hs) ?_;refine⟨_,rfl,by omega,?_⟩;k_is;have hm:(S++[Ob.lst ((Zm rows.length).map fun j=>D.int (Int.ofNat j))])[S.length]?=some (.lst ((Zm rows.length).map fun j=>D.int (Int.ofNat j))):=by rw[Zg (Ze _),ZU];rfl
 have sq:∀S',Sm (S++[Ob.lst ((Zm rows.length).map fun j=>D.int (Int.ofNat j))]) S'->(ah S' S.length).isSome=true:=fun S' sm=>by simp only[ah,sm _ _ hm];rfl
 refine⟨sq _ (Sm.refl _),?_⟩;refine(pj hm (by omega) (fun a=>(Zm rows.length).flatMap fun b=>(Zm rows.length).flatMap fun c=>[.bl (Dw.dN rows a b c)]) fun a S1 ha sm1=>⟨_,rfl,?_⟩).mono fun es S2 ⟨ee,sm⟩=>?_
 ·k_is;refine⟨sq _ sm1,?_⟩;refine pj (sm1 _ _ hm) (by omega) _ fun b S2 hb sm2=>⟨_,rfl,?_⟩;k_is;refine⟨sq _ (sm1.trans sm2),?_⟩;refine pj (sm2 _ _ (sm1 _ _ hm)) (by omega) _ fun c S3 hc sm3=>⟨_,rfl,?_⟩;k_is;have hs3:TDs p S3 rows ds:=hs.keep (((Sm.app S _).trans sm1).trans (sm2.trans sm3)).kp;obtain⟨ra,xab,e1,e2,e3,_⟩:=Dw.dg hr ha hb;obtain⟨ra',xac,e1',e2',e3',_⟩:=Dw.dg hr ha hc;obtain⟨rc,xcb,f1,f2,f3,_⟩:=Dw.dg hr hc hb;rw[e1] at e1';cases e1';refine bJ hs3 e1 fun d1 t1=>?_;obtain⟨da,rfl,ha'⟩:=t1.tup;refine bJ ha' e2 fun d2 t2=>?_;obtain rfl:=t2.int;refine bJ hs3 e1 fun d1 t1=>?_;obtain⟨da',rfl,ha''⟩:=t1.tup;refine bJ ha'' e2' fun d2 t2=>?_;obtain rfl:=t2.int;refine bJ hs3 f1 fun d1 t1=>?_;obtain⟨dc,rfl,hc'⟩:=t1.tup;refine bJ hc' f2 fun d2 t2=>?_;obtain rfl:=t2.int;k_is;refine⟨?_,Sm.refl _⟩;rw[<-e3,<-e3',<-f3];rfl
 ·subst ee
  have e:((Zm rows.length).flatMap fun a=>(Zm rows.length).flatMap fun b=>(Zm rows.length).flatMap fun c=>[D.bl (Dw.dN rows a b c)])=(Dw.jJ rows rows.length).map fun b=>D.bl b:=by
   have one:∀ (l:List Nat) (f:Nat->D),(l.flatMap fun c=>[f c])=l.map f:=fun l f=>by
    induction l with
    |nil=>rfl
    |cons a l ih=>rw[YG,ih];rfl
   unfold Dw.jJ;simp only[List.map_flatMap,Xb,Function.comp_def,one]
  rw[e,dF,ae];refine⟨?_,?_⟩
  ·rw[Zc]
   have:=Dw.kU (n:=rows.length) (m:=16) (f:=fun a=>(Zm rows.length).flatMap fun b=>(Zm rows.length).map fun c=>Dw.dN rows a b c) fun a _=>by
    have:=Dw.kU (n:=rows.length) (m:=4) (f:=fun b=>(Zm rows.length).map fun c=>Dw.dN rows a b c) fun b _=>by rw[Zc,ZG];exact hl
    omega
   unfold Dw.jJ;omega
  ·exact q _ ((Sm.app S _).trans sm)
theorem Bk{t:Dw.D}{d:D}(h:TD p S t d)(q:∀S',Sm S S'->Q (.bl (Dw.aC t)) S'):Ok (evC ad (k+4) 5 [d] S) Q:=by
 refine bz (d:=fN) (ρ:=[some d]) rfl rfl ?_;dsimp only[fN,jv];k_is;refine⟨rfl,eL h ?_⟩;k_is;cases t with
 |tup ts=>
  obtain⟨ds,rfl,hs⟩:=h.tup;rw[Dw.C6];by_cases hl:1<=ts.length/\ts.length<=4
  ·rw[decide_eq_true hl.1,decide_eq_true hl.2];k_is;refine gu hs (by omega) (Dw.bo ts.length) (fun i t d S' _ sm td=>⟨_,rfl,?_⟩) fun S' sm=>?_
   ·k_is;have hs':TDs p S' ts ds:=hs.keep sm.kp;refine ay (cH hs') ?_;exact⟨rfl,Gz td (by omega) fun S2 sm2=>⟨rfl,sm2⟩⟩
   ·rw[dF,ae];k_is;refine bB (fun hr=>?_) fun hr=>?_
    ·refine⟨rfl,GA (h.keep sm.kp) hl.2 hr fun S2 sm2=>?_⟩;have:=q S2 (sm.trans sm2);simp only[Dw.aC,decide_eq_true hl.1,decide_eq_true hl.2,hr,Yd] at this;exact this
    ·have:=q S' sm;simp only[Dw.aC,decide_eq_true hl.1,decide_eq_true hl.2,hr,Yd,ZQ] at this;exact this
  ·have e:(decide (1<=ts.length) && decide (ts.length<=4))=false:=by simpa using hl
   rw[e];have:=q S (Sm.refl S);simp only[Dw.aC,e,ZQ] at this;exact this
 |_=>exact q S (Sm.refl S)
theorem pH{t:Dw.D}{d:D}(h:TD p S t d)(q:Q (.bl (Dw.al t)) S):Ok (evC ad (k+4) 9 [d] S) Q:=by
 refine bz (d:=dC) (ρ:=[some d]) rfl rfl ?_;dsimp only[dC,gn];k_is;refine⟨rfl,eL h ?_⟩;k_is;cases t with
 |tup ts=>
  obtain⟨ds,rfl,hs⟩:=h.tup;rw[Dw.C8];by_cases hl:ts.length=2
  ·obtain⟨b,e,rfl⟩:=Dw.ui hl;rw[decide_eq_true hl];k_is;refine bJ (i:=0) hs rfl fun d1 t1=>⟨rfl,kA t1 ?_⟩;k_is;simp only[Dw.al] at q;refine bB (fun h1=>?_) fun h1=>?_
   ·rw[h1] at q;refine bJ (i:=1) hs rfl fun d2 t2=>⟨rfl,kA t2 ?_⟩;k_is;refine bB (fun h2=>?_) fun h2=>?_
    ·rw[h2] at q;refine bJ (i:=0) hs rfl fun d1 t1=>bJ (i:=1) hs rfl fun d2 t2=>?_;obtain⟨i,rfl,_⟩:=Dw.aN h1;obtain⟨j,rfl,_⟩:=Dw.aN h2;obtain rfl:=t1.int;obtain rfl:=t2.int;exact q
    ·rw[h2] at q;exact q
   ·rw[h1] at q;exact q
  ·rw[decide_eq_false hl];rw[Dw.iU hl] at q;exact q
 |_=>exact q
theorem xq{t:Dw.D}{d:D}(h:TD p S t d)(q:∀S',Sm S S'->Q (.bl (Dw.aw t)) S'):Ok (evC ad (k+5) 8 [d] S) Q:=by
 refine bz (d:=eD) (ρ:=[some d]) rfl rfl ?_;dsimp only[eD,hU];k_is;refine⟨rfl,eL h ?_⟩;k_is;cases t with
 |tup ts=>
  obtain⟨ds,rfl,hs⟩:=h.tup;rw[Dw.C7];by_cases hl:ts.length<=4
  ·rw[decide_eq_true hl];k_is;refine gu hs (by omega) Dw.al (fun i t d S' _ sm td=>⟨_,rfl,?_⟩) fun S' sm=>?_
   ·k_is;exact⟨rfl,pH td ⟨rfl,Sm.refl _⟩⟩
   ·rw[dF,ae];k_is;have hs':TDs p S' ts ds:=hs.keep sm.kp;cases hr:ts.all Dw.al with
    |false=>
     k_is;have:=q S' sm;simp only[Dw.aw,decide_eq_true hl,hr,Yd,ZQ] at this;exact this
    |true=>
     k_is;refine ay (cH hs') ?_;k_is;refine⟨⟨by decide,by simp only[lim,bAE,decide_eq_true_eq];omega⟩,?_⟩;have en:((ts.length:Int) - 1).toNat=ts.length - 1:=by omega
     rw[en];refine zX (by omega) (fun i=>decide (Dw.cL ts i < Dw.cZ ts (i+1))) (fun i S2 hi sm2=>⟨_,rfl,?_⟩) fun S2 sm2=>?_
     ·k_is;have hs2:TDs p S2 ts ds:=hs'.keep sm2.kp;obtain⟨b1,e1,f1,f2,f3⟩:=Dw.qb (i:=i+1) hr (by omega);obtain⟨b0,e0,g1,g2,g3⟩:=Dw.qb (i:=i) hr (by omega);have z1:(1:Int)+i=((i+1:Nat):Int):=by omega
      have z2:(1:Int)+i - 1=((i:Nat):Int):=by omega
      rw[z1];refine bJ hs2 f1 fun d1 t1=>?_;obtain⟨x1,rfl,y1⟩:=t1.tup;refine bJ (i:=0) y1 rfl fun d2 t2=>?_;obtain rfl:=t2.int;have z3:((i+1:Nat):Int) - 1=((i:Nat):Int):=by omega
      rw[z3];refine bJ hs2 g1 fun d1 t1=>?_;obtain⟨x1,rfl,y1⟩:=t1.tup;refine bJ (i:=1) y1 rfl fun d2 t2=>?_;obtain rfl:=t2.int;k_is;rw[f2,g3];exact⟨rfl,Sm.refl _⟩
     ·rw[dF,ae];have:=q S2 (sm.trans sm2);simp only[Dw.aw,decide_eq_true hl,hr,Yd] at this;have e:(Dw.gD ts).all id=(Zm (ts.length - 1)).all fun i=>decide (Dw.cL ts i < Dw.cZ ts (i+1)):=by unfold Dw.gD;rw[Yh];rfl
      rw[<-e];exact this
  ·rw[decide_eq_false hl];k_is;have:=q S (Sm.refl S);simp only[Dw.aw,decide_eq_false hl,ZQ] at this;exact this
 |_=>exact q S (Sm.refl S)
theorem GB{a b c e:Dw.D}{ds:List D}(h:TDs p S [a,b,c,e] ds):∃w x y z,ds=[w,x,y,z]/\TD p S a w/\TD p S b x/\TD p S c y/\TD p S e z:=by
 obtain⟨w,_,rfl,h1,h⟩:=h.cons;obtain⟨x,_,rfl,h2,h⟩:=h.cons;obtain⟨y,_,rfl,h3,h⟩:=h.cons;obtain⟨z,_,rfl,h4,h⟩:=h.cons;obtain rfl:=h.nil;exact⟨w,x,y,z,rfl,h1,h2,h3,h4⟩
theorem sY{t:Dw.D}{d:D}(h:TD p S t d)(q:∀S',Sm S S'->Q (.bl (Dw.aI t)) S'):Ok (evC ad (k+6) 4 [d] S) Q:=by
 refine bz (d:=eC) (ρ:=[some d,none,none,none,none]) rfl rfl ?_;dsimp only[eC,hJ];k_is;refine⟨rfl,eL h ?_⟩;k_is;cases t with
 |tup ts=>
  obtain⟨ds,rfl,hs⟩:=h.tup;rw[Dw.C9];by_cases hl:ts.length=4
  ·obtain⟨a,b,c,e,rfl⟩:=Dw.qa hl;obtain⟨w,x,y,z,rfl,h1,h2,h3,h4⟩:=GB hs;rw[decide_eq_true hl];k_is;refine⟨rfl,fj h1 ?_⟩;rw[Dw.mI] at q;k_is;cases e1:Dw.aj a 0 8 with
   |false=>rw[e1] at q;exact q S (Sm.refl S)
   |true=>
    rw[e1] at q;k_is;refine⟨rfl,fj h2 ?_⟩;k_is;cases e2:Dw.aj b 0 60 with
    |false=>rw[e2] at q;exact q S (Sm.refl S)
    |true=>
     rw[e2] at q;k_is;refine⟨rfl,Bk h3 fun S1 sm=>?_⟩;k_is;cases e3:Dw.aC c with
     |false=>rw[e3] at q;exact q S1 sm
     |true=>
      rw[e3] at q;k_is;exact⟨rfl,xq (h4.keep sm.kp) fun S2 sm2=>q S2 (sm.trans sm2)⟩
  ·rw[decide_eq_false hl];k_is;have:=q S (Sm.refl S)
   have e:Dw.aI (.tup ts)=false:=by
    unfold Dw.aI;split
    ·rename_i he;cases he;exact absurd rfl hl
    ·rfl
   rw[e] at this;exact this
 |_=>exact q S (Sm.refl S)
theorem kB{t:Dw.D}{d:D}(h:TD p S t d)(q:Q (.bl (Dw.isW t)) S):Ok (evC ad (k+1) 16 [d] S) Q:=by
 refine bz (d:=eI) (ρ:=[some d]) rfl rfl ?_;dsimp only[eI,hV];k_is;refine ay (fg h) ?_;k_is;cases t <;> first |exact q |(k_is;rw[fg h,ae];exact q)
theorem dH{t:Dw.D}{d:D}{a b:Int}(h:TD p S t d)(q:Q (.bl (Dw.aj t a b)) S):Ok (evC ad (k+2) 17 [d,.int a,.int b] S) Q:=by
 refine bz (d:=dD) (ρ:=[some d,some (.int a),some (.int b)]) rfl rfl ?_;dsimp only[dD,gp];k_is;refine⟨rfl,kB h ?_⟩;k_is;cases t with
 |int i=>
  obtain rfl:=h.int;dsimp only[Dw.isW];k_is;dsimp only[Dw.aj] at q;cases c:decide (a<=i) with
  |true=>rw[c] at q;exact q
  |false=>rw[c] at q;exact q
 |_=>exact q
theorem pJ{t:Dw.D}{d:D}(h:TD p S t d)(q:∀S',Sm S S'->Q (.bl (Dw.aI t)) S'):Ok (evC ad (k+3) 24 [d] S) Q:=by
 refine bz (d:=cf) (ρ:=[some d,none,none,none,none,none,none,none,none,none]) rfl rfl ?_;dsimp only[cf,dM];k_is;refine ay (cG h) ?_;k_is;cases t with
 |tup ts=>
  obtain⟨ds,rfl,hs⟩:=h.tup;dsimp only[eK];k_is;refine ay (cH hs) ?_;k_is;by_cases hl:ts.length=4
  ·obtain⟨a,b,c,e,rfl⟩:=Dw.qa hl;obtain⟨w,x,y,z,rfl,h1,h2,h3,h4⟩:=GB hs;rw[show decide ((([a,b,c,e].length:Nat):Int)=4)=true from rfl];k_is;rw[Dw.mI] at q;refine⟨rfl,dH h1 ?_⟩;k_is;cases e1:Dw.aj a 0 8 with
   |false=>rw[e1] at q;exact q S (Sm.refl S)
   |true=>
   rw[e1] at q;k_is;refine⟨rfl,dH h2 ?_⟩;k_is;cases e2:Dw.aj b 0 60 with
   |false=>rw[e2] at q;exact q S (Sm.refl S)
   |true=>
   rw[e2] at q;k_is;refine ay (cG h3) ?_;k_is;simp only[Yd] at q;cases c with
   |tup rows=>
    obtain⟨rs,rfl,hr⟩:=h3.tup;dsimp only[eK];k_is;refine ay (cH hr) ?_;k_is
    have bad:¬ (1<=rows.length/\rows.length<=4)->Q (D.bl false) S:=fun hb=>by
     have:=q S (Sm.refl S);rw[Dw.kY hb] at this;exact this
    by_cases l1:1<=rows.length
    ·rw[decide_eq_true (show(1:Int)<=rows.length by omega)];k_is;by_cases l4:rows.length<=4
     ·rw[decide_eq_true (show(rows.length:Int)<=4 by omega)];k_is;refine ay (cG h4) ?_;k_is;cases e with
      |tup hss=>
       obtain⟨zs,rfl,hz⟩:=h4.tup;dsimp only[eK];k_is;refine ay (cH hz) ?_;k_is;by_cases lh:hss.length<=4
       ·rw[decide_eq_false (show ¬ (4:Int) < hss.length by omega)];k_is;refine wr hr (by omega) (fun i ρ=>(∀j t,j < i->rows[j]?=some t->Dw.bo rows.length t=true)/\∃u,ρ=[some (D.tup [w,x,D.tup rs,D.tup zs]),some w,some x,some (D.tup rs),some (D.tup zs),u,none,none,none,none]) (fun i t d ρ S1 ht sm td ⟨iv,u,er⟩=>?_) (fun ρ S1 sm ⟨iv,u,er⟩=>?_) ⟨fun j t hj=>absurd hj (Z8 j),none,rfl⟩
        ·subst er;refine⟨_,rfl,?_⟩
         have fail:Dw.bo rows.length t=false->∀S',Sm S1 S'->Q (D.bl false) S':=fun hb S' sm'=>by
          have:=q S' (sm.trans sm');rw[Dw.kZ ht hb] at this;exact this
         k_is;refine ay (cG td) ?_;k_is;cases t with
         |tup cs=>
          obtain⟨xs,rfl,hx⟩:=td.tup;dsimp only[eK];k_is;refine ay (cH hx) (ay (cH (hr.keep sm.kp)) ?_);k_is;by_cases lc:cs.length=rows.length
          ·rw[decide_eq_true (show(cs.length:Int)=rows.length by omega)];k_is;refine gu hx (by omega) (fun e=>Dw.aj e 1 99) (fun i t d S' _ sm td=>⟨_,rfl,?_⟩) fun S2 sm2=>?_
           ·k_is;exact⟨rfl,dH td ⟨rfl,Sm.refl _⟩⟩
           ·rw[dF,ae];k_is;cases ea:cs.all (fun e=>Dw.aj e 1 99) with
            |false=>exact fail (by simp only[Dw.bo,ea,Z6]) S2 sm2
            |true=>
             refine⟨⟨fun j t hj hjt=>?_,_,rfl⟩,sm2⟩;by_cases hji:j < i
             ·exact iv j t hji hjt
             ·obtain rfl:j=i:=by omega
              rw[ht] at hjt;cases hjt;simp only[Dw.bo,ea,decide_eq_true lc,YJ]
          ·rw[decide_eq_false (show ¬ (cs.length:Int)=rows.length by omega)];exact fail (by simp only[Dw.bo,decide_eq_false lc,ZQ]) S1 (Sm.refl _)
         |_=>exact fail rfl S1 (Sm.refl _)
        ·subst er
         have ha:rows.all (Dw.bo rows.length)=true:=Zk.mpr fun t ht=>by
          obtain⟨j,hj,rfl⟩:=Y2 ht;exact iv j _ hj (gEG hj)
         k_is;have hr1:=hr.keep sm.kp;refine wr hr1 (by omega) (fun i ρ=>(∀a b c,a < i->b < rows.length->c < rows.length->Dw.dN rows a b c=true)/\∃u v v',ρ=[some (D.tup [w,x,D.tup rs,D.tup zs]),some w,some x,some (D.tup rs),some (D.tup zs),u,v,v',none,none]) (fun i t d ρ S2 ht sm2 td ⟨iv,u,v,v',er⟩=>?_) (fun ρ S2 sm2 ⟨iv,u,v,v',er⟩=>?_) ⟨fun a b c ha=>absurd ha (Z8 a),_,none,none,rfl⟩
         ·subst er;refine⟨_,rfl,?_⟩;have hi:i < rows.length:=(Za.mp ht).1;obtain⟨r,e0,f1,f2,_⟩:=Dw.dg ha hi (show 0 < rows.length by omega);rw[ht] at f1;cases f1
          have lr:r.length=rows.length:=by
           have:=Zk.mp ha _ (Zp ht);simp only[Dw.bo,bAE,decide_eq_true_eq] at this;exact this.1
          obtain⟨xs,rfl,hx⟩:=td.tup;k_is;refine II hx (by omega) (fun c ρ=>(∀b c',b < rows.length->c' < c->Dw.dN rows i b c'=true)/\∃v v',ρ=[some (D.tup [w,x,D.tup rs,D.tup zs]),some w,some x,some (D.tup rs),some (D.tup zs),some (D.tup xs),v,v',none,none]) (fun c t d ρ S3 hct sm3 td ⟨iv2,v,v',er⟩=>?_) (fun ρ S3 sm3 ⟨iv2,v,v',er⟩=>?_) ⟨fun b c _ hc=>absurd hc (Z8 c),v,v',rfl⟩
          ·subst er;have hc:c < rows.length:=by rw[<-lr];exact(Za.mp hct).1
           obtain⟨r',xac,g1,g2,g3,_⟩:=Dw.dg ha hi hc;rw[ht] at g1;cases g1;rw[hct] at g2;cases g2;obtain rfl:=td.int;refine⟨_,pk (by simp) (by simp),?_⟩;k_is;refine Ey (hx.keep sm3.kp) (by omega) (fun b=>!Dw.dN rows i b c) (fun b t d S4 hbt sm4 td=>⟨_,pk (by simp) (by simp),?_⟩) fun es S4 sm4 ee=>?_
           ·have hb:b < rows.length:=by rw[<-lr];exact(Za.mp hbt).1
            obtain⟨r',xab,g1,g2,g4,_⟩:=Dw.dg ha hi hb;rw[ht] at g1;cases g1;rw[hbt] at g2;cases g2;obtain rfl:=td.int;obtain⟨rc,xcb,k1,k2,k3,_⟩:=Dw.dg ha hc hb;k_is;refine bJ (hr1.keep ((sm2.trans sm3).trans sm4).kp) k1 fun d1 t1=>?_;obtain⟨dc,rfl,hdc⟩:=t1.tup;refine bJ hdc k2 fun d2 t2=>?_;obtain rfl:=t2.int;k_is
            have et:decide (xac+xcb < xab) = !Dw.dN rows i b c:=by
             unfold Dw.dN;rw[g4,g3,k3];by_cases hh:xab<=xac+xcb
             ·rw[decide_eq_true hh,decide_eq_false (by omega)];rfl
             ·rw[decide_eq_false hh,decide_eq_true (by omega)];rfl
            rw[et];cases !Dw.dN rows i b c with
            |true=>exact⟨rfl,Sm.refl _⟩
            |false=>exact⟨rfl,Sm.refl _⟩
           ·refine ay qW ?_;k_is;rw[ee,lr];cases et:(Zm rows.length).all fun b=>!!Dw.dN rows i b c with
            |true=>
             k_is;refine⟨⟨fun b c' hb hc'=>?_,_,_,rfl⟩,(sm4.trans (Sm.app _ _)).trans (Sm.app _ _)⟩;by_cases hcc:c' < c
             ·exact iv2 b c' hb hcc
             ·obtain rfl:c'=c:=by omega
              have:=Zk.mp et b (ZO.mpr hb)
              simpa using this
            |false=>
             k_is;obtain⟨b,hb,hf⟩:=List.all_eq_false.mp et;have hf':Dw.dN rows i b c=false:=by simpa using hf
             have:=q (S4++[Ob.lst es]++[Ob.lst []]) ((((sm.trans sm2).trans sm3).trans sm4).trans ((Sm.app _ _).trans (Sm.app _ _)));rw[Dw.k8 hi (ZO.mp hb) hc hf'] at this;exact this
          ·subst er;k_is;refine⟨⟨fun a b c ha' hb hc=>?_,_,_,_,rfl⟩,sm3⟩;by_cases hai:a < i
           ·exact iv a b c hai hb hc
           ·obtain rfl:a=i:=by omega
            exact iv2 b c hb (by rw[lr];exact hc)
         ·subst er;have hg:Dw.aC (.tup rows)=true:=Dw.rT l1 l4 ha fun a b c h1 h2 h3=>iv a b c h1 h2 h3;rw[hg] at q;simp only[Yd] at q;k_is;have hz2:=hz.keep (sm.trans sm2).kp;refine wr hz2 (by omega) (fun i ρ=>(∀j t,j < i->hss[j]?=some t->Dw.al t=true)/\(∀j,j+1 < i->Dw.cL hss j < Dw.cZ hss (j+1))/\∃bh u',ρ=[some (D.tup [w,x,D.tup rs,D.tup zs]),some w,some x,some (D.tup rs),some (D.tup zs),u,v,v',some (.int bh),u']/\(i=0->bh = -1)/\∀j,i=j+1->bh=Dw.cL hss j) (fun i t d ρ S3 ht sm3 td ⟨iv1,iv2,bh,u',er,z0,z1⟩=>?_) (fun ρ S3 sm3 ⟨iv1,iv2,bh,u',er,z0,z1⟩=>?_) ⟨fun j t hj=>absurd hj (Z8 j),fun j hj=>absurd hj (Z8 _),-1,none,rfl,fun _=>rfl,fun j hj=>absurd hj (Xi j).symm⟩
          ·subst er;refine⟨_,rfl,?_⟩
           have fail:Dw.al t=false->∀S',Sm S3 S'->Q (D.bl false) S':=fun hb S' sm'=>by
            have:=q S' (((sm.trans sm2).trans sm3).trans sm');rw[Dw.rV ht hb] at this;exact this
           k_is;refine ay (cG td) ?_;k_is;cases t with
           |tup cs=>
            obtain⟨xs,rfl,hx⟩:=td.tup;dsimp only[eK];k_is;refine ay (cH hx) ?_;k_is;by_cases lc:cs.length=2
            ·rw[decide_eq_true (show(cs.length:Int)=2 by omega)];obtain⟨tb,te,rfl⟩:=Dw.ui lc;k_is;refine gu hx (by simp) (fun e=>Dw.aj e 0 9999) (fun i t d S' _ sm td=>⟨_,rfl,?_⟩) fun S4 sm4=>?_
             ·k_is;exact⟨rfl,dH td ⟨rfl,Sm.refl _⟩⟩
             ·rw[dF,ae];k_is;cases ea:[tb,te].all (fun e=>Dw.aj e 0 9999) with
              |false=>
               refine fail ?_ S4 sm4;have ea':(Dw.aj tb 0 9999 && Dw.aj te 0 9999)=false:=by simpa using ea
               simp only[Dw.al];rw[<-Xp,ea',ZQ]
              |true=>
               have ea':Dw.aj tb 0 9999=true/\Dw.aj te 0 9999=true:=by simpa using ea
               obtain⟨ib,rfl,b0,b1⟩:=Dw.aN ea'.1;obtain⟨ie,rfl,c0,c1⟩:=Dw.aN ea'.2;k_is;have hx4:=hx.keep sm4.kp;refine bJ (i:=0) hx4 rfl fun d1 t1=>?_;obtain rfl:=t1.int;refine bJ (i:=1) hx4 rfl fun d1 t1=>?_;obtain rfl:=t1.int;k_is;by_cases lt:ib < ie
               ·rw[decide_eq_false (show ¬ ie<=ib by omega)];k_is;refine bJ (i:=0) hx4 rfl fun d1 t1=>?_;obtain rfl:=t1.int;k_is
                have st:Dw.al (.tup [.int ib,.int ie])=true:=by
                 simp only[Dw.al,ea'.1,ea'.2,Dw.ltD,decide_eq_true lt,Xv]
                have fb:Dw.cZ hss i=ib:=by unfold Dw.cZ;rw[ht]
                have ff:Dw.cL hss i=ie:=by unfold Dw.cL;rw[ht]
                by_cases lb:ib<=bh
                ·rw[decide_eq_true lb];k_is;have:=q S4 (((sm.trans sm2).trans sm3).trans sm4);have hi:i < hss.length:=(Za.mp ht).1;cases i with
                 |zero=>have:=z0 rfl;omega
                 |succ j=>
                  have e:=z1 j rfl;rw[Dw.iT (i:=j) hi (by rw[fb,<-e];omega)] at this;exact this
                ·rw[decide_eq_false lb];k_is;refine bJ (i:=1) hx4 rfl fun d1 t1=>?_;obtain rfl:=t1.int;refine⟨⟨fun j t hj hjt=>?_,fun j hj=>?_,ie,_,rfl,fun h=>absurd h (Xi i),fun j hj=>?_⟩,sm4⟩
                 ·by_cases hji:j < i
                  ·exact iv1 j t hji hjt
                  ·obtain rfl:j=i:=by omega
                   rw[ht] at hjt;cases hjt;exact st
                 ·by_cases hji:j+1 < i
                  ·exact iv2 j hji
                  ·obtain rfl:i=j+1:=by omega
                   rw[fb,<-z1 j rfl];omega
                 ·obtain rfl:i=j:=by omega
                  exact ff.symm
               ·rw[decide_eq_true (show ie<=ib by omega)];refine fail ?_ S4 sm4;simp only[Dw.al,Dw.ltD,decide_eq_false lt,Z6]
            ·rw[decide_eq_false (show ¬ (cs.length:Int)=2 by omega)];exact fail (Dw.iU lc) S3 (Sm.refl _)
           |_=>exact fail rfl S3 (Sm.refl _)
          ·subst er;k_is;have:=q S3 ((sm.trans sm2).trans sm3);rw[Dw.ot lh (fun j d hj=>iv1 j d (Za.mp hj).1 hj) fun j hj=>iv2 j hj] at this;exact this
       ·rw[decide_eq_true (show(4:Int) < hss.length by omega)];have:=q S (Sm.refl S);rw[Dw.jK lh,Z6] at this;exact this
      |_=>have:=q S (Sm.refl S);simp only[Dw.aw,Z6] at this;exact this
     ·rw[decide_eq_false (show ¬ (rows.length:Int)<=4 by omega)];exact bad fun z=>l4 z.2
    ·rw[decide_eq_false (show ¬ (1:Int)<=rows.length by omega)];exact bad fun z=>l1 z.1
   |_=>exact q S (Sm.refl S)
  ·rw[decide_eq_false (show ¬ ((ts.length:Nat):Int)=4 by omega)];have:=q S (Sm.refl S)
   have e:Dw.aI (.tup ts)=false:=by
    unfold Dw.aI;split
    ·rename_i he;cases he;exact absurd rfl hl
    ·rfl
   rw[e] at this;exact this
 |_=>exact q S (Sm.refl S)
theorem aS{f:Int}(h:Pot p S)(h0:0 < f)(h1:f < 1237940039285380274899124224)(q:∀ (r:Int) S',0<=r->r < f->Dr p S S'->Q (.int r) S'):Ok (evC ad (k+1) 15 [.ref p,.int f] S) Q:=by
 obtain⟨n,e⟩:=h;have lt:p < S.length:=(Za.mp e).1;refine bz (d:=fO) (ρ:=[some (.ref p),some (.int f),none]) rfl rfl ?_;dsimp only[fO,jw];k_is;have ix:ixS (.ref p) (.int 0) S=some (.int n,S):=by simp only[ixS,au,ah,e];rfl
 refine ay ix ?_;k_is;refine⟨h0,?_⟩;k_is;refine ay ix ?_;k_is;refine⟨⟨h0,h1⟩,?_⟩;k_is;refine⟨S.set p (.lst [.int (n / f)]),by simp only[lB,e];rfl,?_⟩;exact q _ _ (Xn _ (by omega)) (Y5 _ h0) ⟨EC,_,wt lt⟩
theorem Bl{c:Nat}{ns:List Int}(h:S[0]?=some (.frz (ns.map D.int)))(q:∀i:Int,Q (.int i) S):Ok (evC ad (k+1) 13 [.ref 0,.int c] S) Q:=by
 refine bz (d:=cU) (ρ:=[some (.ref 0),some (.int c)]) rfl rfl ?_;dsimp only[cU,fC];k_is;have ln:aH fI (.ref 0) S=some (.int ns.length,S):=by simp only[aH,au,ah,h,Zz,fI,Zc]
 refine ay ln ?_;k_is;refine bB (fun hc=>?_) fun hc=>?_
 ·k_is;have hc':=of_decide_eq_true hc;obtain⟨d,e1,e2⟩:=EF (ds:=ns.map D.int) (i:=c) (by omega) (by rw[Zc];omega);have ix:ixS (.ref 0) (.int c) S=some (d,S):=by simp only[ixS,au,ah,h,Zz,e1]
  refine ay ix ?_;rw[Zt] at e2;cases hn:ns[(c:Int).toNat]? with
  |none=>rw[hn] at e2;cases e2
  |some i=>rw[hn] at e2;cases e2;exact q i
 ·k_is;exact q 0
theorem GC{c:Int}(q:∀n:Int,Q (.ref S.length) (S++[.lst [.int n]])):Ok (evC ad (k+1) 14 [.int c] S) Q:=by
 refine bz (d:=gQ) (ρ:=[some (.int c),none,none,none]) rfl rfl ?_;dsimp only[gQ,ku];k_is;refine⟨⟨by decide,by decide,by decide⟩,?_⟩;k_is;refine bB (fun _=>?_) fun _=>?_
 ·k_is;refine⟨⟨by decide,by decide,by decide⟩,?_⟩;k_is;exact q _
 ·k_is;refine⟨by decide,?_⟩;refine qY (by decide) (fun i ρ S'=>S'=S/\∃n:Int,∃u v,ρ=[some (.int c),some (.int n),u,v]) (fun i ρ S' hi ⟨es,n,u,v,er⟩=>?_) (fun ρ S' ⟨es,n,u,v,er⟩=>?_) ⟨rfl,0,none,none,rfl⟩
  ·subst es er;refine⟨_,rfl,?_⟩;k_is;refine⟨by decide,?_⟩;k_is;refine⟨lW (by decide) (by decide),?_⟩;k_is;refine⟨qX (by decide) (by decide),by decide,?_⟩;k_is;have a1:=Xn ((c % 2147483629+7919 * (0+(i:Int))+1) * 48271) (show(2147483647:Int) ≠ 0 by decide);have a2:=Y5 ((c % 2147483629+7919 * (0+(i:Int))+1) * 48271) (show(0:Int) < 2147483647 by decide);refine⟨lW (by omega) (by omega),?_⟩;k_is;refine⟨lW (by decide) (by decide),?_⟩;k_is;refine⟨by decide,?_⟩;k_is;refine⟨qX (by decide) (by decide),?_⟩;k_is;exact⟨rfl,_,_,_,rfl⟩
  ·subst es er;k_is;exact q n
end Lw
namespace Lw
open PySem Ev L2
variable {p:Nat} {S:Sto} {k:Nat} {Q:D->Sto->Prop}
theorem Bm(r:List Int):TDs p S (r.map Dw.D.int) (r.map D.int):=by
 induction r with
 |nil=>exact aF
 |cons a r ih=>exact ac bU ih
theorem xr:∀ (M:List (List Int)),TDs p S (Dw.mG M) (M.map fun r=>D.tup (r.map D.int))
 |[]=>aF
 |r::M=>ac (bg (Bm r)) (xr M)
theorem rf{ds:List D}(i:Nat)(d:D)(h:ds[i]?=some d):(fun i=>(ds[i]?).getD .non) i=d:=by
 show(ds[i]?).getD .non=d;rw[h];rfl
theorem jC{L n:Nat}{es:List D}{M:List (List Int)}(h:Pot p S)(hL:S[L]?=some (.lst es))(nL:L ≠ p)(hr:RowsS p S es M)(hm:Dw.Mat (n+1) M)(hn:n < 4)
  (q:∀rows ds S',Dr p S S'->TDs p S' rows ds->Dw.aC (.tup rows)=true->Q (.tup ds) S') :
  rW (wSs (evC ad (k+1)) (fu ad) 57 (cA.drop 3)) [some (.ref p),some (.int (1+(n:Int))),some (.ref L),none] S (out Q):=by
 dsimp only[cA,Xg];k_is;have e1:((1:Int)+n).toNat=n+1:=by omega
 refine⟨(by simp only[lim,bAE,decide_eq_true_eq];omega),?_⟩;rw[e1];refine qY (by omega) (fun c ρ S'=>Dr p S S'/\∃L es M u,ρ=[some (.ref p),some (.int (1+(n:Int))),some (.ref L),u]/\L ≠ p/\S'[L]?=some (.lst es)/\RowsS p S' es M/\Dw.Mat (n+1) M/\Dw.qf (n+1) c M) (fun c ρ S1 hc ⟨d1,L,es,M,u,er,nL,hL,hr,hm,tr⟩=>?_) (fun ρ S1 ⟨d1,L,es,M,u,er,nL,hL,hr,hm,tr⟩=>?_) ⟨Dr.refl h,L,es,M,none,rfl,nL,hL,hr,hm,fun a b q _ _ hq=>absurd hq (Z8 q)⟩
 ·subst er;refine⟨_,rfl,?_⟩;k_is;refine⟨(by rw[aZ hL];rfl),?_⟩;have le:es.length=n+1:=by rw[hr.len,hm.len]
  refine jy (n+1) (fun i=>(es[i]?).getD .non) (fun i acc S'=>Sm S1 S'/\RowsS p S' acc ((Zm i).map (Dw.bp M (n+1) c))) (fun i acc S' hi ⟨sm,_⟩=>by rw[<-le];exact lX (sm _ _ hL) _ rf) (by omega) (fun i acc S2 hi ⟨sm,ra⟩=>?_) (fun es' S2 ⟨sm,ra⟩=>⟨by rw[ra.len,Zc,ZG];omega,?_⟩) ⟨Sm.refl _,RowsS.nil⟩
  ·obtain⟨r,m1,lr,_⟩:=hm.at hi hc;obtain⟨a,ea,na,za⟩:=hr.row i r m1;obtain⟨rc,m2,lrc,_⟩:=hm.at hc hc;obtain⟨b,eb,nb,zb⟩:=hr.row c rc m2;have za2:=sm _ _ za;have zb2:=sm _ _ zb;simp only[ea,Z0];refine⟨_,rfl,?_⟩;k_is;refine⟨(by rw[aZ za2];rfl),?_⟩;have lm:(r.map D.int).length=n+1:=by rw[Zc];exact lr
   refine jy (n+1) (fun j=>.tup [.int j,((r.map D.int)[j]?).getD .non]) (fun j acc S'=>S'=S2/\acc=((Dw.bp M (n+1) c i).take j).map D.int) (fun j acc S' hj ⟨e,_⟩=>by subst e;rw[<-lm];exact Aa (i:=j) za2 (by omega) (fun j=>.tup [.int j,((r.map D.int)[j]?).getD .non]) fun j d hd=>by show D.tup [.int j,((r.map D.int)[j]?).getD .non]=_;rw[hd];rfl) (by omega) (fun j acc S3 hj ⟨e3,ea'⟩=>?_) (fun es3 S3 ⟨e3,ea'⟩=>⟨by rw[ea',Zc,Zw];omega,?_⟩) ⟨rfl,rfl⟩
   ·subst e3;obtain⟨r',m3,_,e4,_⟩:=hm.at hi hj;rw[m1] at m3;cases m3;have g1:((r.map D.int)[j]?).getD .non = .int (Dw.mg2 M i j):=by rw[Zt,e4];rfl
    rw[g1];refine⟨_,pk (by simp) (by simp),?_⟩;k_is;obtain⟨r',m3,_,e5,_⟩:=hm.at hi hc;rw[m1] at m3;cases m3;obtain⟨rc',m3,_,e6,_⟩:=hm.at hc hj;rw[m2] at m3;cases m3;have z0:(0:Int)+(c:Int)=(c:Int):=by omega
    have at1:∀ (l:List Int) (m:Nat) (x:Int),l[m]?=some x->atI (l.map D.int) (m:Int)=some (.int x):=fun l m x hx=>by
     have hlt:=(Za.mp hx).1;unfold atI ixN;rw[if_pos (by omega),if_pos (by rw[Zc];omega),ZN];show(l.map D.int)[m]?=_;rw[Zt,hx];rfl
    have i1:ixS (.ref a) (.int (0+(c:Int))) S3=some (.int (Dw.mg2 M i c),S3):=by
     simp only[ixS,au,aZ za2,Zz,z0,at1 r c _ e5]
    have i2:ixS (.ref L) (.int (0+(c:Int))) S3=some (.ref b,S3):=by
     have:atI es (c:Int)=some (.ref b):=by
      unfold atI ixN;rw[if_pos (by omega),if_pos (by omega),ZN];exact eb
     simp only[ixS,au,aZ (sm _ _ hL),Zz,z0,this]
    have i3:ixS (.ref b) (.int (j:Int)) S3=some (.int (Dw.mg2 M c j),S3):=by
     simp only[ixS,au,aZ zb2,Zz,at1 rc j _ e6]
    refine ay i1 (ay i2 (ay i3 ?_));k_is;have lj:j < (Dw.bp M (n+1) c i).length:=by rw[Dw.iS];exact hj
    have gj:=Dw.mH M (c:=c) (i:=i) hj;rw[gEG lj] at gj;rw[ea',ZX lj,ZJ,Option.some.inj gj];exact⟨rfl,rfl⟩
   ·subst e3;rw[Yp (by rw[Dw.iS];exact Ze _)] at ea';subst ea';k_is;have lt:=(Dr.sm d1.pot sm).pot.lt;refine⟨sm.trans (Sm.app _ _),?_⟩;rw[Yw,ZJ];exact(ra.keep (Sm.app _ _).kp).snoc (by omega) bG
  ·k_is;have lt:=(Dr.sm d1.pot sm).pot.lt;have st:Dw.Mat (n+1) ((Zm (n+1)).map (Dw.bp M (n+1) c)):=Dw.uo hm hc;exact⟨(d1.thenSm sm).thenSm (Sm.app _ _),_,_,_,_,rfl,by omega,bG,ra.keep (Sm.app _ _).kp,st,Dw.ul hm hc tr (Dw.yB hm hc)⟩
 ·subst er;k_is;refine⟨(by rw[aZ hL];rfl),?_⟩;have le:es.length=n+1:=by rw[hr.len,hm.len]
  refine jy (n+1) (fun i=>(es[i]?).getD .non) (fun i acc S'=>S'=S1/\acc=(M.take i).map fun r=>D.tup (r.map D.int)) (fun i acc S' hi ⟨e,_⟩=>by subst e;rw[<-le];exact lX hL _ rf) (by omega) (fun i acc S2 hi ⟨e2,ea⟩=>?_) (fun es' S2 ⟨e2,ea⟩=>⟨by rw[ea,Zc,Zw];omega,?_⟩) ⟨rfl,rfl⟩
  ·subst e2;have li:i < M.length:=by rw[hm.len];exact hi
   obtain⟨a,eb,na,za⟩:=hr.row i M[i] (gEG li);simp only[eb,Z0];refine⟨_,rfl,?_⟩;k_is;have tq:aH iZ (.ref a) S2=some (.tup (M[i].map D.int),S2):=by simp only[aH,au,aZ za,Zz,iZ]
   refine ay tq ?_;refine⟨rfl,?_⟩;rw[ea,ZX li,ZJ];rfl
  ·subst e2;rw[Yp (by rw[hm.len];exact Ze _)] at ea;subst ea;show Ok (some (D.tup _,S2)) _;rw[ae];exact q (Dw.mG M) _ S2 d1 (xr M) (Dw.um hm (by omega) (by omega) tr)
theorem xt(h:Pot p S)(q:∀rows ds S',Dr p S S'->TDs p S' rows ds->Dw.aC (.tup rows)=true->Q (.tup ds) S'):Ok (evC ad (k+2) 18 [.ref p] S) Q:=by
 refine bz (d:=fP) (ρ:=[some (.ref p),none,none,none]) rfl rfl ?_;dsimp only[fP,cA];k_is;refine⟨rfl,aS h (by decide) (by decide) fun r0 S1 r1 r2 d1=>?_⟩;k_is;obtain⟨n,rfl⟩:∃n:Nat,r0=(n:Int):=⟨r0.toNat,by omega⟩;have e1:((1:Int)+n).toNat=n+1:=by omega
 refine⟨(by simp only[lim,bAE,decide_eq_true_eq];omega),?_⟩;rw[e1];refine wu (by omega) (fun i acc S'=>Dr p S1 S'/\∃M:List (List Int),M.length=i/\RowsS p S' acc M/\∀r ∈ M,r.length=n+1/\∀x ∈ r,1<=x/\x<=99) (fun i acc S2 hi ⟨d2,M,lM,rM,bM⟩=>⟨_,rfl,?_⟩) (fun es S2 ⟨d2,M,lM,rM,bM⟩=>⟨by rw[rM.len];omega,?_⟩) ⟨Dr.refl d1.pot,[],rfl,RowsS.nil,fun r hr=>by simp at hr⟩
 ·k_is;refine⟨(by simp only[lim,bAE,decide_eq_true_eq];omega),?_⟩;rw[e1];refine wu (by omega) (fun j acc S'=>Dr p S2 S'/\∃r:List Int,acc=r.map D.int/\r.length=j/\∀x ∈ r,1<=x/\x<=99) (fun j acc S3 hj ⟨d3,r,ea,lr,br⟩=>⟨_,rfl,?_⟩) (fun es S3 ⟨d3,r,ea,lr,br⟩=>⟨by rw[ea,Zc];omega,?_⟩) ⟨Dr.refl d2.pot,[],rfl,rfl,fun x hx=>by simp at hx⟩
  ·k_is;refine⟨rfl,aS d3.pot (by decide) (by decide) fun x S4 x1 x2 d4=>?_⟩;k_is;refine⟨d3.trans d4,r++[1+x],by rw[ea,ZJ];rfl,by simp[lr],fun y hy=>?_⟩;rcases Zu.mp hy with hy |hy
   ·exact br y hy
   ·simp at hy;omega
  ·subst ea;k_is;have lt:=d3.pot.lt;refine⟨(d2.trans d3).thenSm (Sm.app _ _),M++[r],by simp[lM],((rM.keep d3.kp).keep (Sm.app _ _).kp).snoc (by omega) bG,fun r' hr'=>?_⟩;rcases Zu.mp hr' with hr' |hr'
   ·exact bM r' hr'
   ·simp at hr';subst hr';exact⟨lr,br⟩
 ·have lt2:=d2.pot.lt;have d3:Dr p S1 (S2++[Ob.lst es]):=d2.thenSm (Sm.app _ _);have r3:RowsS p (S2++[Ob.lst es]) es M:=rM.keep (Sm.app _ _).kp;have a3:(S2++[Ob.lst es])[S2.length]?=some (Ob.lst es):=bG;have m3:Dw.Mat (n+1) M:=⟨lM,fun r hr=>(bM r hr).1,fun r hr=>(bM r hr).2⟩;have ne3:S2.length ≠ p:=by omega
  revert a3 r3 d3;generalize S2++[Ob.lst es]=S3;intro d3 r3 a3;k_is;refine⟨rfl,aS d3.pot (by decide) (by decide) fun x S4 x1 x2 d4=>?_⟩;k_is;have a4:=d4.kp _ _ ne3 a3;have r4:=r3.keep d4.kp;have d5:Dr p S S4:=(d1.trans d3).trans d4;have hlim:lim (1+(n:Int))=true:=by simp only[lim,bAE,decide_eq_true_eq];omega
  refine bB (fun _=>?_) fun _=>?_
  ·k_is;refine⟨(by rw[aZ a4];rfl),?_⟩;have le:es.length=n+1:=by rw[r4.len,lM]
   refine jy (n+1) (fun i=>(es[i]?).getD .non) (fun i acc S'=>Dr p S4 S'/\∃M':List (List Int),M'.length=i/\RowsS p S' acc M'/\∀r ∈ M',r.length=n+1/\∀x ∈ r,1<=x/\x<=99) (fun i acc S' hi ⟨dd,_⟩=>by rw[<-le];exact lX (dd.kp _ _ ne3 a4) _ rf) (by omega) (fun i acc S5 hi ⟨dd,M',lM',rM',bM'⟩=>?_) (fun es' S5 ⟨dd,M',lM',rM',bM'⟩=>⟨by rw[rM'.len];omega,?_⟩) ⟨Dr.refl d4.pot,[],rfl,RowsS.nil,fun r hr=>by simp at hr⟩
   ·obtain⟨r,m1,lr,_⟩:=m3.at hi hi;obtain⟨a,ea,na,za⟩:=r4.row i r m1;simp only[ea,Z0];refine⟨_,rfl,?_⟩;k_is;have za5:=dd.kp _ _ na za;refine⟨(by rw[aZ za5];rfl),?_⟩;have lm:(r.map D.int).length=n+1:=by rw[Zc];exact lr
    refine jy (n+1) (fun i=>((r.map D.int)[i]?).getD .non) (fun j acc S'=>Dr p S5 S'/\∃r:List Int,acc=r.map D.int/\r.length=j/\∀x ∈ r,1<=x/\x<=99) (fun j acc S' hj ⟨de,_⟩=>by rw[<-lm];exact lX (de.kp _ _ na za5) _ rf) (by omega) (fun j acc S6 hj ⟨de,r',ea',lr',br⟩=>⟨_,rfl,?_⟩) (fun es6 S6 ⟨de,r',ea',lr',br⟩=>⟨by rw[ea',Zc];omega,?_⟩) ⟨Dr.refl dd.pot,[],rfl,rfl,fun x hx=>by simp at hx⟩
    ·k_is;refine⟨rfl,aS de.pot (by decide) (by decide) fun y S7 y1 y2 d7=>?_⟩;k_is;refine⟨de.trans d7,r'++[99 - y],by rw[ea',ZJ];rfl,by simp[lr'],fun z hz=>?_⟩;rcases Zu.mp hz with hz |hz
     ·exact br z hz
     ·simp at hz;omega
    ·subst ea';k_is;have lt:=de.pot.lt;refine⟨(dd.trans de).thenSm (Sm.app _ _),M'++[r'],by simp[lM'],((rM'.keep de.kp).keep (Sm.app _ _).kp).snoc (by omega) bG,fun r'' hr''=>?_⟩;rcases Zu.mp hr'' with hr'' |hr''
     ·exact bM' r'' hr''
     ·simp at hr'';subst hr'';exact⟨lr',br⟩
   ·have lt:=dd.pot.lt;have d6:Dr p S4 (S5++[Ob.lst es']):=dd.thenSm (Sm.app _ _);have tail:=jC (k:=k) (Q:=Q) (n:=n) (L:=S5.length) (es:=es') (M:=M') d6.pot bG (by omega) (rM'.keep (Sm.app _ _).kp) ⟨lM',fun r hr=>(bM' r hr).1,fun r hr=>(bM' r hr).2⟩ (by omega) fun rows ds S' dd' td hg=>q rows ds S' ((d5.trans d6).trans dd') td hg;dsimp only[cA,Xg] at tail;k_is;exact tail
  ·have tail:=jC (k:=k) (Q:=Q) (n:=n) d4.pot a4 ne3 r4 m3 (by omega) fun rows ds S' dd' td hg=>q rows ds S' (d5.trans dd') td hg;dsimp only[cA,Xg] at tail;k_is;exact tail
theorem kC{now:Int}(h:Pot p S)(n0:0<=now)(n1:now<=9900)(q:∀ (es:List (Int × Int)) b S',Dr p S S'->Dw.Good es b->b<=9999->es.length<=4->Q (.tup (es.map be)) S'):Ok (evC ad (k+2) 19 [.ref p,.int now] S) Q:=by
 refine bz (d:=eJ) (ρ:=[some (.ref p),some (.int now),none,none,none]) rfl rfl ?_;dsimp only[eJ,hX];k_is;have d0:Dr p S (S++[Ob.lst []]):=Dr.sm h (Sm.app _ _);refine⟨rfl,aS d0.pot (by decide) (by decide) fun r0 S1 r1 r2 d1=>?_⟩;obtain⟨n,rfl⟩:∃n:Nat,r0=(n:Int):=⟨r0.toNat,by omega⟩;have lt:=h.lt;have a1:S1[S.length]?=some (Ob.lst []):=d1.kp _ _ (by omega) bG
 have at5:atI [D.int 0,D.int 1,D.int 2,D.int 3,D.int 4] (n:Int)=some (D.int n):=by
  have:n=0\/n=1\/n=2\/n=3\/n=4:=by omega
  rcases this with rfl |rfl |rfl |rfl |rfl <;> rfl
 refine⟨_,at5,?_⟩;k_is;refine⟨(by simp only[lim,bAE,decide_eq_true_eq];omega),?_⟩;rw[ZN];refine qY (by omega) (fun i ρ S'=>Kp p S S'/\Pot p S'/\∃ (es:List (Int × Int)) (b:Int) (u:Option D),ρ=[some (.ref p),some (.int now),some (.ref S.length),some (.int b),u]/\S'[S.length]?=some (.lst (es.map be))/\Dw.Good es b/\es.length=i/\0<=b/\b<=now+20 * i) (fun i ρ S2 hi ⟨k2,p2,es,b,u,er,hf,hg,le,b0,b1⟩=>?_) (fun ρ S2 ⟨k2,p2,es,b,u,er,hf,hg,le,b0,b1⟩=>?_) ⟨d0.kp.trans d1.kp,d1.pot,[],now,none,rfl,a1,Dw.Good.nil,rfl,n0,by omega⟩
 ·subst er;refine⟨_,rfl,?_⟩;k_is;refine⟨rfl,aS p2 (by decide) (by decide) fun x S3 x1 x2 d3=>?_⟩;k_is;have f3:=d3.kp _ _ (show S.length ≠ p by omega) hf;refine⟨ww f3,?_⟩;k_is;refine⟨rfl,aS d3.pot (by decide) (by decide) fun y S4 y1 y2 d4=>?_⟩;k_is;have f4:=d4.kp _ _ (show S.length ≠ p by omega) f3;rw[EG f4 (by rw[Zc];omega)];k_is;have lt4:S.length < S4.length:=(Za.mp f4).1;have f5:(S4.set S.length (Ob.lst (es.map be++[D.tup [D.int (b+1+x),D.int (b+1+x+1+y)]])))[S.length]?=some (Ob.lst (es.map be++[D.tup [D.int (b+1+x),D.int (b+1+x+1+y)]])):=wt lt4;refine ay (Ab f5) ?_;k_is;show Ok (some (D.int (b+1+x+1+y),_)) _;rw[ae];k_is;refine⟨((k2.trans d3.kp).trans d4.kp).setNew (Ze _),d4.pot.setNe (by omega),es++[(b+1+x,b+1+x+1+y)],_,_,rfl,by rw[ZJ];exact f5,hg.more b0 (by omega) (by omega),by simp[le],by omega,by omega⟩
 ·subst er;k_is;have tq:aH iZ (.ref S.length) S2=some (.tup (es.map be),S2):=by simp only[aH,au,aZ hf,Zz,iZ]
  refine ay tq ?_;k_is;exact q es b S2 ⟨k2,p2⟩ hg (by omega) (by omega)
theorem xu(h:Pot p S)(q:∀r s rows hs d S',Dr p S S'->TD p S' (.tup [.int r,.int s,.tup rows,.tup hs]) d->Dw.aI (.tup [.int r,.int s,.tup rows,.tup hs])=true->Q d S'):Ok (evC ad (k+3) 20 [.ref p] S) Q:=by
 refine bz (d:=dE) (ρ:=[some (.ref p),none]) rfl rfl ?_;dsimp only[dE,gq];k_is;refine⟨rfl,aS h (by decide) (by decide) fun r0 S1 r1 r2 d1=>?_⟩;obtain⟨n,rfl⟩:∃n:Nat,r0=(n:Int):=⟨r0.toNat,by omega⟩
 obtain⟨r,at1,hr⟩:∃r:Int,atI [D.int 2,D.int 1,D.int 3,D.int 8,D.int 0] (n:Int)=some (D.int r)/\0<=r/\r<=8:=by
  have:n=0\/n=1\/n=2\/n=3\/n=4:=by omega
  rcases this with rfl |rfl |rfl |rfl |rfl
  ·exact⟨2,rfl,by decide,by decide⟩
  ·exact⟨1,rfl,by decide,by decide⟩
  ·exact⟨3,rfl,by decide,by decide⟩
  ·exact⟨8,rfl,by decide,by decide⟩
  ·exact⟨0,rfl,by decide,by decide⟩
 refine⟨_,at1,?_⟩;k_is;refine⟨rfl,aS d1.pot (by decide) (by decide) fun s0 S2 s1 s2 d2=>?_⟩;obtain⟨m,rfl⟩:∃n:Nat,s0=(n:Int):=⟨s0.toNat,by omega⟩
 obtain⟨s,at2,hs⟩:∃r:Int,atI [D.int 2,D.int 0,D.int 1,D.int 5,D.int 60] (m:Int)=some (D.int r)/\0<=r/\r<=60:=by
  have:m=0\/m=1\/m=2\/m=3\/m=4:=by omega
  rcases this with rfl |rfl |rfl |rfl |rfl
  ·exact⟨2,rfl,by decide,by decide⟩
  ·exact⟨0,rfl,by decide,by decide⟩
  ·exact⟨1,rfl,by decide,by decide⟩
  ·exact⟨5,rfl,by decide,by decide⟩
  ·exact⟨60,rfl,by decide,by decide⟩
 refine⟨_,at2,?_⟩;k_is;refine⟨rfl,xt d2.pot fun rows ds S3 d3 td hg=>?_⟩;k_is;refine⟨rfl,kC d3.pot (by decide) (by decide) fun es b S4 d4 hg4 hb4 hl4=>?_⟩;k_is;have hh:=hg4.shuts hb4 hl4;have td4:TDs p S4 (es.map Dw.cq) (es.map be):=jz es;refine q r s rows (es.map Dw.cq) _ S4 (((d1.trans d2).trans d3).trans d4) (bg (ac bU (ac bU (ac (bg (td.keep d4.kp)) (ac (bg td4) aF))))) ?_;rw[Dw.mI,hg,hh];simp only[Dw.aj,decide_eq_true hr.1,decide_eq_true hr.2,decide_eq_true hs.1,decide_eq_true hs.2,Xv]
noncomputable def GD:List Dw.D:=[.non,.bl true,.bl false,.int (-1),.int (10 ^ 30),.str "", .str "a", .str "1", .tup [],.lst [],.dic [] [],.lst [.tup []],.tup [.tup []],.tup [.int 0],.lst [.int 0],.dic [jO 0] [.int 1],.tup [.bl true,.bl true]]
theorem GF:∀t ∈ GD,Dw.Fit 2 2 t/\Dw.Bd (10 ^ 31) 300 t:=by
 have h:(GD.all fun t=>decide (Dw.dep t<=2) && (decide (Dw.wid t<=2) && Dw.bdB t))=true:=by kernel_rfl
 intro t ht;have:=Zk.mp h t ht;simp only[bAE,decide_eq_true_eq] at this;exact⟨⟨this.1,this.2.1⟩,Dw.Dh this.2.2⟩
theorem mf(h:Pot p S)(q:∀t d S',Dr p S S'->TD p S' t d->Dw.Fit 2 2 t->Dw.Bd (10 ^ 31) 300 t->Q d S'):Ok (evC ad (k+2) 21 [.ref p] S) Q:=by
 refine bz (d:=gR) (ρ:=[some (.ref p),none]) rfl rfl ?_;dsimp only[gR,kw];k_is;refine⟨⟨by decide,by decide,by decide⟩,?_⟩;have lt:=h.lt;have g0:=@bG S (Ob.lst []);have g1:=@bG (S++[Ob.lst []]) (Ob.dic [] []);have g2:=@bG (S++[Ob.lst []]++[Ob.dic [] []]) (Ob.lst [D.tup []]);have g3:=@bG (S++[Ob.lst []]++[Ob.dic [] []]++[Ob.lst [D.tup []]]) (Ob.lst [D.int 0]);have g4:=@bG (S++[Ob.lst []]++[Ob.dic [] []]++[Ob.lst [D.tup []]]++[Ob.lst [D.int 0]]) (Ob.dic [jO 0] [D.int 1]);have n0:Zv S ≠ p:=by omega
 have n1:Zv (S++[Ob.lst []]) ≠ p:=by simp;omega
 have n2:Zv (S++[Ob.lst []]++[Ob.dic [] []]) ≠ p:=by simp;omega
 have n3:Zv (S++[Ob.lst []]++[Ob.dic [] []]++[Ob.lst [D.tup []]]) ≠ p:=by simp;omega
 have n4:Zv (S++[Ob.lst []]++[Ob.dic [] []]++[Ob.lst [D.tup []]]++[Ob.lst [D.int 0]]) ≠ p:=by simp;omega
 have n5:Zv (S++[Ob.lst []]++[Ob.dic [] []]++[Ob.lst [D.tup []]]++[Ob.lst [D.int 0]]++[Ob.dic [jO 0] [D.int 1]]) ≠ p:=by simp;omega
 have s1:=Sm.app S [Ob.lst []];have s2:=Sm.app (S++[Ob.lst []]) [Ob.dic [] []];have s3:=Sm.app (S++[Ob.lst []]++[Ob.dic [] []]) [Ob.lst [D.tup []]];have s4:=Sm.app (S++[Ob.lst []]++[Ob.dic [] []]++[Ob.lst [D.tup []]]) [Ob.lst [D.int 0]];have s5:=Sm.app (S++[Ob.lst []]++[Ob.dic [] []]++[Ob.lst [D.tup []]]++[Ob.lst [D.int 0]]) [Ob.dic [jO 0] [D.int 1]];generalize hE:(S++[Ob.lst []]++[Ob.dic [] []]++[Ob.lst [D.tup []]]++[Ob.lst [D.int 0]]++[Ob.dic [jO 0] [D.int 1]])=E at *;have s6:=fun o=>Sm.app E [o];have g5:=fun o=>@bG E o;generalize Zv (S++[Ob.lst []]++[Ob.dic [] []]++[Ob.lst [D.tup []]]++[Ob.lst [D.int 0]])=i4 at *;generalize Zv (S++[Ob.lst []]++[Ob.dic [] []]++[Ob.lst [D.tup []]])=i3 at *;generalize Zv (S++[Ob.lst []]++[Ob.dic [] []])=i2 at *;generalize Zv (S++[Ob.lst []])=i1 at *
 have td:∀o,TDs p (E++[o]) GD [D.non,D.bl true,D.bl false,D.int (-1),D.int (10 ^ Int.toNat 30),D.str (Str.ofString ""),D.str (Str.ofString "a"),D.str (Str.ofString "1"),D.tup [],D.ref (Zv S),D.ref i1,D.ref i2,D.tup [D.tup []],D.tup [D.int 0],D.ref i3,D.ref i4,D.tup [D.bl true,D.bl true]]:=fun o=>by
  refine ac Em (ac qU (ac qU (ac bU (ac bU (ac ph (ac ph (ac ph (ac (bg aF) (ac (lY n0 (s6 o _ _ (s5 _ _ (s4 _ _ (s3 _ _ (s2 _ _ g0))))) aF) (ac (wx n1 (s6 o _ _ (s5 _ _ (s4 _ _ (s3 _ _ g1)))) aF) (ac (lY n2 (s6 o _ _ (s5 _ _ (s4 _ _ g2))) (ac (bg aF) aF)) (ac (bg (ac (bg aF) aF)) (ac (bg (ac bU aF)) (ac (lY n3 (s6 o _ _ (s5 _ _ g3)) (ac bU aF)) (ac (wx n4 (s6 o _ _ g4) (ac bU aF)) (ac (bg (ac qU (ac qU aF))) aF))))))))))))))))
 have d0:∀o,Dr p S (E++[o]):=fun o=>Dr.sm h ((((s1.trans s2).trans s3).trans s4).trans (s5.trans (s6 o)));generalize [D.non,D.bl true,D.bl false,D.int (-1),D.int (10 ^ Int.toNat 30),D.str (Str.ofString ""),D.str (Str.ofString "a"),D.str (Str.ofString "1"),D.tup [],D.ref (Zv S),D.ref i1,D.ref i2,D.tup [D.tup []],D.tup [D.int 0],D.ref i3,D.ref i4,D.tup [D.bl true,D.bl true]]=L at *;have ll:L.length=17:=(td (Ob.lst [])).len;have lq:aH fI (D.ref (Zv E)) (E++[Ob.lst L])=some (.int 17,E++[Ob.lst L]):=by simp only[aH,au,aZ (g5 _),Zz,fI,ll];rfl
 k_is;refine ay lq ?_;k_is;refine⟨rfl,aS (d0 _).pot (by decide) (by decide) fun r S1 r1 r2 d1=>?_⟩;obtain⟨n,rfl⟩:∃n:Nat,r=(n:Int):=⟨r.toNat,by omega⟩;have a1:=d1.kp _ _ n5 (g5 (Ob.lst L));have hn:n < GD.length:=by show n < 17;omega
 obtain⟨d,e1,tdn⟩:=((td (Ob.lst L)).keep d1.kp).get (gEG hn);have ix:ixS (.ref (Zv E)) (.int (n:Int)) S1=some (d,S1):=by simp only[ixS,au,aZ a1,Zz,Ev.pY e1]
 refine ay ix ?_;k_is;have bd:=GF GD[n] (ZM hn);exact q _ _ _ ((d0 _).trans d1) tdn bd.1 bd.2
theorem GG{ts:List Dw.D}{ds:List D}(h:TDs p S ts ds):ds.isEmpty=ts.isEmpty:=by
 cases ts with
 |nil=>rw[h.nil];rfl
 |cons t ts=>obtain⟨d,r,rfl,_⟩:=h.cons;rfl
theorem kD{t:Dw.D}{d:D}{n m B s:Nat}(h:Pot p S)(ht:TD p S t d)(nt:eK t=false)(hf:Dw.Fit n m t)(hB:Dw.Bd B s t)(m2:2<=m)
  (q:∀t' d' S',Dr p S S'->TD p S' t' d'->Dw.Fit (n+2) (m+1) t'->Dw.Bd (B+10 ^ 31) (3 * s+400) t'->Q d' S'):Ok (evC ad (k+3) 22 [.ref p,d] S) Q:=by
 refine bz (d:=cD) (ρ:=[some (.ref p),some d,none,none]) rfl rfl ?_;dsimp only[cD,fK];k_is;rw[cG ht,ae,nt];k_is;have odd:∀S1,Dr p S S1->Ok (evC ad (k+2) 21 [D.ref p] S1) fun d S2=>Q d S2:=fun S1 d1=>mf d1.pot fun t' d' S' dd td f b=>q t' d' S' (d1.trans dd) td (f.up (by omega) (by omega)) (b.up (by omega) (by omega));refine⟨rfl,kB ht ?_⟩;k_is;cases hw:Dw.isW t with
 |false=>k_is;exact⟨rfl,odd S (Dr.refl h)⟩
 |true=>
  k_is;refine⟨rfl,aS h (by decide) (by decide) fun r S1 r1 r2 d1=>?_⟩;k_is;refine bB (fun _=>?_) fun _=>?_
  ·k_is;cases t with
   |int i=>
    obtain rfl:=ht.int;refine⟨⟨by decide,by decide,by decide⟩,?_⟩;k_is;refine⟨rfl,aS d1.pot (by decide) (by decide) fun r' S2 r3 r4 d2=>?_⟩;obtain⟨n',rfl⟩:∃n:Nat,r'=(n:Int):=⟨r'.toNat,by omega⟩
    obtain⟨e,at1,he⟩:∃e:Int,atI [D.int 1,D.int (-1),D.int 9,D.int 100,D.int 9999,D.int (-10 ^ Int.toNat 4)] (n':Int)=some (D.int e)/\e.natAbs<=10000:=by
     have:n'=0\/n'=1\/n'=2\/n'=3\/n'=4\/n'=5:=by omega
     rcases this with rfl |rfl |rfl |rfl |rfl |rfl
     ·exact⟨1,rfl,by decide⟩
     ·exact⟨-1,rfl,by decide⟩
     ·exact⟨9,rfl,by decide⟩
     ·exact⟨100,rfl,by decide⟩
     ·exact⟨9999,rfl,by decide⟩
     ·exact⟨-10 ^ Int.toNat 4,rfl,by decide⟩
    refine⟨_,at1,?_⟩;k_is;have hb:=hB.bn;simp only[Dw.bnd] at hb;exact q (.int (i+e)) _ S2 (d1.trans d2) bU (Dw.uk rfl) (Dw.Dg (by omega) (by omega))
   |_=>simp[Dw.isW] at hw
  ·k_is;exact⟨rfl,odd S1 d1⟩
theorem nN:∀ (n:Nat) {S:Sto} {Q:D->Sto->Prop} {t:Dw.D} {d:D} {m B s:Nat},Pot p S->TD p S t d->Dw.Fit n m t->Dw.Bd B s t->2<=m->m<=300 ->
  (∀t' d' S',Dr p S S'->TD p S' t' d'->Dw.Fit (n+2) (m+1) t'->Dw.Bd (B+10 ^ 31) (3 * s+400) t'->Q d' S')->Ok (evC ad (k+n+3) 22 [.ref p,d] S) Q
 |0,S,Q,t,d,m,B,s,h,ht,hf,hB,m2,m3,q=>by
  cases t with
  |tup ts=>exact absurd hf.pos (by omega)
  |_=>exact kD h ht rfl hf hB m2 q
 |n+1,S,Q,t,d,m,B,s,h,ht,hf,hB,m2,m3,q=>by
  cases t with
  |tup ts=>
   obtain⟨ds,rfl,hs⟩:=ht.tup;refine bz (d:=cD) (k:=k+n+3) (ρ:=[some (.ref p),some (.tup ds),none,none]) rfl rfl ?_;dsimp only[cD,fK];k_is;refine ay (cG ht) ?_;k_is;dsimp only[eK];k_is;refine⟨rfl,aS h (by decide) (by decide) fun way S1 w1 w2 d1=>?_⟩;k_is;have hs1:=hs.keep d1.kp;have ll:=hs.len;have lm:=hf.len;have m1:∀x:D,(ds++[x]).length<=1000:=fun x=>by rw[Zh,ZE];omega
   refine Gy ?_ fun _ ne=>?_
   ·k_is;refine⟨rfl,mf d1.pot fun ta da S2 d2 t2 f2 b2=>?_⟩;show Ok (some (ds,S2)) _;rw[ae];k_is;have lt:=d2.pot.lt;have d3:Dr p S2 (S2++[Ob.lst ds]):=Dr.sm d2.pot (Sm.app _ _);refine⟨rfl,mf d3.pot fun tb db S4 d4 t4 f4 b4=>⟨by show ds.length+1<=1000;omega,?_,rfl,aS d4.pot (by decide) (by decide) fun r S5 r1 r2 d5=>?_⟩⟩
    ·have:=(hs.cut (some (-1)) none).len;have:=Dw.qc ts (some (-1)) none;omega
    ·have dd:Dr p S S5:=(((d1.trans d2).trans d3).trans d4).trans d5;have hs5:TDs p S5 ts ds:=hs.keep dd.kp;have a5:S5[Zv S2]?=some (Ob.lst ds):=(d4.trans d5).kp _ _ (by omega) bG;obtain⟨n',rfl⟩:∃n:Nat,r=(n:Int):=⟨r.toNat,by omega⟩;have:n'=0\/n'=1\/n'=2\/n'=3:=by omega
     rcases this with rfl |rfl |rfl |rfl
     ·exact⟨_,rfl,q ta da S5 dd (t2.keep ((d3.trans d4).trans d5).kp) (f2.up (by omega) (by omega)) (b2.up (by omega) (by omega))⟩
     ·exact⟨_,rfl,q (.lst ts) _ S5 dd (lY (by omega) a5 hs5) (hf.lst.up (by omega) (by omega)) ((Dw.Dc hB).up (by omega) (by omega))⟩
     ·refine⟨_,rfl,q (.tup (ts++[tb])) _ S5 dd (bg (hs5.app (ac (t4.keep d5.kp) aF))) (Dw.Fit.tup (n:=n+2) ?_ ?_) (Dw.yF hB b4)⟩
      ·rw[Zh,ZE];omega
      ·intro x hx;rcases Zu.mp hx with hx |hx
       ·exact(hf.mem hx).up (by omega) (by omega)
       ·rw[ZF.mp hx];exact f4.up (by omega) (by omega)
     ·refine⟨_,rfl,q (.tup (ts++Dw.aY ts (some (-1)) none)) _ S5 dd (bg (hs5.app (hs5.cut _ _))) (Dw.Fit.tup (n:=n+2) ?_ ?_) (Dw.De hB)⟩
      ·rw[Zh];have:=Dw.yz ts;omega
      ·intro x hx;rcases Zu.mp hx with hx |hx
       ·exact(hf.mem hx).up (by omega) (by omega)
       ·exact(hf.mem (Dw.bZ hx)).up (by omega) (by omega)
   ·k_is
    have pos:0 < ts.length:=by
     cases ts with
     |nil=>rw[GG hs] at ne;cases ne
     |cons _ _=>simp
    refine ay (cH hs1) ?_;k_is;refine⟨rfl,aS d1.pot (by omega) (by omega) fun at_ S2 a1 a2 d2=>?_⟩;obtain⟨a,rfl⟩:∃n:Nat,at_=(n:Int):=⟨at_.toNat,by omega⟩;k_is;have dd:Dr p S S2:=d1.trans d2;have hs2:TDs p S2 ts ds:=hs.keep dd.kp;have c1:=Dw.Da ts (a:Int) (by omega);have c2:=Dw.uj ts ((a:Int)+1) (by omega) (by omega);have e1:=(hs.cut none (some (a:Int))).len;have e2:=(hs.cut (some ((a:Int)+1)) none).len;refine bB (fun _=>?_) fun _=>?_
    ·k_is;refine⟨by omega,q _ _ S2 dd (bg ((hs2.cut none (some (a:Int))).app (hs2.cut (some ((a:Int)+1)) none))) ((Dw.fW (k:=n) (Dw.dh hf) (Dw.dh hf) ?_).up (by omega) (by omega)) (Dw.yG hB)⟩;rw[Zh];omega
    ·k_is;refine bB (fun _=>?_) fun _=>?_
     ·k_is;have c3:=Dw.yy ts (a:Int) (by omega);have c4:=Dw.uj ts (a:Int) (by omega) (by omega);have e3:=(hs.cut (some (a:Int)) (some ((a:Int)+1))).len;have e4:=(hs.cut (some (a:Int)) none).len;have hf':Dw.Fit (n+1) (m+1) (.tup ts):=hf.up (Ze _) (by omega);refine⟨by omega,by rw[Zh];omega,q _ _ S2 dd (bg (((hs2.cut none (some (a:Int))).app (hs2.cut (some (a:Int)) (some ((a:Int)+1)))).app (hs2.cut (some (a:Int)) none))) ((Dw.fW (k:=n) (Dw.fW (k:=n) (Dw.dh hf') (Dw.dh hf') ?_) (Dw.dh hf') ?_).up (by omega) (by omega)) (Dw.yH hB)⟩
      ·rw[Zh];omega
      ·rw[Zh,Zh];omega
     ·k_is;have ha:a < ts.length:=by omega
      refine bJ hs2 (gEG ha) fun x tx=>?_;have hm:=ZM ha;obtain⟨bx,sx⟩:=Dw.Dd hB hm;refine⟨rfl,nN n dd.pot tx (hf.mem hm) bx m2 m3 fun t' d' S3 d3 td' f' b'=>?_⟩;k_is;have hs3:=hs2.keep d3.kp;have hf':Dw.Fit (n+3) (m+1) (.tup ts):=hf.up (by omega) (by omega);refine⟨by rw[ZE];omega,by rw[Zh,ZE];omega,q _ _ S3 (dd.trans d3) (bg (((hs3.cut none (some (a:Int))).app (ac td' aF)).app (hs3.cut (some ((a:Int)+1)) none))) (Dw.fW (k:=n+2) (Dw.fW (k:=n+2) (Dw.dh hf') (Dw.yA f' (by omega)) ?_) (Dw.dh hf') ?_) (Dw.Df hB (gEG ha) b')⟩
      ·rw[Zh,ZE];omega
      ·rw[Zh,Zh,ZE];omega
  |_=>exact(kD (k:=k+n+1) h ht rfl hf hB m2 q)
end Lw
namespace Ev
open PySem
def OkX(o:Option (RR × Sto))(Q:RR->Sto->Prop):Prop:=∃r S',o=some (r,S')/\Q r S'
section
variable {ad:List DefE} {k f:Nat} {d:DefE} {ds:List D} {ρ:Rho} {S:Sto} {g:cT} {ar:Nat->Nat} {r:List RS} {Q:RR->Sto->Prop}
theorem xv{rs:List RS}(hd:ad[f]?=some d)(hr:d.rb=some rs)(hρ:ds.map some++Zj (d.N.length - ds.length) none=ρ)(h:OkX (bO (evX ad k) (fu ad) rs ρ S) Q):OkX (evX ad (k+1) f ds S) Q:=by
 subst hρ;have z:evX ad (k+1) f ds S=bO (evX ad k) (fu ad) rs (ds.map some++Zj (d.N.length - ds.length) none) S:=by simp only[evX,hd,hr]
 rw[z];exact h
theorem xy{Q:D->Sto->Prop}(h:OkX (evX ad k f ds S) fun r S'=>match r with |.val d=>Q d S' |.exc _=>False):Ok (evC ad k f ds S) Q:=by
 obtain⟨r,S',e,q⟩:=h;cases r with
 |val d=>exact⟨d,S',by unfold evC toC;rw[e],q⟩
 |exc i=>exact q.elim
theorem GH(q:Q (.val .non) S):OkX (bO g ar [] ρ S) Q:=⟨_,_,rfl,q⟩
theorem Bn{C:Calls}{n:Nat}{s:CS}:c7 C ar (n+2) [s] ρ S=evS C ar (n+1) s ρ S:=by
 show oP (evS C ar (n+1) s) (c7 C ar (n+1) []) ρ S=_;unfold oP;cases evS C ar (n+1) s ρ S with
 |none=>rfl
 |some z=>
  obtain⟨fl,ρ1,S1⟩:=z;cases fl <;> rfl
theorem JL{s:CS}(h:rW (wSs (toC g) ar 60 [s]) ρ S fun fl ρ' S'=>match fl with |.nx=>OkX (bO g ar r ρ' S') Q |.rt v=>Q (.val v) S' |_=>False):OkX (bO g ar (.pl s::r) ρ S) Q:=by
 obtain⟨fl,ρ1,S1,e,q⟩:=pE h;rw[Bn] at e;have z:evS (toC g) ar 59 s ρ S=some (fl,ρ1,S1):=e;cases fl with
 |nx=>obtain⟨v,S2,e2,q2⟩:=q;exact⟨v,S2,by simp only[bO,z];exact e2,q2⟩
 |rt v=>exact⟨.val v,S1,by simp only[bO,z],q⟩
 |bk=>exact q.elim
 |ct=>exact q.elim
theorem Cj{es:List CE}{ds:List D}{S1:Sto}(h:evA (toC g) ar FU es ρ S=some (ds,S1))(hl:ds.length=ar f)(q:OkX (g f ds S1) fun v S2=>match v with |.val _=>OkX (bO g ar r ρ S2) Q |.exc i=>Q (.exc i) S2):OkX (bO g ar (.ck f es::r) ρ S) Q:=by
 obtain⟨v,S2,e,q⟩:=q;cases v with
 |val d=>
  obtain⟨v,S3,e3,q3⟩:=q;exact⟨v,S3,by simp only[bO,xck,h,hl,if_true,e];exact e3,q3⟩
 |exc i=>exact⟨.exc i,S2,by simp only[bO,xck,h,hl,if_true,e],q⟩
theorem JM{c:CE}{i:Nat}(h:wT (toC g) ar 60 c ρ S fun b S1=>if b=true then i < 14/\Q (.exc i) S1 else OkX (bO g ar r ρ S1) Q):OkX (bO g ar (.rz c i::r) ρ S) Q:=by
 obtain⟨b,S1,e,q⟩:=(jB 60).t _ _ _ h;have z:evT (toC g) ar FU c ρ S=some (b,S1):=e;cases b with
 |true=>
  rw[if_pos rfl] at q;exact⟨.exc i,S1,by simp only[bO,z];rw[if_pos q.1],q.2⟩
 |false=>
  rw[if_neg Zb] at q;obtain⟨v,S2,e2,q2⟩:=q;exact⟨v,S2,by simp only[bO,z];exact e2,q2⟩
theorem Ck{es:List CE}{ds:List D}{S1:Sto}(h:evA (toC g) ar FU es ρ S=some (ds,S1))(hl:ds.length=ar f)(q:OkX (g f ds S1) fun v S2=>match v with |.val d=>Q (.val d) S2 |.exc i=>i < 14/\∃w,ny[i]?=some w/\Q (.val (.str w)) S2):OkX (bO g ar (.tr f es::r) ρ S) Q:=by
 obtain⟨v,S2,e,q⟩:=q;cases v with
 |val d=>exact⟨.val d,S2,by simp only[bO,xck,h,hl,if_true,e],q⟩
 |exc i=>
  obtain⟨h14,w,hw,q⟩:=q;exact⟨.val (.str w),S2,by simp only[bO,xck,h,hl,if_true,e];rw[if_pos h14,hw];rfl,q⟩
end
theorem jD{c:XT}{b:XS}{Q:Fl->Rho->Sto->Prop}(I:Nat->Rho->Sto->Prop)
  (step:∀n ρ S,I n ρ S->Ok (c ρ S) fun t S1=>if t=true then OkS (b ρ S1) fun fl ρ2 S2=>(match fl with |.nx=>∃m,m < n/\I m ρ2 S2 |.ct=>∃m,m < n/\I m ρ2 S2 |.bk=>Q .nx ρ2 S2 |.rt d=>Q (.rt d) ρ2 S2) else Q .nx ρ S1) :
  ∀ (k n:Nat) (ρ:Rho) (S:Sto),n < k->I n ρ S->OkS (bF c b k ρ S) Q
 |0,n,ρ,S,h,_=>absurd h (Z8 _)
 |k+1,n,ρ,S,h,i=>by
  obtain⟨t,S1,e,q⟩:=step n ρ S i;cases t with
  |false=>rw[if_neg Zb] at q;exact⟨.nx,ρ,S1,by simp only[bF,e],q⟩
  |true=>
   rw[if_pos rfl] at q;obtain⟨fl,ρ2,S2,e2,q⟩:=q;cases fl with
   |nx=>
    obtain⟨m,hm,i2⟩:=q;obtain⟨fl,ρ3,S3,e3,q3⟩:=jD I step k m ρ2 S2 (by omega) i2;exact⟨fl,ρ3,S3,by simp only[bF,e,e2];exact e3,q3⟩
   |ct=>
    obtain⟨m,hm,i2⟩:=q;obtain⟨fl,ρ3,S3,e3,q3⟩:=jD I step k m ρ2 S2 (by omega) i2;exact⟨fl,ρ3,S3,by simp only[bF,e,e2];exact e3,q3⟩
   |bk=>exact⟨.nx,ρ2,S2,by simp only[bF,e,e2],q⟩
   |rt d=>exact⟨.rt d,ρ2,S2,by simp only[bF,e,e2],q⟩
end Ev
namespace Lw
open PySem Ev L2
variable {p:Nat} {S:Sto} {k:Nat} {Q:D->Sto->Prop}
theorem nP{t u:Bool}{A B:Prop}(ha:t=true->u=true->A)(hb:(t && u)=false->B):wIf t (wIf u A B) B:=by
 cases t with
 |false=>exact hb rfl
 |true=>cases u with
  |true=>exact ha rfl rfl
  |false=>exact hb rfl
theorem Bo{α:Type}{l:List α}{i:Nat}{a:α}(h:l[i]?=some a):l.drop i=a::l.drop (i+1):=by
 obtain⟨hi,e⟩:=Za.mp h;rw[List.drop_eq_getElem_cons hi,e]
theorem GI{α:Type}{l:List α}{E:α->D}{i:Nat}{d:D}(h:(l.map E)[i]?=some d):∃a,l[i]?=some a/\d=E a:=by
 rw[Zt] at h;cases e:l[i]? with
 |none=>rw[e] at h;cases h
 |some a=>rw[e] at h;cases h;exact⟨a,rfl,rfl⟩
theorem JN{ds:List D}{tg:Tg}{b:XS}{ρ:Rho}{Q:Fl->Rho->Sto->Prop}(hl:ds.length<=100000)(I:Nat->Rho->Sto->Prop)
  (step:∀ (i:Nat) d ρ S',ds[i]?=some d->I i ρ S'->∃ρ1,am tg d ρ=some ρ1/\OkS (b ρ1 S') fun fl ρ2 S2=>match fl with |.nx=>I (i+1) ρ2 S2 |.ct=>I (i+1) ρ2 S2 |.bk=>Q .nx ρ2 S2 |.rt d=>Q (.rt d) ρ2 S2)
  (q:∀ρ S',I ds.length ρ S'->Q .nx ρ S') (h0:I 0 ρ S):OkS (dm (nxL ds) tg b LF 0 ρ S) Q:=by
 refine gr ds.length I (by unfold LF;omega) (fun i ρ S' hi iv=>?_) (fun ρ S' iv=>⟨?_,q ρ S' iv⟩) h0
 ·obtain⟨ρ1,e2,z⟩:=step i ds[i] ρ S' (gEG hi) iv;exact⟨ds[i],ρ1,by show some ds[i]?=_;rw[gEG hi],e2,z⟩
 ·show some ds[ds.length]?=_;rw[ZH (Ze _)]
theorem GJ{α:Type}{nx:Nxt}{tg:Tg}{c:XA}{ρ:Rho}{Q:List D->Sto->Prop}(l:List α)(E:α->D)(f:α->List D)(hl:l.length<=1000)(hf:∀a ∈ l,(f a).length<=1)
  (hnx:∀i S',Sm S S'->nx i S'=some ((l[i]?).map E))
  (step:∀ (i:Nat) a S',l[i]?=some a->Sm S S'->∃ρ1,am tg (E a) ρ=some ρ1/\Ok (c ρ1 S') fun es S1=>es=f a/\Sm S' S1) (q:∀S',Sm S S'->Q (l.flatMap f) S') :
  Ok (aW nx tg c ρ LF 0 S) fun es S2=>es.length<=100000/\Q es S2:=by
 refine(cF l.length (fun i acc S'=>Sm S S'/\acc=(l.take i).flatMap f) (by unfold LF;omega) (fun i acc S' hi ⟨sm,ea⟩=>?_) (fun acc S' ⟨sm,ea⟩=>?_) ⟨Sm.refl S,by simp⟩).mono fun es S' ⟨sm,ea⟩=>?_
 ·obtain⟨ρ1,e2,es,S1,e3,e4,sm'⟩:=step i l[i] S' (gEG hi) sm;refine⟨E l[i],ρ1,by rw[hnx i S' sm,gEG hi];rfl,e2,es,S1,e3,sm.trans sm',?_⟩;rw[ea,e4,ZX hi,Y1];simp
 ·rw[hnx _ S' sm,ZH (Ze _)];rfl
 ·rw[Xh] at ea;subst ea;refine⟨?_,q S' sm⟩
  have:∀m:List α,(∀a ∈ m,(f a).length<=1)->(m.flatMap f).length<=m.length:=fun m=>by
   induction m with
   |nil=>intro _;simp
   |cons a m ih=>
    intro h;rw[YG,Zh,ZD];have:=h a Zf;have:=ih fun b hb=>h b (Zd _ hb);omega
  have:=this l hf;omega
theorem GK{α:Type}{l:List α}{E:α->D}:∀i S',Sm S S'->nxL (l.map E) i S'=some ((l[i]?).map E):=fun i S' _=>by
 show some (l.map E)[i]?=_;rw[Zt]
noncomputable def fns:List (Int × Int)->Int->Int
 |[],m=>m
 |p::l,m=>if p.1<=m/\m < p.2 then p.2 else fns l m
def Ris:Int->List (Int × Int)->Prop
 |_,[]=>True
 |lo,p::l=>lo < p.1/\p.1 < p.2/\Ris p.2 l
noncomputable def aj(q:Int × Int)(m:Int):Bool:=decide (q.1<=m) && decide (m < q.2)
theorem rg:∀ {l:List (Int × Int)} {lo m:Int},Ris lo l->m<=lo->fns l m=m
 |[],_,_,_,_=>rfl
 |p::l,lo,m,h,hm=>by
  rw[Ris] at h;rw[fns,if_neg (by omega)];exact rg h.2.2 (by omega)
theorem mh:∀ {l:List (Int × Int)} {m:Int},l.filter (aj · m)=[]->fns l m=m
 |[],_,_=>rfl
 |p::l,m,h=>by
  rw[YO] at h;cases e:aj p m with
  |true=>rw[e] at h;cases h
  |false=>
   rw[e] at h;rw[fns,if_neg (fun z=>by unfold aj at e;rw[decide_eq_true z.1,decide_eq_true z.2] at e;cases e)];exact mh (by simpa using h)
theorem pK:∀ {l:List (Int × Int)} {lo m:Int},Ris lo l->l.filter (aj · m) ≠ []->fns l (m+1)=fns l m/\lo < m
 |[],_,_,_,h=>absurd rfl h
 |p::l,lo,m,h,hf=>by
  rw[Ris] at h;rw[YO] at hf;cases e:aj p m with
  |true=>
   unfold aj at e;rw[bAE,decide_eq_true_eq,decide_eq_true_eq] at e;refine⟨?_,by omega⟩;rw[fns,fns,if_pos e];by_cases z:m+1 < p.2
   ·rw[if_pos ⟨by omega,z⟩]
   ·rw[if_neg (fun y=>z y.2),show m+1=p.2 by omega];exact rg h.2.2 (Xy _)
  |false=>
   rw[e] at hf;obtain⟨r1,r2⟩:=pK h.2.2 (by simpa using hf);refine⟨?_,by omega⟩;rw[fns,fns,if_neg (by omega),if_neg (by omega)];exact r1
theorem pL:∀ {l:List (Int × Int)} {m:Int},m<=fns l m
 |[],m=>Xy _
 |p::l,m=>by
  rw[fns];split
  ·omega
  ·exact pL
theorem xz:∀ {l:List (Int × Int)} {m b:Int},(∀q ∈ l,q.2<=b)->fns l m=m\/fns l m<=b
 |[],m,b,_=>.inl rfl
 |p::l,m,b,h=>by
  rw[fns];split
  ·exact .inr (h p Zf)
  ·exact xz fun q hq=>h q (Zd _ hq)
theorem xD:∀ {l:List (Int × Int)} {lo:Int},(∀q ∈ l,q.1 < q.2)->(∀q,l[0]?=some q->lo < q.1)->(∀ (i:Nat) q q',l[i]?=some q->l[i+1]?=some q'->q.2 < q'.1)->Ris lo l
 |[],_,_,_,_=>trivial
 |p::l,lo,h,h0,r=>⟨h0 p rfl,h p Zf,xD (fun q hq=>h q (Zd _ hq)) (fun q hq=>r 0 p q rfl (by simpa using hq)) fun i a b e1 e2=>r (i+1) a b (by simpa using e1) (by simpa using e2)⟩
theorem xE{es:List (Int × Int)}{b:Int}(h:Dw.Good es b):Ris (-1) es:=xD (fun q hq=>(h.each q hq).2.1) (fun q hq=>by have:=(h.each q (Zp hq)).1;omega) h.rise
theorem me3{a b c:D}{es:List (Int × Int)}:ixS (.tup [a,b,c,.tup (es.map be)]) (.int 3) S=some (.tup (es.map be),S):=rfl
theorem GL{a b c:D}{es:List (Int × Int)}{m:Int}(hl:es.length<=4)(q:Q (.int (fns es m)) S):Ok (evC ad (k+1) 10 [.tup [a,b,c,.tup (es.map be)],.int m] S) Q:=by
 refine E5 (d:=bT) (ρ:=[some (.tup [a,b,c,.tup (es.map be)]),some (.int m),none,none]) rfl rfl ?_;dsimp only[bT,c8];k_is;refine ay me3 ?_;k_is;refine JN (by rw[Zc];omega) (fun i ρ S'=>S'=S/\fns es m=fns (es.drop i) m/\∃u v,ρ=[some (.tup [a,b,c,.tup (es.map be)]),some (.int m),u,v]) (fun i d ρ S' hd ⟨e0,ef,u,v,er⟩=>?_) (fun ρ S' ⟨e0,ef,u,v,er⟩=>?_) ⟨rfl,rfl,none,none,rfl⟩
 ·subst e0 er;obtain⟨pr,hp,rfl⟩:=GI hd;refine⟨_,show am (.tup [.name 2,.name 3]) (.tup [.int pr.1,.int pr.2]) _=_ from rfl,?_⟩;k_is;rw[Bo hp,fns] at ef;refine nP (fun h1 h2=>?_) fun h=>?_
  ·k_is;rw[if_pos ⟨of_decide_eq_true h1,of_decide_eq_true h2⟩] at ef;rw[ef] at q;exact q
  ·k_is;rw[if_neg (fun z=>by rw[decide_eq_true z.1,decide_eq_true z.2] at h;cases h)] at ef;exact⟨rfl,ef,_,_,rfl⟩
 ·subst e0 er;k_is;rw[Zc,List.drop_length,fns] at ef;rw[ef] at q;exact q
theorem nQ{t:Dw.D}{d:D}{Q:RR->Sto->Prop}(h:TD p S t d)(q:∀S',Sm S S'->Q (if Dw.aI t=true then .val .non else .exc 0) S'):OkX (evX ad (k+7) 12 [d] S) Q:=by
 refine xv (d:=eG) (rs:=cz) (ρ:=[some d]) rfl rfl rfl ?_;unfold cz;refine JM ?_;k_is;refine⟨rfl,sY h fun S' sm=>?_⟩;have q:=q S' sm;k_is;cases e:Dw.aI t with
 |true=>
  rw[e] at q;exact GH q
 |false=>
  rw[e] at q;exact⟨by decide,q⟩
theorem rh{t:Dw.D}{d:D}{m:Int}(h:TD p S t d)(hm:Dw.aI t=false)(q:∀S',Sm S S'->Q (.str "meadow") S'):Ok (evC ad (k+9) 25 [d,.int m] S) Q:=by
 refine xy (xv (d:=fQ) (rs:=cC) (ρ:=[some d,some (.int m),none]) rfl rfl rfl ?_);unfold cC;refine Ck (ds:=[d,.int m]) (S1:=S) rfl rfl ?_;refine xv (d:=eF) (rs:=cb) (ρ:=[some d,some (.int m)]) rfl rfl rfl ?_;unfold cb;refine Cj (ds:=[d]) (S1:=S) rfl rfl (nQ h fun S' sm=>?_);rw[hm];exact⟨by decide,_,rfl,q S' sm⟩
theorem xF{t:Dw.D}{a b c:D}{es:List (Int × Int)}{m:Int}(h:TD p S t (.tup [a,b,c,.tup (es.map be)]))(hm:Dw.aI t=true)(hl:es.length<=4)(q:∀S',Sm S S'->Q (.int (fns es m)) S'):Ok (evC ad (k+9) 25 [.tup [a,b,c,.tup (es.map be)],.int m] S) Q:=by
 refine xy (xv (d:=fQ) (rs:=cC) (ρ:=[some (.tup [a,b,c,.tup (es.map be)]),some (.int m),none]) rfl rfl rfl ?_);unfold cC;refine Ck (ds:=[.tup [a,b,c,.tup (es.map be)],.int m]) (S1:=S) rfl rfl ?_;refine xv (d:=eF) (rs:=cb) (ρ:=[some (.tup [a,b,c,.tup (es.map be)]),some (.int m)]) rfl rfl rfl ?_;unfold cb;refine Cj (ds:=[.tup [a,b,c,.tup (es.map be)]]) (S1:=S) rfl rfl (nQ h fun S' sm=>?_);rw[hm];refine JL ?_;k_is;exact⟨rfl,GL (k:=k+6) hl (q S' sm)⟩
theorem xG{es:List (Int × Int)}{m:Int}(hr:Ris (-1) es)(hb:∀q ∈ es,q.2<=9999):fns es m=m\/(0<=m/\fns es m<=9999):=by
 by_cases z:es.filter (aj · m)=[]
 ·exact .inl (mh z)
 ·rcases xz (m:=m) hb with h |h
  ·exact .inl h
  ·exact .inr ⟨by have:=(pK hr z).2;omega,h⟩
theorem xH:∀ (es:List (Int × Int)) (x:Int),(es.flatMap fun a=>if aj a x=true then [D.int a.1] else []).isEmpty=(es.filter (aj · x)).isEmpty
 |[],_=>rfl
 |a::l,x=>by
  rw[YG,YO];cases aj a x with
  |true=>rfl
  |false=>exact xH l x
theorem GM{es:List (Int × Int)}{m:Int}(hr:Ris (-1) es)(hb:∀q ∈ es,q.2<=9999)(hl:es.length<=4)(q:∀S',Sm S S'->Q (.int (fns es m)) S'):Ok (evC ad (k+1) 26 [.tup (es.map be),.int m] S) Q:=by
 refine E5 (d:=gS) (ρ:=[some (.tup (es.map be)),some (.int m),none]) rfl rfl ?_;dsimp only[gS,kx];k_is;refine jD (fun n ρ S'=>Sm S S'/\∃x,ρ=[some (.tup (es.map be)),some (.int m),some (.int x)]/\fns es x=fns es m/\n=(fns es m - x).toNat) (fun n ρ S1 ⟨sm,x,er,ef,en⟩=>?_) LF (fns es m - m).toNat _ S ?_ ⟨Sm.refl S,m,rfl,rfl,rfl⟩
 ·subst er;refine(jB _).t _ _ _ ?_;k_is;refine GJ es be (fun a=>if aj a x=true then [.int a.1] else []) (by omega) (fun a _=>by split <;> simp) GK (fun i a S' ha sm'=>?_) fun S2 sm2=>?_
  ·refine⟨_,show am (.tup [.name 3,.name 4]) (.tup [.int a.1,.int a.2]) _=_ from rfl,?_⟩;refine wW ?_;k_is;unfold aj;refine nP (fun h1 h2=>?_) fun h=>?_
   ·k_is;rw[h1,h2];exact⟨rfl,Sm.refl _⟩
   ·k_is;rw[h];exact⟨rfl,Sm.refl _⟩
  ·refine ay qW ?_;k_is;have fe:=xH es x;rw[fe];cases hf:(es.filter (aj · x)).isEmpty with
   |true=>
    rw[if_neg (by decide)];k_is;have e0:=mh (List.isEmpty_iff.mp hf);rw[ef] at e0;have h3:D.int x=D.int (fns es m):=by rw[e0]
    rw[h3];exact q _ ((sm.trans sm2).trans ((Sm.app _ _).trans (Sm.app _ _)))
   |false=>
    rw[if_pos (by decide)];k_is;have hne:es.filter (aj · x) ≠ []:=fun z=>by rw[z] at hf;cases hf
    have e1:=(pK hr hne).1;have g:=pL (l:=es) (m:=x+1);exact⟨(fns es m - (x+1)).toNat,by omega,(sm.trans sm2).trans ((Sm.app _ _).trans (Sm.app _ _)),x+1,rfl,by rw[e1,ef],rfl⟩
 ·unfold LF;rcases xG (m:=m) hr hb with h |h <;> omega
mutual
noncomputable def ba:Dw.D->Bool
 |.non=>true
 |.int i=>decide (i.natAbs < 10 ^ 20)
 |.tup ts=>dI ts
 |_=>false
noncomputable def dI:List Dw.D->Bool
 |[]=>true
 |t::ts=>ba t && dI ts
end
theorem bV:∀ {ts:List Dw.D},(∀t ∈ ts,ba t=true)->dI ts=true
 |[],_=>by rw[dI]
 |t::ts,h=>by rw[dI,h t Zf,bV fun t' ht'=>h t' (Zd _ ht')];rfl
theorem hY:∀ {ts:List Dw.D},dI ts=true->∀t ∈ ts,ba t=true
 |t::ts,h,t',ht=>by
  rw[dI,bAE] at h;rcases Zq.mp ht with rfl |ht
  ·exact h.1
  ·exact hY h.2 t' ht
theorem jE{t:Dw.D}{a b:Int}(h:Dw.aj t a b=true)(ha:-10000<=a)(hb:b<=10000):ba t=true:=by
 obtain⟨i,rfl,h0,h1⟩:=Dw.aN h;rw[ba];exact decide_eq_true (by omega)
theorem mi{r s:Int}{rows hs:List Dw.D}(em:Dw.aI (.tup [.int r,.int s,.tup rows,.tup hs])=true):ba (.tup [.int r,.int s,.tup rows,.tup hs])=true:=by
 rw[Dw.mI] at em;simp only[bAE] at em;obtain⟨e1,e2,e3,e4⟩:=em;rw[ba];refine bV fun t ht=>?_;simp only[Zq,Ym,or_false] at ht;rcases ht with rfl |rfl |rfl |rfl
 ·exact jE e1 (by decide) (by decide)
 ·exact jE e2 (by decide) (by decide)
 ·rw[ba];simp only[Dw.aC,bAE] at e3;refine bV fun t ht=>?_;have:=Zk.mp e3.2.1 t ht;cases t with
  |tup cs=>
   simp only[Dw.bo,bAE] at this;rw[ba];exact bV fun t' ht'=>jE (Zk.mp this.2 t' ht') (by decide) (by decide)
  |_=>simp[Dw.bo] at this
 ·rw[ba];simp only[Dw.aw,bAE] at e4;refine bV fun t ht=>?_;obtain⟨b,e,rfl,b0,b1,c0,c1,_⟩:=Dw.fH (Zk.mp e4.2.1 t ht);rw[ba];refine bV fun t' ht'=>?_;simp only[Zq,Ym,or_false] at ht';rcases ht' with rfl |rfl <;> (rw[ba];exact decide_eq_true (by omega))
structure PF(n:Nat)(t:Dw.D):Prop where
 pl:ba t=true
 de:Dw.dep t<=n
 wi:Dw.wid t<=8
theorem PF.up{n m:Nat}{t:Dw.D}(h:PF n t)(hm:n<=m):PF m t:=⟨h.pl,Zr h.de hm,h.wi⟩
noncomputable def cB:Nat->Nat
 |0=>60
 |n+1=>8 * (cB n+2)+4
theorem xI{c:Nat}:∀ {ts:List Dw.D},(∀t ∈ ts,Dw.sz t<=c)->Dw.szL ts<=ts.length * (c+2)
 |[],_=>by simp[Dw.szL]
 |t::ts,h=>by
  have h1:=h t Zf;have h2:=xI (ts:=ts) fun t' ht'=>h t' (Zd _ ht');rw[Dw.szL,ZD,Y8];omega
theorem xJ:∀n,60<=cB n
 |0=>Ze _
 |n+1=>by have:=xJ n;rw[cB];omega
theorem xK:∀ (n:Nat) {t:Dw.D},PF n t->Dw.Bd (10 ^ 31) (cB n) t
 |n,.non,h=>⟨by simp only[Dw.bnd],by rw[Dw.sz];have:=xJ n;omega⟩
 | n,.int i,h=>⟨by
   have:=h.pl;rw[ba] at this;have:=of_decide_eq_true this;simp only[Dw.bnd];omega,by rw[Dw.sz];exact xJ n⟩
 |0,.tup ts,h=>by have:=h.de;rw[Dw.dep] at this;omega
 |n+1,.tup ts,h=>by
  have hpl:=h.pl;rw[ba] at hpl;have f:Dw.Fit (n+1) 8 (.tup ts):=⟨h.de,h.wi⟩;have each:∀t ∈ ts,Dw.Bd (10 ^ 31) (cB n) t:=fun t ht=>xK n ⟨hY hpl t ht,(f.mem ht).de,(f.mem ht).wi⟩;have l8:=f.len;refine Dw.gF (fun t ht=>(each t ht).bn) ?_;have:=xI (c:=cB n) fun t ht=>(each t ht).sz;have h2:ts.length * (cB n+2)<=8 * (cB n+2):=Nat.mul_le_mul_right _ l8;rw[cB];omega
 |n,.bl _,h=>by have:=h.pl;simp[ba] at this
 |n,.str _,h=>by have:=h.pl;simp[ba] at this
 |n,.lst _,h=>by have:=h.pl;simp[ba] at this
 |n,.dic _ _,h=>by have:=h.pl;simp[ba] at this
structure Shw(t:Dw.D):Prop where
 sh:Dw.Shn t
 de:Dw.dep t<=50
 wi:Dw.wid t<=1000
theorem xL{n m B s:Nat}{t:Dw.D}(f:Dw.Fit n m t)(b:Dw.Bd B s t)(hn:n<=50)(hm:m<=1000)(hB:B<=10 ^ 50)(hs:s<=16000000):Shw t:=
 ⟨b.shn hB (by rw[Vp];omega) (Zr f.de (by omega)),Zr f.de hn,Zr f.wi hm⟩
theorem pM{t:Dw.D}(h:PF 4 t):Shw t:=xL (n:=4) (m:=8) ⟨h.de,h.wi⟩ (xK 4 h) (by decide) (by decide) (by decide) (by decide)
mutual
theorem rj{S:Sto}:∀ (n:Nat) {t:Dw.D} {d:D},Dw.dep t < n->TD p S t d->ce n S d=some t
 |n+1,.non,_,_,h=>by rw[h.non];simp only[ce]
 |n+1,.bl _,_,_,h=>by rw[h.bl];simp only[ce]
 |n+1,.int _,_,_,h=>by rw[h.int];simp only[ce]
 |n+1,.str _,_,_,h=>by rw[h.str];simp only[ce]
 |n+1,.tup ts,_,hd,h=>by
  obtain⟨ds,rfl,q⟩:=h.tup;rw[Dw.dep] at hd;simp only[ce,gx n (by omega) q,Zz]
 |n+1,.lst ts,_,hd,h=>by
  rw[TD] at h;obtain⟨m,ds,rfl,_,e,q⟩:=h;rw[Dw.dep] at hd;simp only[ce,e,gx n (by omega) q,Zz]
 |n+1,.dic ks ts,_,hd,h=>by
  rw[TD] at h;obtain⟨m,ds,rfl,_,e,q⟩:=h;rw[Dw.dep] at hd;simp only[ce,e,gx n (by omega) q,Zz]
theorem gx{S:Sto}:∀ (n:Nat) {ts:List Dw.D} {ds:List D},Dw.fV ts < n->TDs p S ts ds->bP (ce n S) ds=some ts
 |n,[],_,_,h=>by rw[h.nil];simp only[bP]
 |n,t::ts,_,hd,h=>by
  obtain⟨d,r,rfl,a,q⟩:=h.cons;rw[Dw.fV] at hd;simp only[bP,rj n (by omega) a,gx n (by omega) q]
end
theorem gy{t:Dw.D}{d:D}(h:TD p S t d)(s:Shw t):i6 d S=some (.str (Dw.aK t).shown,S):=by
 unfold i6;rw[rj 100 (by have:=s.de;omega) h];dsimp only;rw[if_pos s.sh]
theorem gz(x y:Str)(S:Sto):az .ne (.str x) (.str y) S=some (.bl (!(x == y)),S):=qp (x:=.str x) (y:=.str y) (b:=x == y) rfl
theorem xM{i:Int}(h:i.natAbs < 10 ^ 31):Shw (.int i):=xL (n:=0) (m:=0) (B:=10 ^ 31) (s:=60) ⟨by simp[Dw.dep],by simp[Dw.wid]⟩ ⟨by simp only[Dw.bnd];omega,by rw[Dw.sz];exact Ze _⟩ (by decide) (by decide) (by decide) (by decide)
theorem Bp{t:Dw.D}(h:Dw.aI t=true):PF 3 t:=by
 obtain⟨r,s,rows,hs,rfl,r0,r8,s0,s60,hg,hh⟩:=Dw.rX h;have fm:=Dw.ou (r:=r) (s:=s) hg hh;exact⟨mi h,fm.de,Zr fm.wi (by decide)⟩
theorem rl{a b:Nat}{xs ys:List D}(ha:S[a]?=some (.lst xs))(hb:S[b]?=some (.lst ys))(hl:xs.length+ys.length<=100000):bI .add (.ref a) (.ref b) S=some (.ref (Zv S),S++[.lst (xs++ys)]):=by
 simp only[bI,ij,Dt,ha,hb];rw[if_pos hl]
theorem xN{α:Type}{n:Nat}{l:List α}{E:α->D}(h:S[n]?=some (.lst (l.map E))):∀i S',Sm S S'->nxS n i S'=some ((l[i]?).map E):=fun i S' sm=>by
 show(ah S' n).map (fun ds=>ds[i]?)=_;rw[aZ (sm _ _ h),Zz,Zt]
noncomputable def gV(far:Int):List Int:=((Zm 92).map fun(i:Nat)=>(-2+i:Int))++((Zm 109).map fun(i:Nat)=>(9890+i:Int))++[far,0 - far,9999]
theorem Bq{far:Int}:rgD (-2) 90++rgD 9890 9999++[D.int far,D.int (0 - far),D.int 9999]=(gV far).map D.int:=by
 unfold gV rgD;rw[ZJ,ZJ,Xb,Xb];rfl
theorem Bs{far v:Int}(h0:0<=far)(h1:far < 10 ^ 27)(h:v ∈ gV far):v.natAbs < 10 ^ 30:=by
 unfold gV at h;simp only[Zu,ZW,ZO,Zq,Ym,or_false] at h;rcases h with (⟨i,hi,rfl⟩ |⟨i,hi,rfl⟩) |rfl |rfl |rfl <;> omega
theorem xO{far:Int}:(gV far).length=204:=by
 unfold gV;rw[Zh,Zh,Zc,Zc,ZG,ZG];rfl
theorem main(ns:List Int)(hn:ns.length<=63):∃S',evC ad 40 27 [.ref 0] [.frz (ns.map D.int)]=some (.bl true,S'):=by
 have key:Ok (evC ad (39+1) 27 [.ref 0] [.frz (ns.map D.int)]) fun d _=>d = .bl true:=by
  refine E5 (d:=qT) (ρ:=[some (.ref 0),none,none,none,none,none,none,none]) rfl rfl ?_;dsimp only[qT,B4];k_is;have lq:aH fI (.ref 0) [Ob.frz (ns.map D.int)]=some (.int ns.length,[Ob.frz (ns.map D.int)]):=by simp only[aH,au,ah,List.getElem?_cons_zero,Zz,fI,Zc]
  refine ay lq ?_;k_is
  obtain⟨c,hc,c20⟩:∃c:Nat,(if (if (20:Int) < ns.length then (20:Int) else ns.length) > 1 then (if (20:Int) < ns.length then (20:Int) else ns.length) else 1)=(c:Int)/\c<=20:=by
   refine⟨(if (if (20:Int) < ns.length then (20:Int) else ns.length) > 1 then (if (20:Int) < ns.length then (20:Int) else ns.length) else 1).toNat,?_,?_⟩
   ·split <;> split <;> omega
   ·split <;> split <;> omega
  rw[hc];refine⟨by simp only[lim,bAE,decide_eq_true_eq];omega,?_⟩;rw[ZN];refine qY (by omega) (fun i ρ S'=>S'[0]?=some (Ob.frz (ns.map D.int))/\∃a b c d e f g,ρ=[some (.ref 0),a,b,c,d,e,f,g]) (fun i ρ S1 hi ⟨h0,a,b,c',d,e,f,g,er⟩=>?_) (fun ρ S1 ⟨h0,a,b,c',d,e,f,g,er⟩=>?_) ⟨rfl,none,none,none,none,none,none,none,rfl⟩
  ·subst er;refine⟨_,rfl,?_⟩;k_is;rw[Int.zero_add];refine⟨rfl,Bl (k:=38) h0 fun x=>?_⟩;k_is;refine⟨rfl,GC (k:=38) fun n=>?_⟩;k_is;have pt:Pot (Zv S1) (S1++[Ob.lst [D.int n]]):=⟨n,bG⟩;have n0:0 ≠ Zv S1:=fun z=>by rw[Z3.mp z.symm] at h0;simp at h0
   have h1:(S1++[Ob.lst [D.int n]])[0]?=some (Ob.frz (ns.map D.int)):=Sm.app _ _ _ _ h0;generalize S1++[Ob.lst [D.int n]]=S2 at *;generalize Zv S1=p at *;refine⟨rfl,xu (k:=36) pt fun r s rows hs m0 S3 d3 tm0 hm0=>?_⟩;obtain⟨ds,rfl,hds⟩:=tm0.tup;obtain⟨w,x1,y,z,rfl,k1,k2,k3,k4⟩:=GB hds;k_is;refine⟨rfl,aS (k:=38) d3.pot (by decide) (by decide) fun k0 S4 k01 k02 d4=>?_⟩;k_is
   obtain⟨now,at3,nw0,nw1⟩:∃now:Int,atI [D.int 0,D.int 9900,D.int 3] k0=some (D.int now)/\0<=now/\now<=9900:=by
    have:k0=0\/k0=1\/k0=2:=by omega
    rcases this with rfl |rfl |rfl
    ·exact⟨0,rfl,by decide,by decide⟩
    ·exact⟨9900,rfl,by decide,by decide⟩
    ·exact⟨3,rfl,by decide,by decide⟩
   refine⟨_,at3,rfl,kC (k:=37) d4.pot nw0 nw1 fun es b S5 d5 hg hb hl=>?_⟩;refine⟨by show 3+1<=1000;decide,?_⟩;have cut:aY [w,x1,y,z] none (some 3)=[w,x1,y]:=rfl;rw[cut];show rW _ [some (.ref 0),some (.int (i:Int)),some (.ref p),some (.tup [w,x1,y,.tup (es.map be)]),d,e,f,g] S5 _
   have hm:Dw.aI (.tup [.int r,.int s,.tup rows,.tup (es.map Dw.cq)])=true:=by
    rw[Dw.mI] at hm0 ⊢;simp only[bAE] at hm0 ⊢;exact⟨hm0.1,hm0.2.1,hm0.2.2.1,hg.shuts hb hl⟩
   have d35:=d4.trans d5;have tm:TD p S5 (.tup [.int r,.int s,.tup rows,.tup (es.map Dw.cq)]) (.tup [w,x1,y,.tup (es.map be)]):=bg (ac (k1.keep d35.kp) (ac (k2.keep d35.kp) (ac (k3.keep d35.kp) (ac (bg (jz es)) aF))));have ris:=xE hg;have hbe:∀q ∈ es,q.2<=9999:=fun q hq=>by have:=(hg.each q hq).2.2;omega
   k_is;refine⟨⟨by decide,by decide,by decide⟩,?_⟩;k_is;refine⟨⟨by decide,by decide,by decide⟩,rfl,aS (k:=38) d5.pot (by decide) (by decide) fun fr S6 fr0 fr1 d6=>?_⟩;have fr1:fr < 100000000000000000000000000:=fr1;k_is;refine⟨-2,90,rfl,rfl,by decide,by decide,by decide,by decide,?_⟩;k_is;refine⟨9890,9999,rfl,rfl,by decide,by decide,by decide,by decide,?_⟩;k_is;clear hc lq hm0 tm0 hds k1 k2 k3 k4;have l6:(S6++[Ob.lst (rgD (-2) 90)]++[Ob.lst (rgD 9890 9999)])[Zv S6]?=some (Ob.lst (rgD (-2) 90)):=by rw[Zo (by simp),Zg (Ze _),ZU];rfl
   have l7:(S6++[Ob.lst (rgD (-2) 90)]++[Ob.lst (rgD 9890 9999)])[Zv (S6++[Ob.lst (rgD (-2) 90)])]?=some (Ob.lst (rgD 9890 9999)):=by rw[Zg (Ze _),ZU];rfl
   refine ay (rl l6 l7 (by unfold rgD;rw[Zc,Zc,ZG,ZG];decide)) ?_;have s67:Sm S6 (S6++[Ob.lst (rgD (-2) 90)]++[Ob.lst (rgD 9890 9999)]):=(Sm.app _ _).trans (Sm.app _ _);generalize S6++[Ob.lst (rgD (-2) 90)]++[Ob.lst (rgD 9890 9999)]=S7 at *;generalize hfar:(10 ^ Int.toNat 4+fr:Int)=far at *
   have hfar0:0<=far/\far < 10 ^ 27:=by
    have:(10 ^ Int.toNat 4:Int)=10000:=by decide
    omega
   k_is;have l8:(S7++[Ob.lst (rgD (-2) 90++rgD 9890 9999)]++[Ob.lst [D.int far,D.int (0 - far),D.int 9999]])[Zv S7]?=some (Ob.lst (rgD (-2) 90++rgD 9890 9999)):=by rw[Zo (by simp),Zg (Ze _),ZU];rfl
   have l9:(S7++[Ob.lst (rgD (-2) 90++rgD 9890 9999)]++[Ob.lst [D.int far,D.int (0 - far),D.int 9999]])[Zv (S7++[Ob.lst (rgD (-2) 90++rgD 9890 9999)])]?=some (Ob.lst [D.int far,D.int (0 - far),D.int 9999]):=by rw[Zg (Ze _),ZU];rfl
   refine ay (rl l8 l9 (by rw[Zh];unfold rgD;rw[Zc,Zc,ZG,ZG];show(90 - -2:Int).toNat+(9999 - 9890:Int).toNat+3<=100000;decide)) ?_;rw[Bq];have s79:Sm S7 (S7++[Ob.lst (rgD (-2) 90++rgD 9890 9999)]++[Ob.lst [D.int far,D.int (0 - far),D.int 9999]]):=(Sm.app _ _).trans (Sm.app _ _);generalize S7++[Ob.lst (rgD (-2) 90++rgD 9890 9999)]++[Ob.lst [D.int far,D.int (0 - far),D.int 9999]]=S8 at *;k_is;have la:(S8++[Ob.lst ((gV far).map D.int)])[Zv S8]?=some (Ob.lst ((gV far).map D.int)):=bG;have s8a:Sm S8 (S8++[Ob.lst ((gV far).map D.int)]):=Sm.app _ _;generalize hL:Zv S8=L at *;generalize S8++[Ob.lst ((gV far).map D.int)]=S9 at *;refine⟨by rw[aZ la];rfl,?_⟩;have sm69:=(s67.trans s79).trans s8a;have d9:=d6.thenSm sm69;have tm9:=(tm.keep d6.kp).keep sm69.kp;refine gr (gV far).length (fun j ρ S'=>Sm S9 S'/\∃u,ρ=[some (.ref 0),some (.int (i:Int)),some (.ref p),some (.tup [w,x1,y,.tup (es.map be)]),some (.int far),u,f,g]) (by rw[xO];unfold LF;decide) (fun j ρ S' hj ⟨sm,u,er⟩=>?_) (fun ρ S' ⟨sm,u,er⟩=>⟨?_,?_⟩) ⟨Sm.refl _,e,rfl⟩
   ·subst er;refine⟨.int (gV far)[j],_,by rw[xN la j S' sm,gEG hj];rfl,rfl,?_⟩;have hv:=Bs hfar0.1 hfar0.2 (ZM hj);generalize (gV far)[j]=v at *;k_is;refine⟨rfl,xF (k:=30) (tm9.keep sm.kp) hm hl fun Sa sma=>?_⟩
    have hw:(fns es v).natAbs < 10 ^ 31:=by
     have ge:=pL (l:=es) (m:=v);rcases xG (m:=v) ris hbe with z |z <;> omega
    refine ay (gy (p:=p) bU (xM hw)) ?_;k_is;refine ay me3 ?_;refine⟨rfl,GM (k:=38) ris hbe hl fun Sb smb=>?_⟩;refine ay (gy (p:=p) bU (xM hw)) ?_;rw[gz,ae];k_is;rw[beq_self_eq_true];k_is;exact⟨(sm.trans sma).trans smb,_,rfl⟩
   ·rw[xN la _ S' sm,ZH (Ze _)];rfl
   ·subst er;k_is;have dS:=d9.thenSm sm;have tmS:=tm9.keep sm.kp;have pf:=Bp hm;refine⟨rfl,nN (k:=33) 3 dS.pot tmS (m:=8) ⟨pf.de,pf.wi⟩ (xK 3 pf) (by decide) (by decide) fun t' d' Sb db td' fb bb=>?_⟩;have tmb:=tmS.keep db.kp;refine ay (gy tmb (pM (pf.up (by decide)))) ?_;k_is;refine⟨rfl,pJ (k:=36) td' fun Sc smc=>?_⟩;have dT:=(d3.trans (d35.trans dS)).trans db;have fin:∀Sd,Sm Sc Sd->Sd[0]?=some (Ob.frz (ns.map D.int)):=fun Sd smd=>smd _ _ (smc _ _ (dT.kp _ _ n0 h1));have tmc:=tmb.keep smc.kp;cases e1:Dw.aI t' with
    |true=>
     k_is;refine ay (gy tmc (pM (pf.up (by decide)))) ?_;k_is;rw[gz,ae];k_is;rw[beq_self_eq_true];k_is;exact⟨fin _ (Sm.refl _),_,_,_,_,_,_,_,rfl⟩
    |false=>
     k_is;refine⟨rfl,rh (k:=30) (td'.keep smc.kp) e1 fun Sd smd=>?_⟩;k_is;rw[gz,ae];k_is;rw[beq_self_eq_true];k_is;refine⟨rfl,rh (k:=30) ((td'.keep smc.kp).keep smd.kp) e1 fun Se sme=>?_⟩;k_is;rw[gz,ae];k_is;rw[beq_self_eq_true];k_is;refine ay (gy ((tmc.keep smd.kp).keep sme.kp) (pM (pf.up (by decide)))) ?_;k_is;rw[gz,ae];k_is;rw[beq_self_eq_true];k_is;exact⟨fin _ (smd.trans sme),_,_,_,_,_,_,_,rfl⟩
  ·subst er;k_is
 obtain⟨d,S',e,rfl⟩:=key;exact⟨S',e⟩
end Lw
theorem PySem.Challenge.cw_downrings_k02_open_minutes_holds : PySem.Challenge.rw_downrings_k02_open_minutes.Holds :=
 Lw.head Lw.main
