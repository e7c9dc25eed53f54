import PyProof.Rows.All
import KE.KIsAll
import KE.KMinBuiltin
import KE.KRevSl
import KE.KSortTup
import KE.KStateDown
import PySem.Challenge.RW_downrings_k55_how_much_longer
set_option Elab.async false
set_option linter.all false
set_option maxRecDepth 100000
set_option maxHeartbeats 4000000
local macro_rules|`(abbrev $n:declId $s:optDeclSig $v:declVal)=>`(noncomputable def $n $s:optDeclSig $v:declVal)
open List renaming length_map → Za, getElem?_eq_some_iff → Zb, mem_of_getElem? → Ze, mem_cons_of_mem → Zg, length_append → Zh, mem_cons_self → Zi, length → Zj, size_toArray → Zk, range → Zl, length_singleton → Zm, mem_cons → Zn, getElem?_map → Zo, getElem?_append_right → Zp, getElem?_set_ne → Zq, getElem?_eq_none → Zs, getD_eq_getElem?_getD → Zt, getElem?_append_left → Zu, length_cons → Zv, replicate → Zw, mem_singleton → Zx, map_cons → ZC, mem_map → ZD, mem_append_right → ZG, length_range → ZJ, getElem_mem → ZM, map_append → ZP, mem_append → ZQ, getElem?_set_self → ZR, mem_flatMap → ZS, take_succ_eq_append_getElem → ZT, map_map → ZU, length_eq_zero_iff → ZV, append_nil → ZW, mem_filter → ZX, length_set → ZY, flatMap_cons → Z0, mem_range → Z1, length_nil → Z3, zip_cons_cons → Z4, take_of_length_le → Z5, replicate_succ → Z6, getElem?_eq_none_iff → Z7, prefix_refl → Z9, map_nil → Yb, flatMap_append → Yc, length_reverse → Yd, all_cons → Ye, all_eq_true → Yg, mem_filterMap → Yh, nodup_cons → Yj, mem_append_left → Yk, flatten_cons → Yl, getElem?_set → Yn, getElem?_range → Yp, length_take → Yq, getElem?_replicate → Yr, lookup_cons → Ys, getElem?_cons_succ → Yt, filterMap_map → Yu, prefix_append → Yv, pairwise_cons → Yw, find?_cons → Yx, any_cons → Yy, append_assoc → Yz, getElem?_of_mem → YA, take_length → YB, drop_length → YC, drop_eq_getElem_cons → YD, filterMap_cons → YE, map_congr_left → YF, eraseIdx_cons_succ → YI, ext_getElem? → YJ, reverse_cons → YK, getElem_inj → YN, countP_cons → YO, all_map → YW, forIn_nil → Y0, filterMap_eq_nil_iff → Y1, nodup_append → Y4, map_inj_left → Y5, pairwise_map → Y6, set_comm → Y7, length_drop → Y8, any_eq_true → Y9, not_mem_nil → Xb, drop → Xc, filter_cons → Xd, nodup_range → Xf, flatMap_nil → Xg, toArray → Xh, drop_eq_nil_of_le → Xi, of_mem_zip → Xk, nil_append → Xl, range_succ → Xm, length_replicate → Xn, length_filter_le → Xo, getLast?_append → Xs, replicate_zero → Xv, length_pos_iff → Xx, map_eq_nil_iff → Xy, filter_eq_self → Xz, flatten_nil → XV, cons_append → XX, map_flatMap → XY, flatMap_def → XZ, getElem_map → X0, foldl_cons → X1, forIn_cons → X2, filter_map → X7, foldl → X8, nodup_nil → Wa, take_succ → Wc, map_take → We, cons → Wf, sum → Wk
open PySem.Heap renaming get?_push_of_some → Zc, lt_size → Zr, get?_push_size → Zz, get?_update_other → ZH, get?_update_self → Z8, size_push → Yi, size_update → Xa, get?_update_ne → Xw, get?_push_ne → XH
open Bool renaming false_ne_true → Zd, false_eq_true → ZK, or_eq_true → YH, beq_eq_decide_eq → YM, not_true → YR, false_or → YS, eq_iff_iff → YT, false_and → YZ, and_eq_true_iff → Xr, true_and → XB, and_self → XC, and_false → X9, or_false → Wd
open Nat renaming le_refl → Zf, lt_of_lt_of_le → ZB, ne_of_lt → ZF, le_trans → ZI, lt_irrefl → ZN, le_succ → Ym, sub_self → Yo, add_assoc → YG, lt_succ_of_lt → YL, lt_succ_self → YQ, le_of_lt → YU, succ_mul → YV, zero_add → YX, le_of_succ_le → Y2, le_add_right → Xe, zero_le → Xq, mul_le_mul_right → Xu, ne_of_gt → XG, succ_le_succ → XN, le_of_not_lt → XQ, succ_ne_self → XR, le_max_right → XU, min_eq_right → XW, le_max_left → X3, min_eq_left → X4, mul_le_mul → Wb, zero_mul → Wh, log2_lt → Wj
open Array renaming length_toList → Zy, forIn_toList → YY, mem_toList_iff → Xp
open Option renaming map_some → ZA, map_eq_some_iff → ZL, getD_some → ZZ, isSome_iff_exists → Z2, isSome_map → Y3, isSome_some → XD, getD_none → XM
open Int renaming toNat_natCast → ZE, le_refl → ZO, zero_add → Xj, emod_lt_of_pos → XF, le_trans → XJ, emod_nonneg → X5, le_antisymm → X6, ediv_one → Wg, le_of_lt → Wi
open PyProof.Rows renaming boot_enumerate → Wl, boot_list → Wm, boot_max → Wn, boot_min → Wo, boot_sorted → Wp, boot_tuple → Wq, callWith_type1 → Wr, slot_tuple_getitem → Ws
open PySem.Calls renaming Name_function_global → Wt
open PySem renaming Comprehension → Wu, FuncData → WO, IsRangeIter → WQ, NameKind → WR, Operator → WT, Spec → W6, assignEach → Vn, assignInOrder → Vo, backToKw → Vp, behindInMarks → Vq, binaryOp → Vr, bindName → Vs, bootBuiltins → Vt, builtinsNs → Vu, callSpecialIfBoundUnlessNone? → Vv, call_meets → Vw, cellsFrom → Vx, codeAny_builtin → Vy, codeAny_mono → Vz, compareOp → VA, concat_meets → VB, eqIsQuiet → VC, eqIsQuiet_byValue → VE, evalPart_none → VF, foldedSetIterable → VG, intItems → VH, intItems_at → VI, isSubtype_tuple_tuple → VJ, keywordEach → VL, letOwnedTupleGo → VM, mainGlobals → VN, mem_of_lookup → VO, newFunctionEnv → VP, noFill_tuple_add → VQ, not_mem_of_deeper → VR, numAt_eq → VS, nums_intItems → VT, old_kept → VU, plainId_quiet → VV, pushCells → VW, pushCells_keeps → VX, richCompare → VY, richCompare_meets_room → VZ, seqIndex_neg → V0, seqIndex_of → V1, seqItems? → V2, seq_tuple_add → V3, sizeLine_eq → V4, sliceBounds → V5, starEach → V6, strLen_append → V7, swappedStores → V8, swapsWith → V9, swapsWithSole → Ua, sysModules → Ub, textFrom → Uc, updateSeq → Ud, wpAny_Call_Name_kw → Ue, wpAny_bind → Uf, wpAny_bindName → Ug, wpAny_call_entry → Uh, wpAny_comprehension_free → Ui, wpAny_eqBool_int → Uj, wpAny_field → Uk, wpAny_forIn_list → Ul, wpAny_getItem_list_slice → Um, wpAny_holding → Uo, wpAny_letGo → Up, wpAny_letOwnedTupleGo_enum → Uq, wpAny_loadPart' → Ur, wpAny_mono → Us, wpAny_newObj_type → Ut, wpAny_of_eq → Uu, wpAny_passesOwn → Uv, wpAny_pure → Uw, wpAny_pyIter_enum → Ux, wpAny_pyIter_list → Uy, wpAny_pyIter_rangeiter → Uz, wpAny_pyIter_tuple → UA, wpAny_pyNext_enum_endD → UB, wpAny_pyNext_enum_itemD → UC, wpAny_pyNext_range_end → UD, wpAny_rule → UE, wpAny_seqItems → UF, wpAny_sequenceKey → UG, wpAny_specialOf → UH, wpAny_standAt → UI, wpAny_truthy_bool → UJ, wpAny_tryCatch → UK, wpAny_typeOf → UL, wpAny_updateSeq → UM
open PySem.F renaming args_tuple_add_2 → Wv, args_tuple_iterator_next_1 → Ww, args_tuple_lt_2 → Wx, entry_max_loop → Wy, entry_min_loop → Wz, entry_tuple_add → WA, entry_tuple_iterator_next → WB, entry_tuple_lt → WC, plainAttrs_list → WD, plain_max_loop → WE, plain_min_loop → WF, slot_NoneType_hash → WG, slot_list_append → WH, slot_list_extend → WI, slot_list_pop → WJ, slot_tuple_add → WK, slot_tuple_count → WL, slot_tuple_iterator_next → WM, slot_tuple_lt → WN
open PySem.PyData renaming depth → WU, depthAll → WV, depthKv → WW, shown → WX, shownAll → WY
open PySem.SeqAt renaming EqAt → WZ, RcAt → W0, RcNeAt → W1, in_listAt → W2, in_tupleAt → W3, notIn_listAt → W4, notIn_tupleAt → W5
open PySem.W renaming Frag → W7, cellsFrom_some → W8, codeIn → W9, findIn → Va, fnOf → Vb, instObj → Vc, keepIn → Ve, kia_one → Vf, kitOne → Vg, kitx_dict → Vh, kitx_list → Vi, lookIn → Vj, methodObj → Vk, plainGet → Vl, rangeSize_down → Vm
theorem gEG {α:Type _} {l:List α} {i:Nat} (h:i < l.length):l[i]?=some l[i]:=List.getElem?_eq_getElem h
theorem bAE (a b:Bool):((a && b)=true)=(a=true/\b=true):=Bool.and_eq_true a b
namespace L2
open PySem PySem.Spec PyProof.Rows
@[inline]abbrev Key:=Sum Int Str
abbrev fV:Key->Value->Bool
 |.inl k,v=>Value.isInt k v
 |.inr x,v=>Value.isStrOf x v
abbrev KO(w:World):Key->Int
 |.inl k=>hashInt k
 |.inr x=>hashStr w x
theorem aq:∀ {k:Key} {v:Value},fV k v=true->(∃i t,k=Sum.inl i/\v=Value.int i t)\/(∃x t,k=Sum.inr x/\v=Value.str x t)
 |.inl i,v,h=>by
  obtain⟨t,e⟩:=Value.isInt_shape (k:=i) (v:=v) h;exact .inl ⟨i,t,rfl,e⟩
 |.inr x,v,h=>by
  obtain⟨t,e⟩:=Value.isStrOf_shape (x:=x) (v:=v) h;exact .inr ⟨x,t,rfl,e⟩
theorem uI(i:Int)(t:Tok):fV (.inl i) (.int i t)=true:=by simp[fV,Value.isInt]
theorem uJ(x:Str)(t:Tok):fV (.inr x) (.str x t)=true:=by simp[fV,Value.isStrOf]
theorem FX(a b:Int):decide ((Sum.inl a:Key)=Sum.inl b)=(a == b):=by
 by_cases e:a=b
 ·subst e;simp
 ·have h:¬ (Sum.inl a:Key)=Sum.inl b:=λq=>e (Sum.inl.inj q);rw[decide_eq_false h];exact(beq_eq_false_iff_ne.mpr e).symm
theorem FY(a b:Str):decide ((Sum.inr a:Key)=Sum.inr b)=decide (a=b):=by
 by_cases e:a=b
 ·subst e;simp
 ·have h:¬ (Sum.inr a:Key)=Sum.inr b:=λq=>e (Sum.inr.inj q);rw[decide_eq_false h,decide_eq_false e]
theorem wR(a:Int)(b:Str):decide ((Sum.inl a:Key)=Sum.inr b)=false:=decide_eq_false (λq=>nomatch q)
theorem wU(a:Str)(b:Int):decide ((Sum.inr a:Key)=Sum.inl b)=false:=decide_eq_false (λq=>nomatch q)
abbrev aW(prog:Program)(w:World):PySem.KeyKind prog w Key where
 is:=fV
 hash:=KO w
 inj:=λv a b ha hb=>by
  rcases aq ha with ⟨i,t,rfl,rfl⟩ |⟨x,t,rfl,rfl⟩
  ·rcases aq hb with ⟨j,u,rfl,e⟩ |⟨y,u,rfl,e⟩
   ·injection e with e1 _;rw[e1]
   ·exact nomatch e
  ·rcases aq hb with ⟨j,u,rfl,e⟩ |⟨y,u,rfl,e⟩
   ·exact nomatch e
   ·injection e with e1 _;rw[e1]
 byValue:=λk v h=>by
  rcases aq h with ⟨i,t,rfl,rfl⟩ |⟨x,t,rfl,rfl⟩ <;> rfl
 pyHash:=λhv h=>by
  rcases aq hv with ⟨i,t,rfl,rfl⟩ |⟨x,t,rfl,rfl⟩
  ·exact wpAny_pyHash_int h
  ·exact wpAny_pyHash_str h
 eqBool:=λhu hv h=>by
  rcases aq hu with ⟨i,t,rfl,rfl⟩ |⟨x,t,rfl,rfl⟩
  ·rcases aq hv with ⟨j,u,rfl,rfl⟩ |⟨y,u,rfl,rfl⟩
   ·rw[FX] at h;exact Uj h
   ·rw[wR] at h;exact SeqAt.EqAt.int_str i t y u _ _ _ _ h
  ·rcases aq hv with ⟨j,u,rfl,rfl⟩ |⟨y,u,rfl,rfl⟩
   ·rw[wU] at h;exact SeqAt.EqAt.str_int x t j u _ _ _ _ h
   ·rw[FY] at h;exact wpAny_eqBool_str h
 «strs»:=λk x t v h=>by
  rcases aq h with ⟨i,u,rfl,e⟩ |⟨y,u,rfl,e⟩
  ·exact nomatch e
  ·injection e with e1 _;subst e1;cases v <;> rfl
theorem oW(prog:Program)(w:World)(i:Int)(t:Tok):(aW prog w).is (.inl i) (.int i t)=true:=uI i t
theorem oX(prog:Program)(w:World)(x:Str)(t:Tok):(aW prog w).is (.inr x) (.str x t)=true:=uJ x t
inductive NK where
 |non |one (k:Key) |tup (ks:List Key)
 deriving DecidableEq
theorem FZ{α β:Type}{F G:α->β->Prop}(f:∀a b,F a b->G a b):∀ {l:List α} {m:List β},Paired F l m->Paired G l m
 |_,_,.nil=>.nil
 |_,_,.cons h t=>.cons (f _ _ h) (FZ f t)
section
variable {P:Program} {w:World}
def NIs(P:Program)(w:World)(h:Heap):NK->Value->Prop
 |.non,v=>v = .none
 |.one k,v=>fV k v=true
 |.tup ks,v=>∃b,v = .ref b/\IsTupleKey (aW P w) h ks b
def cU(P:Program)(w:World)(h:Heap)(ks:List NK)(a:Addr):Prop:=∃o items n,h.get? a=some o/\o.cls = .type "tuple"/\o.data = .seq items n/\Paired (NIs P w h) ks items.toList
theorem NIs.inj{h:Heap}{x y:NK}{v:Value}(hx:NIs P w h x v)(hy:NIs P w h y v):x=y:=by
 cases x with
 |non=>
  cases hx;cases y with
  |non=>rfl
  |one k=>rcases aq hy with ⟨i,t,_,e⟩ |⟨i,t,_,e⟩ <;> cases e
  |tup ks=>obtain⟨b,e,_⟩:=hy;cases e
 |one k=>
  rcases aq hx with ⟨i,t,rfl,rfl⟩ |⟨i,t,rfl,rfl⟩
  ·cases y with
   |non=>cases hy
   |one k'=>rw[(aW P w).inj (Value.int i t) (Sum.inl i) k' (by exact hx) (by exact hy)]
   |tup ks=>obtain⟨b,e,_⟩:=hy;cases e
  ·cases y with
   |non=>cases hy
   |one k'=>rw[(aW P w).inj (Value.str i t) (Sum.inr i) k' (by exact hx) (by exact hy)]
   |tup ks=>obtain⟨b,e,_⟩:=hy;cases e
 |tup ks=>
  obtain⟨b,rfl,hb⟩:=hx;cases y with
  |non=>cases hy
  |one k=>rcases aq hy with ⟨i,t,_,e⟩ |⟨i,t,_,e⟩ <;> cases e
  |tup ks'=>obtain⟨b',e,hb'⟩:=hy;cases e;rw[hb.inj hb']
theorem lU{h:Heap}:∀ {x y:List NK} {vs:List Value},Paired (NIs P w h) x vs->Paired (NIs P w h) y vs->x=y
 |[],y,_,.nil,hy=>by cases hy;rfl
 |a::x,y,_,.cons h1 t1,hy=>by
  cases hy with
  |cons h2 t2=>rw[h1.inj h2,lU t1 t2]
theorem cU.inj{h:Heap}{a:Addr}{x y:List NK}(hx:cU P w h x a)(hy:cU P w h y a):x=y:=by
 obtain⟨o,items,n,ho,_,hd,hi⟩:=hx;obtain⟨o',items',n',ho',_,hd',hi'⟩:=hy;obtain rfl:o=o':=Option.some.inj (ho.symm.trans ho');rw[hd] at hd';injection hd' with h1 _;subst h1;exact lU hi hi'
theorem NIs.keeps{h h':Heap}{k:NK}{v:Value}{d:Addr}{o:Obj}{es ep}(x:NIs P w h k v)(ho:h.get? d=some o)(hd:o.data = .dict es ep)(hs:Heap.SameBut d h h'):NIs P w h' k v:=by
 cases k with
 |non=>exact x
 |one k=>exact x
 |tup ks=>obtain⟨b,e,hb⟩:=x;exact⟨b,e,hb.keeps ho hd hs⟩
theorem cU.keeps{h h':Heap}{ks:List NK}{a d:Addr}{o:Obj}{es ep}(x:cU P w h ks a)(ho:h.get? d=some o)(hd:o.data = .dict es ep)(hs:Heap.SameBut d h h'):cU P w h' ks a:=by
 obtain⟨o',items,n,ho',hc,hd',hi⟩:=x
 have hne:a ≠ d:=by
  rintro rfl;obtain rfl:o'=o:=Option.some.inj (ho'.symm.trans ho);rw[hd] at hd';exact nomatch hd'
 exact⟨o',items,n,(hs.2 a hne).trans ho',hc,hd',FZ (λ_ _ z=>z.keeps ho hd hs) hi⟩
theorem cU.typeIs{s:Shared}{ks:List NK}{a:Addr}(x:cU P w s.heap ks a):s.TypeIs (.ref a) "tuple" := let ⟨o,_,_,ho,hc,_⟩:=x;⟨o,ho,hc⟩
abbrev nkH(P:Program)(w:World):NK->Int
 |.non=>0xFCA86420
 |.one k=>KO w k
 |.tup ks=>tupleKeyHash (aW P w) ks
abbrev nkN:NK->Nat
 |.tup ks=>ks.length+1
 |_=>1
theorem uK{A:Around}{E:Value->Shared->Prop}{s:Shared}{Q:Int->Shared->Prop}(h:Q 0xFCA86420 { s with toks:=s.toks+1 }):wpAny (model P w) A (pyHash .none) Q E s:=by
 have hT:s.TypeIs .none "NoneType" := typeIs_none s;unfold pyHash;have hv:[Value.none].any Value.onHeap=false:=rfl;refine Uf ?_;rw[cRoomFor,if_neg (by rw[hv];exact Zd)];refine Uw ?_;refine Uf (UH hT F.slot_NoneType_hash.lookup ?_);show wpAny _ _ (if (some (Value.builtin "NoneType.__hash__") == some Value.none)=true then _ else _) Q E s;rw[if_neg (by rw[beq_builtin_none];exact Zd)];refine Uf (UH hT F.slot_NoneType_hash.lookup ?_);show wpAny _ _ (Vv .none "__hash__" _ >>= _) Q E s;refine Uf (wpAny_callSpecialIfBoundUnlessNone?_slot hT WG (Uh WG hT F.entry_NoneType_hash ?_ (F.args_NoneType_hash_1 _)));show wpAny _ _ (slotArgs "__hash__" 0 _ >>= λ_=>retInt 0xFCA86420) _ _ s;refine Uf (m:=slotArgs "__hash__" 0 _) (Uw ?_);refine wpAny_ret_mkInt ?_;show wpAny _ _ (pure (0xFCA86420:Int)) Q E _;exact Uw h
theorem wV{A:Around}{E:Value->Shared->Prop}{s:Shared}{k:NK}{v:Value}{Q:Int->Shared->Prop}(hu:A.units < cLine)(hk:NIs P w s.heap k v)(h:Q (nkH P w k) { s with toks:=s.toks+nkN k }):wpAny (model P w) A (pyHash v) Q E s:=by
 cases k with
 |non=>cases hk;exact uK h
 |one k=>exact(aW P w).pyHash hk h
 |tup ks=>obtain⟨b,rfl,hb⟩:=hk;exact wpAny_pyHash_tuple hu hb h
abbrev wW(P:Program)(w:World)(ks:List NK):Int:=reduceHash (Builtin.Tuple.tupleHashOf (ks.map (nkH P w)))
abbrev oY(ks:List NK):Nat:=(ks.map nkN).sum
theorem uL{A:Around}{E:Value->Shared->Prop}{s:Shared}{ks:List NK}{a:Addr}{Q:Int->Shared->Prop}(hu:A.units+1 < cLine)(hk:cU P w s.heap ks a)(h:Q (wW P w ks) { s with toks:=s.toks+(oY ks+1) }):wpAny (model P w) A (pyHash (.ref a)) Q E s:=by
 have hT:=hk.typeIs;obtain⟨o,items,n,ho,_,hd,hi⟩:=hk;unfold pyHash
 first |unfold pyHashByItsType |skip
 first |refine Uf (wpAny_cRoomFor_or (.inr (by omega)) ?_) |skip
 refine Uf (UH hT F.slot_tuple_hash.lookup ?_);show wpAny _ _ (if (some (Value.builtin "tuple.__hash__") == some Value.none)=true then _ else _) Q E s;rw[if_neg (by rw[beq_builtin_none];exact Zd)];refine Uf (UH hT F.slot_tuple_hash.lookup ?_);show wpAny _ _ (Vv (.ref a) "__hash__" _ >>= _) Q E s;refine Uf (wpAny_callSpecialIfBoundUnlessNone?_slot hT F.slot_tuple_hash (Uh F.slot_tuple_hash hT F.entry_tuple_hash ?_ (F.args_tuple_hash_1 _)));show wpAny _ _ (Builtin.Tuple.tupleItemsOf (.ref a) >>= _) _ _ s;refine Uf (wpAny_tupleItemsOf ho hd ?_);refine Uf ?_;rw[<-YY]
 refine Ul _
  (λrest (b:Array Int) s'=>∃done left,ks=done++left/\Paired (NIs P w s.heap) left rest/\b.toList=done.map (nkH P w)/\s'={ s with toks:=s.toks+oY done })
  _ ?_ ?_ _ _ ⟨[],ks,rfl,hi,rfl,rfl⟩
 ·rintro x rest b s' ⟨done,left,rfl,hl,hb,rfl⟩;cases hl with
  |@cons k _ ks' _ h1 hl'=>
   refine Uf (wV hu h1 ?_)
   first
    |exact Uw ⟨done++[k],ks',by simp,hl',by simp[hb],by simp[oY,YG]⟩
    |exact Uf (Uw (Uw ⟨done++[k],ks',by simp,hl',by simp[hb],by simp[oY,YG]⟩))
 ·rintro b s' ⟨done,left,rfl,hl,hb,rfl⟩;cases hl;rw[ZW] at h;show wpAny _ _ (retInt (Builtin.Tuple.tupleHashOf b.toList)) _ _ _;rw[hb];refine wpAny_ret_mkInt ?_;show wpAny _ _ (if (decide (-(2:Int) ^ 63<=Builtin.Tuple.tupleHashOf (done.map (nkH P w))) && decide (Builtin.Tuple.tupleHashOf (done.map (nkH P w)) < 2 ^ 63))=true then _ else _) Q E _;unfold wW reduceHash at h;by_cases hr:(decide (-(2:Int) ^ 63<=Builtin.Tuple.tupleHashOf (done.map (nkH P w))) && decide (Builtin.Tuple.tupleHashOf (done.map (nkH P w)) < 2 ^ 63))=true
  ·rw[if_pos hr];rw[if_pos hr] at h;exact Uw (by simpa[YG] using h)
  ·rw[if_neg hr];rw[if_neg hr] at h;exact Uf (UE (Uw (by simpa[YG] using h)))
theorem qO{α:Type}[DecidableEq α](x y:List α):((Zl (min x.length y.length)).all (λj=>decide (x[j]?=y[j]?)) && x.length == y.length)=decide (x=y):=by
 rw[YT,bAE,Yg,decide_eq_true_eq,beq_iff_eq];constructor
 ·rintro⟨h1,h2⟩;refine YJ λj=>?_;by_cases hj:j < x.length
  ·exact of_decide_eq_true (h1 j (Z1.mpr (by omega)))
  ·rw[Zs (by omega),Zs (by omega)]
 ·rintro rfl;exact⟨λj _=>decide_eq_true rfl,rfl⟩
theorem oZ{A:Around}{s:Shared}{x y:Key}{u v:Value}(hx:fV x u=true)(hy:fV y v=true):WZ A s u v (decide (x=y)):=by
 rcases aq hx with ⟨i,t,rfl,rfl⟩ |⟨a,t,rfl,rfl⟩
 ·rcases aq hy with ⟨j,r,rfl,rfl⟩ |⟨b,r,rfl,rfl⟩
  ·rw[show decide ((Sum.inl i:Key)=Sum.inl j)=(i == j) by simp[YM]];exact .int_int i t j r
  ·rw[wR];exact .int_str i t b r
 ·rcases aq hy with ⟨j,r,rfl,rfl⟩ |⟨b,r,rfl,rfl⟩
  ·rw[wU];exact .str_int a t j r
  ·rw[show decide ((Sum.inr a:Key)=Sum.inr b)=(a == b) by simp[YM]];exact .str_str a t b r
theorem jD{h:Heap}:∀ {ks:List Key} {vs:List Value},ItemsAre (aW P w) ks vs->∀ (j:Nat) v,vs[j]?=some v->∃k,ks[j]?=some k/\fV k v=true
 |_,_,.nil,j,v,e=>by simp at e
 |_,_,.cons h1 t,0,v,e=>by cases e;exact⟨_,rfl,h1⟩
 |_,_,.cons h1 t,j+1,v,e=>jD (h:=h) t j v (by simpa using e)
theorem wX{A:Around}{s:Shared}{x y:NK}{u v:Value}(hu:A.units < cLine)(hx:NIs P w s.heap x u)(hy:NIs P w s.heap y v):WZ A s u v (decide (x=y)):=by
 have tup:∀ {ks:List Key} {b:Addr},IsTupleKey (aW P w) s.heap ks b->∃its:Array Value,s.heap.IsTuple b its/\ItemsAre (aW P w) ks its.toList:=λ⟨o,its,n,ho,hc,hd,hi⟩=>⟨its,⟨o,ho,hc,n,hd⟩,hi⟩;cases x with
 |non=>
  cases hx;cases y with
  |non=>cases hy;exact .same _
  |one k=>
   rw[decide_eq_false (λz=>nomatch z)];rcases aq hy with ⟨i,t,rfl,rfl⟩ |⟨i,t,rfl,rfl⟩
   ·exact .none_int i t
   ·exact .none_str i t
  |tup ks=>
   obtain⟨b,rfl,hb⟩:=hy;obtain⟨its,h1,_⟩:=tup hb;rw[decide_eq_false (λz=>nomatch z)];exact .none_tuple h1 hu
 |one k=>
  cases y with
  |non=>
   cases hy;rw[decide_eq_false (λz=>nomatch z)];rcases aq hx with ⟨i,t,rfl,rfl⟩ |⟨i,t,rfl,rfl⟩
   ·exact .int_none i t
   ·exact .str_none i t
  |one k'=>
   rw[show decide (NK.one k=NK.one k')=decide (k=k') by simp];exact oZ hx hy
  |tup ks=>
   obtain⟨b,rfl,hb⟩:=hy;obtain⟨its,h1,_⟩:=tup hb;rw[decide_eq_false (λz=>nomatch z)];rcases aq hx with ⟨i,t,rfl,rfl⟩ |⟨i,t,rfl,rfl⟩
   ·exact .int_tuple i t h1 hu
   ·exact .str_tuple i t h1 hu
 |tup ks=>
  obtain⟨b,rfl,hb⟩:=hx;obtain⟨its,h1,i1⟩:=tup hb;cases y with
  |non=>cases hy;rw[decide_eq_false (λz=>nomatch z)];exact .tuple_none h1 hu
  |one k=>
   rw[decide_eq_false (λz=>nomatch z)];rcases aq hy with ⟨i,t,rfl,rfl⟩ |⟨i,t,rfl,rfl⟩
   ·exact .tuple_int i t h1 hu
   ·exact .tuple_str i t h1 hu
  |tup ks'=>
   obtain⟨c,rfl,hc⟩:=hy;obtain⟨its2,h2,i2⟩:=tup hc;by_cases e:b=c
   ·subst e;rw[hb.inj hc,decide_eq_true rfl];exact .same _
   ·refine .of_refs e ?_
    have z:=SeqAt.RcAt.tuples (e:=λj=>decide (ks[j]?=ks'[j]?)) h1 h2 hu λj j1 j2=>by
     obtain⟨k,e1,m1⟩:=jD (h:=s.heap) i1 j its[j] (by simp[j1]);obtain⟨k',e2,m2⟩:=jD (h:=s.heap) i2 j its2[j] (by simp[j2]);rw[e1,e2,show decide (some k=some k')=decide (k=k') by simp];exact oZ m1 m2
    have l1:ks.length=its.size:=i1.length.trans Zy;have l2:ks'.length=its2.size:=i2.length.trans Zy;rw[<-l1,<-l2,qO] at z;rw[show decide (NK.tup ks=NK.tup ks')=decide (ks=ks') by simp];exact z
theorem jE{h:Heap}:∀ {ks:List NK} {vs:List Value},Paired (NIs P w h) ks vs->∀ (j:Nat) v,vs[j]?=some v->∃k,ks[j]?=some k/\NIs P w h k v
 |_,_,.nil,j,v,e=>by simp at e
 |_,_,.cons h1 t,0,v,e=>by cases e;exact⟨_,rfl,h1⟩
 |_,_,.cons h1 t,j+1,v,e=>jE t j v (by simpa using e)
theorem AX{A:Around}{E:Value->Shared->Prop}{s:Shared}{x y:List NK}{a b:Addr}{Q:Bool->Shared->Prop}(hu:A.units+1 < cLine)(hx:cU P w s.heap x a)(hy:cU P w s.heap y b)(h:Q (decide (x=y)) s):wpAny (model P w) A (eqBool (.ref a) (.ref b)) Q E s:=by
 by_cases e:a=b
 ·subst e;rw[hx.inj hy,decide_eq_true rfl] at h;exact SeqAt.EqAt.same _ _ _ _ _ h
 ·obtain⟨o,its,n,ho,hc,hd,i1⟩:=hx;obtain⟨o2,its2,n2,ho2,hc2,hd2,i2⟩:=hy
  have z:=SeqAt.RcAt.tuples (A:=A) (e:=λj=>decide (x[j]?=y[j]?)) (show s.heap.IsTuple a its from ⟨o,ho,hc,n,hd⟩) (show s.heap.IsTuple b its2 from ⟨o2,ho2,hc2,n2,hd2⟩) (by omega) λj j1 j2=>by
   obtain⟨k,e1,m1⟩:=jE i1 j its[j] (by simp[j1]);obtain⟨k',e2,m2⟩:=jE i2 j its2[j] (by simp[j2]);rw[e1,e2,show decide (some k=some k')=decide (k=k') by simp];exact wX hu m1 m2
  have l1:x.length=its.size:=i1.length.trans Zy;have l2:y.length=its2.size:=i2.length.trans Zy;rw[<-l1,<-l2,qO] at z;exact SeqAt.EqAt.of_refs e z _ _ _ _ h
theorem uM{A:Around}{E:Value->Shared->Prop}{s:Shared}{x:NK}{v:Value}{Q:Bool->Shared->Prop}(hx:NIs P w s.heap x v)(h:Q true s):wpAny (model P w) A (VC 7 v) Q E s:=by
 cases x with
 |non=>cases hx;rw[VE _ rfl];exact Uw h
 |one k=>rw[VE _ ((aW P w).byValue k v (by exact hx))];exact Uw h
 |tup ks=>
  obtain⟨b,rfl,hk⟩:=hx;have hT:=hk.typeIs;obtain⟨o,items,n,ho,_,hd,hi⟩:=hk;unfold VC;refine Uf (UH hT F.slot_tuple_eq.lookup ?_);show wpAny _ _ (isInstance (.ref b) (.type "tuple") >>= _) _ _ s;refine Uf (wpAny_isInstance hT VJ ?_);simp only[YR,ZK,if_false];refine Uf (UF ho hd ?_);refine Uf ?_;show wpAny _ _ (forIn items _ _) _ _ s;rw[<-YY];refine Ul _ (λrest r s'=>r.1=none/\s'=s/\∀v ∈ rest,carriedByValue v=true) _ ?_ ?_ _ _ ⟨rfl,rfl,hi.byValue⟩
  ·rintro v rest r s' ⟨hr,rfl,hall⟩;rw[VE _ (hall v Zi)];refine Uf (Uw ?_);simp only[YR,ZK,if_false];exact Uw ⟨rfl,rfl,λu hu'=>hall u (Zg _ hu')⟩
  ·rintro⟨r1,r2⟩ s' ⟨hr,rfl,_⟩;simp only at hr;subst hr;exact Uw h
theorem qP{A:Around}{E:Value->Shared->Prop}{s:Shared}{ks:List NK}{a:Addr}{Q:Bool->Shared->Prop}(hk:cU P w s.heap ks a)(h:Q true s):wpAny (model P w) A (VC 8 (.ref a)) Q E s:=by
 have hT:=hk.typeIs;obtain⟨o,items,n,ho,_,hd,hi⟩:=hk;unfold VC;refine Uf (UH hT F.slot_tuple_eq.lookup ?_);show wpAny _ _ (isInstance (.ref a) (.type "tuple") >>= _) _ _ s;refine Uf (wpAny_isInstance hT VJ ?_);simp only[YR,ZK,if_false];refine Uf (UF ho hd ?_);refine Uf ?_;show wpAny _ _ (forIn items _ _) _ _ s;rw[<-YY];refine Ul _ (λrest r s'=>r.1=none/\s'=s/\∃left,Paired (NIs P w s.heap) left rest) _ ?_ ?_ _ _ ⟨rfl,rfl,ks,hi⟩
 ·rintro v rest r s' ⟨hr,rfl,left,hl⟩;cases hl with
  |cons h1 h2=>
   refine Uf (uM h1 ?_);simp only[YR,ZK,if_false];exact Uw ⟨rfl,rfl,_,h2⟩
 ·rintro⟨r1,r2⟩ s' ⟨hr,rfl,_⟩;simp only at hr;subst hr;exact Uw h
end
abbrev eN(P:Program)(w:World):HeapKind P w (List NK) where
 is:=cU P w
 hash:=wW P w
 draws:=λks=>oY ks+1
 room:=λA=>A.units+1 < cLine
 inj:=λhx hy=>hx.inj hy
 keeps:=λx ho hd hs=>x.keeps ho hd hs
 pyHash:=λhu hk h=>uL hu hk h
 eqBool:=λhu hx hy h=>AX hu hx hy h
 quiet:=λhk h=>qP hk h
inductive V where
 |non |bl (b:Bool) |int (i:Int) |str (x:Str) |byt (b:Array UInt8) |flt (b:UInt64) |ref (a:Addr) |ty (n:String)
 deriving DecidableEq
def aB:V->Value->Prop
 |.non,u=>u=Value.none
 |.bl b,u=>u=Value.bool b
 |.int i,u=>∃t,u=Value.int i t
 |.str x,u=>∃t,u=Value.str x t
 |.byt b,u=>∃t,u=Value.bytes b t
 |.flt b,u=>∃t,u=Value.float b t
 |.ref a,u=>u=Value.ref a
 |.ty n,u=>u=Value.type n
@[inline]abbrev aP:List V->List Value->Prop:=Paired aB
theorem aP.length{xs:List V}{us:List Value}(r:aP xs us):xs.length=us.length:=Paired.length r
theorem aP.get:∀ {xs:List V} {us:List Value} {i:Nat} {x:V},aP xs us->xs[i]?=some x->∃u,us[i]?=some u/\aB x u
 |_,_,_,_,.nil,e=>by simp at e
 |_,_,0,_,.cons r _,e=>by simp at e;subst e;exact⟨_,rfl,r⟩
 |_,_,i+1,x,.cons _ t,e=>by
  obtain⟨u,h1,h2⟩:=aP.get (i:=i) (x:=x) t (by simpa using e);exact⟨u,by simpa using h1,h2⟩
theorem aP.set{x:V}{u:Value}(r:aB x u):∀ {xs:List V} {us:List Value} (i:Nat),aP xs us->aP (xs.set i x) (us.set i u)
 |_,_,_,.nil=>.nil
 |_,_,0,.cons _ t=>.cons r t
 |_,_,i+1,.cons q t=>.cons q (aP.set r i t)
theorem aP.append:∀ {xs ys:List V} {us ws:List Value},aP xs us->aP ys ws->aP (xs++ys) (us++ws)
 |_,_,_,_,.nil,s=>s
 |_,_,_,_,.cons r t,s=>.cons r (aP.append t s)
theorem aP.take:∀ {xs:List V} {us:List Value} (n:Nat),aP xs us->aP (xs.take n) (us.take n)
 |_,_,0,_=>.nil
 |_,_,_+1,.nil=>.nil
 |_,_,n+1,.cons r t=>.cons r (aP.take n t)
theorem aP.drop:∀ {xs:List V} {us:List Value} (n:Nat),aP xs us->aP (xs.drop n) (us.drop n)
 |_,_,0,r=>r
 |_,_,_+1,.nil=>.nil
 |_,_,n+1,.cons _ t=>aP.drop n t
def qQ:Option V->Option Value->Prop
 |some v,some u=>aB v u
 |none,none=>True
 |_,_=>False
def KV{κ:Type}:List (κ × V)->List (κ × Value)->Prop:=Paired λ(p:κ × V) (q:κ × Value)=>p.1=q.1/\aB p.2 q.2
abbrev kV:Key->V
 |.inl i=>.int i
 |.inr x=>.str x
def m9(h:Heap)(a:Addr)(items:Array Value):Prop:=∃o,h.get? a=some o/\o.cls = .type "tuple"/\∃n,o.data = .seq items n/\o.dict=none
theorem m9.isTup(x:m9 h a items):IsTup h a items:=let ⟨o,e,c,n,d,_⟩:=x;⟨o,e,c,n,d⟩
theorem m9.lt(x:m9 h a items):a < h.objs.size:=x.isTup.lt
theorem m9.new(h:Heap)(items:Array Value):m9 (h.push { cls:=.type "tuple", data:=.seq items }) h.objs.size items:=⟨_,Zz _ rfl,rfl,_,rfl,rfl⟩
inductive HO where
  |lst (xs:List V)
  |tup (xs:List V)
  |dK (kvs:List (Key × V)) |dT (kvs:List (List NK × V))
  |set (S:Int->Bool) (n:Nat)
  |ins (C dx:Addr) (fs:List (Str × V))
  |own (x:Addr)
  |xd (fs:List (Str × V))
  |met (f x:Addr)
  |rng (lo hi:Int)
  |frz (o:Obj) (u:HO)
  |tbl (ps:Array Value)
  |ext (φ:Heap->Prop)
@[inline]abbrev Hp:=Addr->Option HO
abbrev upd(H:Hp)(a:Addr)(o:HO):Hp:=λb=>if b=a then some o else H b
theorem a8{H:Hp}{a:Addr}{o:HO}:upd H a o a=some o:=by unfold upd;rw[if_pos rfl]
theorem av{H:Hp}{a b:Addr}{o:HO}(h:b ≠ a):upd H a o b=H b:=by unfold upd;rw[if_neg h]
theorem lV{H:Hp}{a b:Addr}{o u:HO}(h:H a=some o)(h':H b=some u)(d:o ≠ u):a ≠ b:=by
 intro e;subst e;rw[h] at h';exact d (Option.some.inj h')
theorem aQ{H:Hp}{a b:Addr}{o:HO}(h:H a=some o)(h':H b=none):a ≠ b:=by
 intro e;subst e;rw[h] at h';cases h'
def uN(H:Hp):NK->V->Prop
 |.non,x=>x = .non
 |.one k,x=>x=kV k
 |.tup ks,x=>∃b,x = .ref b/\H b=some (.tup (ks.map kV))
def nc(H:Hp)(ks:List NK)(a:Addr):Prop:=∃xs,H a=some (.tup xs)/\Paired (uN H) ks xs
theorem uN.mono{H H':Hp}(ht:∀b xs,H b=some (.tup xs)->H' b=some (.tup xs)){k:NK}{x:V}(h:uN H k x):uN H' k x:=by
 cases k with
 |non=>exact h
 |one k=>exact h
 |tup ks=>obtain⟨b,e,q⟩:=h;exact⟨b,e,ht _ _ q⟩
theorem nc.mono{H H':Hp}{ks:List NK}{a:Addr}(h:nc H ks a)(ht:∀b xs,H b=some (.tup xs)->H' b=some (.tup xs)):nc H' ks a:=
 let ⟨xs,e,r⟩:=h;⟨xs,ht _ _ e,FZ (λ_ _ z=>z.mono ht) r⟩
section
variable (P:Program) (w:World)
def bg(H:Hp)(h:Heap)(a:Addr):HO->Prop
 |.lst xs=>xs.length<=sizeLine/\∃ (its:List Value) (n:Nat),aP xs its/\h.get? a=some { cls:=.type "list", data:=.seq its.toArray n }
 |.tup xs=>xs.length<=sizeLine/\∃its:List Value,aP xs its/\m9 h a its.toArray
 |.dK kvs=>kvs.length<=sizeLine/\(a == Ub)=false/\∃vs,KV kvs vs/\h.DictOf (aW P w) a vs
 |.dT kvs=>kvs.length<=sizeLine/\(a == Ub)=false/\∃xs:List (List NK × Addr × Value),
   Paired (λ(p:List NK × V) (q:List NK × Addr × Value)=>p.1=q.1/\nc H p.1 q.2.1/\aB p.2 q.2.2) kvs xs ∧
   ∃o es ep,h.get? a=some o/\o.ExactDict/\o.data = .dict es ep/\es.toList=xs.map (entryOfKey (eN P w))/\(xs.map (·.1)).Nodup
 |.set S n=>h.SetOf (intKind P w) a S n
 |.ins C dx fs=>H dx=some (.own a)/\fs.length<=1000/\dx ≠ a/\h.get? a=some (Vc C dx) ∧
   ∃mA,h.Ns1 dx mA/\(∀f,qQ (fs.lookup f) (mA f))/\PySem.Within mA (fs.map (·.1))
 |.own _=>∃o,h.get? a=some o
 |.xd fs=>∃mA,h.Ns1 a mA/\∀f,qQ (fs.lookup f) (mA f)
 |.rng lo hi=>∃t u v,h.get? a=some { cls:=.type "range", data:=.fields #[.int lo t,.int hi u,.int 1 v] }
 |.frz o u=>h.get? a=some o/\bg H h a u
 |.tbl ps=>h.get? a=some { cls:=.none,data:=.fields ps }
 |.met f x=>h.get? a=some (Vk (.ref f) (.ref x))
 |.ext φ=>φ h/\(∃o,h.get? a=some o)/\∀h1 h2:Heap,φ h1->(∀o,h1.get? a=some o->h2.get? a=some o)->φ h2
def HOk(H:Hp)(h:Heap):Prop:=∀a o,H a=some o->bg P w H h a o
end
section
variable {P:Program} {w:World} {H H':Hp} {h h':Heap} {a:Addr} {o:HO}
theorem bg.lt(x:bg P w H h a o):a < h.objs.size:=by
 cases o with
 |lst xs=>obtain⟨_,_,_,_,e⟩:=x;exact Zr e
 |tup xs=>obtain⟨_,_,_,p⟩:=x;exact p.lt
 |dK kvs=>obtain⟨_,_,_,_,o,_,_,e,_⟩:=x;exact Zr e
 |dT kvs=>obtain⟨_,_,_,_,o,_,_,e,_⟩:=x;exact Zr e
 |set S n=>obtain⟨o,_,_,_,e,_⟩:=x;exact Zr e
 |ins C dx fs=>obtain⟨_,_,_,e,_⟩:=x;exact Zr e
 |own y=>obtain⟨_,e⟩:=x;exact Zr e
 |xd fs=>obtain⟨_,⟨_,_,_,e,_⟩,_⟩:=x;exact Zr e
 |rng lo hi=>obtain⟨_,_,_,e⟩:=x;exact Zr e
 |frz ob u=>obtain⟨e,_⟩:=x;exact Zr e
 |tbl ps=>exact Zr (show h.get? a=some _ from x)
 |met f y=>exact Zr (show h.get? a=some _ from x)
 |ext φ=>obtain⟨_,⟨_,e⟩,_⟩:=x;exact Zr e
theorem Paired.mapP{α β:Type}{F G:α->β->Prop}:∀ {l₁:List α} {l₂:List β},Paired F l₁ l₂->(∀a b,F a b->G a b)->Paired G l₁ l₂
 |_,_,.nil,_=>.nil
 |_,_,.cons r t,f=>.cons (f _ _ r) (Paired.mapP t f)
theorem bg.stay(x:bg P w H h a o)(k:∀b u,(b=a\/H b=some (.own a))->h.get? b=some u->h'.get? b=some u)
  (ho:∀b,H b=some (.own a)->H' b=some (.own a)) (ht:∀b xs,H b=some (.tup xs)->H' b=some (.tup xs)):bg P w H' h' a o:=by
 induction o with
 |lst xs=>obtain⟨z,its,n,r,e⟩:=x;exact⟨z,its,n,r,k _ _ (.inl rfl) e⟩
 |tup xs=>obtain⟨z,its,r,ob,e,c⟩:=x;exact⟨z,its,r,ob,k _ _ (.inl rfl) e,c⟩
 |dK kvs=>obtain⟨z,y,vs,r,ob,es,ep,e,c⟩:=x;exact⟨z,y,vs,r,ob,es,ep,k _ _ (.inl rfl) e,c⟩
 |dT kvs=>
  obtain⟨z,y,xs,r,ob,es,ep,e,c⟩:=x;exact⟨z,y,xs,Paired.mapP r λp q z=>⟨z.1,z.2.1.mono ht,z.2.2⟩,ob,es,ep,k _ _ (.inl rfl) e,c⟩
 |set S n=>obtain⟨ob,es,ep,t,e,c⟩:=x;exact⟨ob,es,ep,t,k _ _ (.inl rfl) e,c⟩
 |ins C dx fs=>
  obtain⟨d,z,ne,e,mA,⟨od,es,ep,e2,c⟩,r⟩:=x;exact⟨ho _ d,z,ne,k _ _ (.inl rfl) e,mA,⟨od,es,ep,k _ _ (.inr d) e2,c⟩,r⟩
 |own y=>obtain⟨ob,e⟩:=x;exact⟨ob,k _ _ (.inl rfl) e⟩
 |xd fs=>obtain⟨mA,⟨od,es,ep,e,c⟩,r⟩:=x;exact⟨mA,⟨od,es,ep,k _ _ (.inl rfl) e,c⟩,r⟩
 |rng lo hi=>obtain⟨t,u,v,e⟩:=x;exact⟨t,u,v,k _ _ (.inl rfl) e⟩
 |frz ob u ih=>obtain⟨e,q⟩:=x;exact⟨k _ _ (.inl rfl) e,ih q⟩
 |tbl ps=>
  have e:h.get? a=some { cls:=.none,data:=.fields ps }:=x;show h'.get? a=some { cls:=.none,data:=.fields ps };exact k a _ (.inl rfl) e
 |met f y=>
  have e:h.get? a=some (Vk (.ref f) (.ref y)):=x;show h'.get? a=some (Vk (.ref f) (.ref y));exact k a _ (.inl rfl) e
 |ext φ=>obtain⟨p,⟨o,e⟩,st⟩:=x;exact⟨st _ _ p λo q=>k _ _ (.inl rfl) q,⟨o,k _ _ (.inl rfl) e⟩,st⟩
theorem HOk.lt(x:HOk P w H h)(e:H a=some o):a < h.objs.size:=(x a o e).lt
theorem HOk.fresh(x:HOk P w H h)(e:h.objs.size<=a):H a=none:=by
 cases q:H a with
 |none=>rfl
 |some u=>exact absurd (ZB (x.lt q) e) (ZN _)
theorem HOk.kept(x:HOk P w H h)(k:∀b u,h.get? b=some u->h'.get? b=some u):HOk P w H h':=λa o e=>
 (x a o e).stay (λb u _ q=>k b u q) (λ_ q=>q) λ_ _ q=>q
theorem HOk.laid(x:HOk P w H h)(k:∀b u,h.get? b=some u->h'.get? b=some u)(hp:h.objs.size<=a)(new:bg P w (upd H a o) h' a o):HOk P w (upd H a o) h':=λb u e=>by
 have hn:=x.fresh hp;by_cases hb:b=a
 ·subst hb;rw[a8] at e;cases e;exact new
 ·rw[av hb] at e;exact(x b u e).stay (λc v _ q=>k c v q) (λc q=>by rw[av (aQ q hn)];exact q) λc xs q=>by rw[av (aQ q hn)];exact q
end
def Rd(H:Hp)(a:Addr)(u:HO):Prop:=H a=some u\/∃o,H a=some (.frz o u)
theorem Rd.ok{P:Program}{w:World}{H:Hp}{h:Heap}{a:Addr}{u:HO}(r:Rd H a u)(x:HOk P w H h):bg P w H h a u:=by
 rcases r with r |⟨o,r⟩
 ·exact x a u r
 ·obtain⟨_,q⟩:=x a _ r;exact q
def Mut:Option HO->Prop
 |some (.lst _)=>True
 |some (.dK _)=>True
 |some (.dT _)=>True
 |some (.set _ _)=>True
 |some (.ins _ _ _)=>True
 |some (.ext _)=>True
 |_=>False
section
variable {P:Program} {w:World} {H:Hp} {h h':Heap} {x e:Addr} {o':HO}
theorem HOk.write(ok:HOk P w H h)(mu:Mut (H x))(he:e=x\/H e=some (.own x))(k:∀b u,b ≠ e->h.get? b=some u->h'.get? b=some u)(heo:∃u,h'.get? e=some u)
  (new:bg P w (upd H x o') h' x o'):HOk P w (upd H x o') h':=λb u q=>by
 have nown:∀c y,H c=some (.own y)->c ≠ x:=λc y r z=>by subst z;rw[r] at mu;exact mu
 have ntup:∀c xs,H c=some (.tup xs)->c ≠ x:=λc xs r z=>by subst z;rw[r] at mu;exact mu
 by_cases hb:b=x
 ·subst hb;rw[a8] at q;cases q;exact new
 ·rw[av hb] at q;by_cases hbe:b=e
  ·have q':H b=some (.own x):=by
    rcases he with z |z
    ·exact absurd (hbe.trans z) hb
    ·rw[hbe];exact z
   rw[q] at q';cases q';obtain⟨v,hv⟩:=heo;exact⟨v,by rw[hbe];exact hv⟩
  ·refine(ok b u q).stay (λc v hc r=>k c v ?_ r) (λc r=>by rw[av (nown c b r)];exact r) λc xs r=>by rw[av (ntup c xs r)];exact r
   rcases hc with rfl |hc
   ·exact hbe
   ·rintro rfl;rcases he with z |z
    ·exact nown c b hc z
    ·rw[hc] at z;cases z;exact hb rfl
end
structure Un(fs ex:List Addr)(H H':Hp)(h h':Heap):Prop where
 keep:∀b o,h.get? b=some o->H b=none->b ∉ fs->b ∉ ex->h'.get? b=some o
 slot:∀b o,h.get? b=some o->H b=none->b ∈ fs->b ∉ ex->∃sl,h'.get? b=some { o with slots:=sl }
 free:∀b o,h.get? b=some o->H b=none->b ∉ ex->H' b=none
 there:∀b o,h.get? b=some o->b ∉ ex->∃o',h'.get? b=some o'
 tups:∀b xs,H b=some (.tup xs)->H' b=some (.tup xs)
 frzs:∀b o u,H b=some (.frz o u)->H' b=some (.frz o u)
 tbls:∀b ps,H b=some (.tbl ps)->∃more,H' b=some (.tbl (ps++more))
section
variable {fs fs' ex ex':List Addr} {H H1 H2:Hp} {h h1 h2 h':Heap} {a x e:Addr} {o:HO}
theorem Un.any(u:Un fs ex H H1 h h1){b:Addr}{ob:Obj}(q:h.get? b=some ob)(n:H b=none)(hx:b ∉ ex):∃sl,h1.get? b=some { ob with slots:=sl }:=by
 by_cases hb:b ∈ fs
 ·exact u.slot b ob q n hb hx
 ·exact⟨ob.slots,u.keep b ob q n hb hx⟩
theorem Un.kept(k:∀b u,h.get? b=some u->h'.get? b=some u):Un fs ex H H h h':=
 ⟨λb ob q _ _ _=>k b ob q,λb ob q _ _ _=>⟨ob.slots,k b ob q⟩,λ_ _ _ n _=>n,λb ob q _=>⟨ob,k b ob q⟩,λ_ _ q=>q,λ_ _ _ q=>q,λ_ ps q=>⟨#[],by rw[q];simp⟩⟩
theorem Un.refl:Un fs ex H H h h:=Un.kept λ_ _ q=>q
theorem Un.laid(k:∀b u,h.get? b=some u->h'.get? b=some u)(hp:h.objs.size<=a)(hn:H a=none):Un fs ex H (upd H a o) h h' where
 keep:=λb u q _ _ _=>k b u q
 slot:=λb u q _ _ _=>⟨u.slots,k b u q⟩
 free:=λb u q n _=>by rw[av (ZF (ZB (Zr q) hp))];exact n
 there:=λb u q _=>⟨u,k b u q⟩
 tups:=λb xs q=>by rw[av (aQ q hn)];exact q
 frzs:=λb u xs q=>by rw[av (aQ q hn)];exact q
 tbls:=λb ps q=>⟨#[],by rw[av (aQ q hn),q];simp⟩
theorem Un.write(mu:Mut (H x))(he:e=x\/H e=some (.own x))(k:∀b u,b ≠ e->h.get? b=some u->h'.get? b=some u)(heo:∃u,h'.get? e=some u):Un fs ex H (upd H x o) h h':=by
 have hx:∀b,H b=none->b ≠ x:=λb n z=>by subst z;rw[n] at mu;exact mu
 have hb:∀b,H b=none->b ≠ e:=λb n z=>by
  subst z;rcases he with r |r
  ·exact hx b n r
  ·rw[n] at r;cases r
 have hm:∀b u,H b=some u->¬ Mut (some u)->b ≠ x:=λb u q nm z=>by subst z;rw[q] at mu;exact nm mu
 refine⟨λb u q n _ _=>k b u (hb b n) q,λb u q n _ _=>⟨u.slots,k b u (hb b n) q⟩,λb u q n _=>by rw[av (hx b n)];exact n,λb u q _=>?_,
  λb xs q=>by rw[av (hm b _ q λz=>z)];exact q,λb u xs q=>by rw[av (hm b _ q λz=>z)];exact q,λb ps q=>⟨#[],by rw[av (hm b _ q λz=>z),q];simp⟩⟩
 by_cases hbe:b=e
 ·subst hbe;exact heo
 ·exact⟨u,k b u hbe q⟩
end
abbrev trk(h:Heap)(H:Hp):List Addr:=(Zl h.objs.size).filter λa=>(H a).isSome
abbrev ng(h:Heap)(H:Hp):Heap:=PySem.W.hideAll h (trk h H)
theorem uO(h:Heap)(H:Hp):(ng h H).objs.size=h.objs.size:=PySem.W.hideAll_size _ _
theorem wY(e:h.get? b=some o)(n:H b=none):(ng h H).get? b=some o:=
 PySem.W.hideAll_get _ e λhm=>by
  have q:(H b).isSome=true:=(ZX.mp hm).2;rw[n] at q;simp at q
theorem AY(e:(ng h H).get? b=some o):h.get? b=some o/\H b=none:=by
 have e':h.get? b=some o:=PySem.W.of_hideAll (trk h H) e;refine⟨e',?_⟩;cases q:H b with
 |none=>rfl
 |some x=>
  have hm:b ∈ trk h H:=ZX.mpr ⟨Z1.mpr (Zr e'),by simp[q]⟩;have z:(ng h H).get? b=none:=PySem.W.hideAll_none (trk h H) hm;rw[z] at e;cases e
structure Mod(K:W7)(mg:Str->Option Value)(base:Heap):Prop where
 kin:K.In base
 glob:base.Ns VN mg
 blt:∃mb,base.Ns Vu mb/\∀x:Str,x ≠ "__name__"->mb x=Vt x
 nolimit:base.NoLimit
structure Cx where
 prog:Program
 w:World
 K:W7
 mg:Str->Option Value
 base:Heap
 A:Around
 N:List Str
 s₀:Shared
 H₀:Hp
 env:Env
 outer:List Env
 stack:List Env
 ex:List Addr
 fn:Str->Bool
 calm:Bool
 pn:List (Addr × Obj)
 xe:Value->Shared->Prop
abbrev frs(l:List Env):List Addr:=l.filterMap (·.frame)
noncomputable abbrev Cx.fs(X:Cx):List Addr:=frs X.outer
def Vis(sc:Scope)(x:Str):Prop:=sc.names.lookup x=some .local\/sc.names.lookup x=some .cell\/sc.names.lookup x=some .free
def Loc(sc:Scope)(x:Str):Prop:=sc.names.lookup x=some .local\/sc.names.lookup x=some .cell
def NX(env:Env)(h:Heap)(m:Str->Option Value)(x:Str)(u:Value):Prop:=
 (env.kindOf x=some .local/\m x=some u)\/((env.kindOf x=some .cell\/env.kindOf x=some .free)/\∃c,env.cells.lookup x=some c/\h.IsCell c (some u))
structure Cx.Ok(X:Cx):Prop where
 mod:Mod X.K X.mg X.base
 kind:X.env.scope.kind = .function
 glob:X.env.globals=VN
 blt:X.env.builtins=Vu
 above:X.s₀.heap.objs.size<=X.env.locals
 inj:∀x y c,X.env.cells.lookup x=some c->X.env.cells.lookup y=some c->x=y
 has:∀x,(X.env.kindOf x=some .cell\/X.env.kindOf x=some .free)->∃c,X.env.cells.lookup x=some c
 cab:∀x c,X.fn x=true->X.env.cells.lookup x=some c->X.s₀.heap.objs.size<=c
 hd:X.calm=true->X.A.handled=none
 frames:X.A.frames=some X.stack
 stk:X.stack=X.outer\/(X.stack=X.env::X.outer/\X.env.frame=some X.env.locals)
 exf:∀b ∈ X.ex,b ≠ X.env.locals/\∀x c,X.env.cells.lookup x=some c->c ≠ b
 bs:∀b o,X.base.get? b=some o->X.s₀.heap.get? b=some o/\X.H₀ b=none
 bsz:X.base.objs.size<=X.s₀.heap.objs.size
 noex:∀b o,X.base.get? b=some o->b ∉ X.ex
 exfs:∀b ∈ X.ex,b ∉ X.fs
 funs:X.s₀.heap.FunFrames X.base X.outer
 frf:∀b ∈ X.fs,X.H₀ b=none
structure Inv(X:Cx)(pins:List (Addr × Obj))(σ:List (Option V))(H:Hp)(s:Shared):Prop where
 ok:X.Ok
 os:s.os=X.s₀.os
 bare:AllBare s.gens
 base:Un X.fs X.ex X.H₀ H X.s₀.heap s.heap
 loc:∃m,s.heap.Ns X.env.locals m/\∀ (i:Nat) (x:Str) (v:V),X.N[i]?=some x->σ[i]?=some (some v)->Vis X.env.scope x->∃u,aB v u/\NX X.env s.heap m x u
 cell:∀x c,X.env.cells.lookup x=some c->∃v,s.heap.IsCell c v
 free:H X.env.locals=none
 freeC:∀x c,X.env.cells.lookup x=some c->H c=none
 pin:∀p ∈ X.pn++pins,s.heap.get? p.1=some p.2/\H p.1=none/\p.1 ≠ X.env.locals/\p.1 ∉ X.fs/\∀v,p.2.data ≠ .cell v
 hok:HOk X.prog X.w H s.heap
 len:σ.length=X.N.length
section
variable {X:Cx} {pins:List (Addr × Obj)} {σ:List (Option V)} {H H':Hp} {s:Shared} {h':Heap}
theorem Cx.Ok.nofr(ok:X.Ok)(e:X.base.get? b=some o):b ∉ X.fs:=λhb=>by
 have:=(ok.funs.mem hb).1;rw[e] at this;cases this
theorem Inv.bs(I:Inv X pins σ H s):∀b o,X.base.get? b=some o->s.heap.get? b=some o/\H b=none:=λb o e=>
 ⟨I.base.keep b o (I.ok.bs b o e).1 (I.ok.bs b o e).2 (I.ok.nofr e) (I.ok.noex b o e),I.base.free b o (I.ok.bs b o e).1 (I.ok.bs b o e).2 (I.ok.noex b o e)⟩
theorem Inv.bk(I:Inv X pins σ H s):∀b o,X.base.get? b=some o->s.heap.get? b=some o:=λb o e=>(I.bs b o e).1
theorem Inv.mod(I:Inv X pins σ H s):Mod X.K X.mg X.base:=I.ok.mod
theorem Inv.kIn(I:Inv X pins σ H s):X.K.In s.heap:=I.ok.mod.kin.keeps I.bk
theorem Inv.lt(I:Inv X pins σ H s):X.env.locals < s.heap.objs.size:=let ⟨_,hn,_⟩:=I.loc;hn.lt
theorem Inv.sz(I:Inv X pins σ H s):X.s₀.heap.objs.size<=s.heap.objs.size:=ZI I.ok.above (YU I.lt)
theorem Inv.nofs(I:Inv X pins σ H s)(h:s.heap.objs.size<=a):a ∉ X.fs:=λhb=>by
 obtain⟨_,o,ho,_⟩:=I.ok.funs.mem hb;exact absurd (ZB (Zr ho) (ZI I.sz h)) (ZN _)
theorem Inv.cne(I:Inv X pins σ H s):∀x c,X.env.cells.lookup x=some c->c ≠ X.env.locals:=λx c e z=>by
 obtain⟨v,o,ho,hd⟩:=I.cell x c e;obtain⟨m,⟨o',es,ep,ho',hd',_⟩,_⟩:=I.loc;rw[z,ho'] at ho;cases ho;rw[hd'] at hd;cases hd
theorem Inv.funs(I:Inv X pins σ H s):s.heap.FunFrames X.base X.outer:=by
 have all:∀ (l:List Env),(∀b ∈ frs l,b ∈ X.fs)->X.s₀.heap.FunFrames X.base l->s.heap.FunFrames X.base l:=by
  intro l
  induction l with
  |nil=>intro _ _;trivial
  |cons env r ih=>
   intro hs hl;obtain⟨hk,⟨L,o,hf,hn,ho,hd⟩,hr⟩:=hl;have hL:L ∈ X.fs:=hs L (by unfold frs;rw[YE,hf];exact Zi);obtain⟨sl,e⟩:=I.base.slot L o ho (I.ok.frf L hL) hL λz=>I.ok.exfs L z hL;exact⟨hk,⟨L,_,hf,hn,e,hd⟩,ih (λb hb=>hs b (by unfold frs;rw[YE,hf];exact Zg _ hb)) hr⟩
 exact all X.outer (λ_ hb=>hb) I.ok.funs
theorem Inv.stack(I:Inv X pins σ H s):s.heap.FunFrames X.base X.stack:=by
 rcases I.ok.stk with e |⟨e,hf⟩
 ·rw[e];exact I.funs
 ·rw[e];obtain⟨m,hn,_⟩:=I.loc;refine .cons (by rw[I.ok.kind];decide) hf hn ?_ I.funs;exact Heap.get?_none_of_le (ZI I.ok.bsz I.ok.above)
theorem Inv.stkSub(I:Inv X pins σ H s):∀b ∈ frs X.stack,b ∈ X.env.locals::X.fs:=λb hb=>by
 rcases I.ok.stk with e |⟨e,hf⟩
 ·rw[e] at hb;exact Zg _ hb
 ·rw[e] at hb;unfold frs at hb;rw[YE,hf] at hb;exact hb
theorem Inv.stkFree(I:Inv X pins σ H s):∀b ∈ frs X.stack,H b=none:=λb hb=>by
 rcases Zn.mp (I.stkSub b hb) with e |hb
 ·rw[e];exact I.free
 ·obtain⟨_,o,ho,_⟩:=I.ok.funs.mem hb;exact I.base.free b o ho (I.ok.frf b hb) λz=>I.ok.exfs b z hb
theorem Inv.step{g':Array GenState}{t':Nat}{d':Drawn}{ch:List Addr}(I:Inv X pins σ H s)
  (hch:∀b ∈ ch,(b ∈ X.ex\/X.s₀.heap.objs.size<=b)/\b ≠ X.env.locals/\(∀x c,X.env.cells.lookup x=some c->c ≠ b)/\∀p ∈ X.pn++pins,p.1 ≠ b)
  (keep:∀b o,b ≠ X.env.locals->b ∉ X.fs->b ∉ ch->s.heap.get? b=some o->H b=none->h'.get? b=some o)
  (slot:∀b o,b ≠ X.env.locals->b ∈ X.fs->b ∉ ch->s.heap.get? b=some o->H b=none->∃sl,h'.get? b=some { o with slots:=sl }) (free:∀b o,b ∉ ch->s.heap.get? b=some o->H b=none->H' b=none)
  (there:∀b o,b ∉ ch->s.heap.get? b=some o->∃o',h'.get? b=some o')
  (tups:∀b xs,H b=some (.tup xs)->H' b=some (.tup xs)) (frzs:∀b o u,H b=some (.frz o u)->H' b=some (.frz o u)) (tbls:∀b ps,H b=some (.tbl ps)->∃more,H' b=some (.tbl (ps++more)))
  (ns:∀m,s.heap.Ns X.env.locals m->h'.Ns X.env.locals m) (hok:HOk X.prog X.w H' h') (hg:AllBare g') :
  Inv X pins σ H' { s with heap:=h',gens:=g',drawn:=d',toks:=t' }:=by
 have neL:∀b o,X.s₀.heap.get? b=some o->b ≠ X.env.locals:=λb o e=>ZF (ZB (Zr e) I.ok.above)
 have neC:∀b o,X.s₀.heap.get? b=some o->b ∉ X.ex->b ∉ ch:=λb o e hx hb=>by
  rcases (hch b hb).1 with z |z
  ·exact hx z
  ·exact absurd (ZB (Zr e) z) (ZN _)
 have cellK:∀x c,X.env.cells.lookup x=some c->∀v,s.heap.IsCell c v->h'.IsCell c v:=λx c e v ⟨o,ho,hd⟩=>by
  have nch:c ∉ ch:=λz=>(hch c z).2.2.1 x c e rfl;by_cases hc:c ∈ X.fs
  ·obtain⟨sl,q⟩:=slot c o (I.cne x c e) hc nch ho (I.freeC x c e);exact⟨_,q,hd⟩
  ·exact⟨o,keep c o (I.cne x c e) hc nch ho (I.freeC x c e),hd⟩
 refine⟨I.ok,I.os,hg,⟨λb o e n hb hx=>?_,λb o e n hb hx=>?_,λb o e n hx=>?_,λb o e hx=>?_,λb xs e=>tups b xs (I.base.tups b xs e),λb o xs e=>frzs b o xs (I.base.frzs b o xs e),λb ps e=>?_⟩,?_,λx c e=>?_,?_,λx c e=>?_,λp hp=>?_,hok,I.len⟩
 ·exact keep b o (neL b o e) hb (neC b o e hx) (I.base.keep b o e n hb hx) (I.base.free b o e n hx)
 ·obtain⟨sl,e1⟩:=I.base.slot b o e n hb hx;obtain⟨sl',e2⟩:=slot b _ (neL b o e) hb (neC b o e hx) e1 (I.base.free b o e n hx);exact⟨sl',e2⟩
 ·obtain⟨o',e1⟩:=I.base.there b o e hx;exact free b o' (neC b o e hx) e1 (I.base.free b o e n hx)
 ·obtain⟨o',e1⟩:=I.base.there b o e hx;exact there b o' (neC b o e hx) e1
 ·obtain⟨m1,e1⟩:=I.base.tbls b ps e;obtain⟨m2,e2⟩:=tbls b _ e1;exact⟨m1++m2,by rw[e2,Array.append_assoc]⟩
 ·obtain⟨m,hn,hl⟩:=I.loc;refine⟨m,ns m hn,λi x v e1 e2 e3=>?_⟩;obtain⟨u,r,l⟩:=hl i x v e1 e2 e3;refine⟨u,r,?_⟩;rcases l with l |⟨k,c,e,z⟩
  ·exact .inl l
  ·exact .inr ⟨k,c,e,cellK x c e _ z⟩
 ·obtain⟨v,z⟩:=I.cell x c e;exact⟨v,cellK x c e v z⟩
 ·obtain⟨m,⟨o,_,_,ho,_⟩,_⟩:=I.loc;exact free _ o (λz=>(hch _ z).2.1 rfl) ho I.free
 ·obtain⟨v,o,ho,hd⟩:=I.cell x c e;exact free c o (λz=>(hch c z).2.2.1 x c e rfl) ho (I.freeC x c e)
 ·obtain⟨e,n,ne,nf,d⟩:=I.pin p hp;have nch:p.1 ∉ ch:=λz=>(hch p.1 z).2.2.2 p hp rfl;exact⟨keep p.1 p.2 ne nf nch e n,free p.1 p.2 nch e n,ne,nf,d⟩
theorem Inv.un{t':Nat}(I:Inv X pins σ H s)(u:Un X.fs [] H H' s.heap h')(hok:HOk X.prog X.w H' h'):Inv X pins σ H' { s with heap:=h',toks:=t' }:=by
 obtain⟨m,⟨o,es,ep,ho,r⟩,_⟩:=id I.loc;obtain⟨sl,hL⟩:=u.any ho I.free (by simp)
 exact I.step (g':=s.gens) (d':=s.drawn) (ch:=[]) (λ_ z=>nomatch z) (λb o _ hb _ e n=>u.keep b o e n hb (by simp)) (λb o _ hb _ e n=>u.slot b o e n hb (by simp)) (λb o _ e n=>u.free b o e n (by simp)) (λb o _ e=>u.there b o e (by simp)) u.tups u.frzs u.tbls (λm' hm=>by
  obtain⟨o',es',ep',ho',r'⟩:=hm;rw[ho] at ho';cases ho';exact⟨_,es',ep',hL,r'⟩) hok I.bare
theorem Inv.call{g':Array GenState}{t':Nat}{d':Drawn}{ch:List Addr}(I:Inv X pins σ H s)(u:Un (frs X.stack) ch H H' s.heap h')(hok:HOk X.prog X.w H' h')(hg:AllBare g')
  (hch:∀b ∈ ch,(b ∈ X.ex\/X.s₀.heap.objs.size<=b)/\b ≠ X.env.locals/\(∀x c,X.env.cells.lookup x=some c->c ≠ b)/\∀p ∈ X.pn++pins,p.1 ≠ b) :
  Inv X pins σ H' { s with heap:=h',gens:=g',drawn:=d',toks:=t' }:=by
 obtain⟨m,⟨o,es,ep,ho,r⟩,_⟩:=id I.loc;obtain⟨sl,hL⟩:=u.any ho I.free λz=>(hch _ z).2.1 rfl
 exact I.step (ch:=ch) hch (λb o hL hb hc e n=>u.keep b o e n (λz=>(Zn.mp (I.stkSub b z)).elim hL hb) hc) (λb o _ _ hc e n=>u.any e n hc) (λb o hc e n=>u.free b o e n hc) (λb o hc e=>u.there b o e hc) u.tups u.frzs u.tbls (λm' hm=>by
  obtain⟨o',es',ep',ho',r'⟩:=hm;rw[ho] at ho';cases ho';exact⟨_,es',ep',hL,r'⟩) hok hg
theorem Inv.turned{t':Nat}{it:Addr}(I:Inv X pins σ H s)(k:∀b o,b ≠ it->s.heap.get? b=some o->h'.get? b=some o)(hn:H it=none)(hL:it ≠ X.env.locals)
  (h1:it ∈ X.ex\/X.s₀.heap.objs.size<=it) (h2:∀x c,X.env.cells.lookup x=some c->c ≠ it) (h3:∀p ∈ X.pn++pins,p.1 ≠ it):Inv X pins σ H { s with heap:=h',toks:=t' }:=by
 have nit:∀b u,H b=some u->b ≠ it:=λb u e z=>by rw[z,hn] at e;cases e
 refine I.step (g':=s.gens) (d':=s.drawn) (ch:=[it]) (λb hb=>?_) (λb o _ _ hc e _=>k b o (λz=>hc (by simp[z])) e) (λb o _ _ hc e _=>⟨o.slots,k b o (λz=>hc (by simp[z])) e⟩) (λ_ _ _ _ n=>n)
  (λb o hc e=>⟨o,k b o (λz=>hc (by simp[z])) e⟩) (λ_ _ e=>e) (λ_ _ _ e=>e) (λb ps e=>⟨#[],by rw[e];simp⟩) (λm hm=>?_) (λb u e=>?_) I.bare
 ·have e:b=it:=by simpa using hb
  subst e;exact⟨h1,hL,h2,h3⟩
 ·obtain⟨o,es,ep,ho,r⟩:=hm;exact⟨o,es,ep,k _ o (Ne.symm hL) ho,r⟩
 ·refine(I.hok b u e).stay (λc v hc q=>k c v ?_ q) (λ_ q=>q) λ_ _ q=>q;rcases hc with z |z
  ·rw[z];exact nit b u e
  ·exact nit c _ z
theorem Inv.tok(I:Inv X pins σ H s)(t:Nat):Inv X pins σ H { s with toks:=t }:=I.un (h':=s.heap) (t':=t) Un.refl I.hok
theorem Inv.kept{t':Nat}(I:Inv X pins σ H s)(k:∀b u,s.heap.get? b=some u->h'.get? b=some u):Inv X pins σ H { s with heap:=h',toks:=t' }:=I.un (Un.kept k) (I.hok.kept k)
theorem Inv.laid{a:Addr}{o:HO}{t':Nat}(I:Inv X pins σ H s)(k:∀b u,s.heap.get? b=some u->h'.get? b=some u)(hp:s.heap.objs.size<=a)(new:bg X.prog X.w (upd H a o) h' a o) :
  Inv X pins σ (upd H a o) { s with heap:=h',toks:=t' }:=I.un (Un.laid k hp (I.hok.fresh hp)) (I.hok.laid k hp new)
theorem Inv.write{t':Nat}(I:Inv X pins σ H s)(mu:Mut (H x))(he:e=x\/H e=some (.own x))(k:∀b u,b ≠ e->s.heap.get? b=some u->h'.get? b=some u)(heo:∃u,h'.get? e=some u)
  (new:bg X.prog X.w (upd H x o) h' x o):Inv X pins σ (upd H x o) { s with heap:=h',toks:=t' }:=I.un (Un.write mu he k heo) (I.hok.write mu he k heo new)
theorem Inv.pins_of(I:Inv X pins σ H s)(h:∀p ∈ pins',s.heap.get? p.1=some p.2/\H p.1=none/\p.1 ≠ X.env.locals/\p.1 ∉ X.fs/\∀v,p.2.data ≠ .cell v):Inv X pins' σ H s:=
 ⟨I.ok,I.os,I.bare,I.base,I.loc,I.cell,I.free,I.freeC,λp hp=>(ZQ.mp hp).elim (λz=>I.pin p (Yk _ z)) (h p),I.hok,I.len⟩
theorem o0{N:List Str}(hN:N.Nodup){i j:Nat}{x:Str}(a:N[i]?=some x)(b:N[j]?=some x):i=j:=by
 obtain⟨h1,e1⟩:=Zb.mp a;obtain⟨h2,e2⟩:=Zb.mp b;exact(YN hN).mp (e1.trans e2.symm)
theorem lW{M:Model}{A:Around}{E:Value->Shared->Prop}{i:Nat}{x:Str}{v:V}{u:Value}{Q:Unit->Shared->Prop}(I:Inv X pins σ H s)(hN:X.N.Nodup)(hi:X.N[i]?=some x)(hx:Loc X.env.scope x)(r:aB v u)
  (h:∀s',Inv X pins (σ.set i (some v)) H s'->(∃a,Heap.SameBut a s.heap s'.heap/\(a=X.env.locals\/X.env.cells.lookup x=some a))->Q () s') (hf:X.fn x=true\/X.env.scope.names.lookup x=some .local:=by first |exact .inl rfl |exact .inr rfl |assumption):wpAny M A (storeName X.env x u) Q E s:=by
 obtain⟨m,hn,hl⟩:=id I.loc;have hcls:(X.env.scope.kind == .class || (X.env.scope.kind == .module && X.env.locals != X.env.globals))=false:=by rw[I.ok.kind];rfl
 have hiσ:i < σ.length:=by rw[I.len];exact(Zb.mp hi).1
 have cne:=I.cne
 have tracked:∀ {a:Addr} {h':Heap},(∃o,s.heap.get? a=some o/\H a=none)->Heap.SameBut a s.heap h'->HOk X.prog X.w H h':=λ{a h'} ha hs b ob e=>by
  obtain⟨_,_,hfree⟩:=ha;refine(I.hok b ob e).stay (λc w' hc q=>(hs.2 c ?_).trans q) (λ_ q=>q) λ_ _ q=>q;rintro rfl;rcases hc with rfl |hc
  ·rw[hfree] at e;cases e
  ·rw[hfree] at hc;cases hc
 rcases hx with hk |hk
 ·refine wpAny_storeName_local hk hn (λh' hn' hs=>?_) hcls;obtain⟨oL,_,_,hoL,_⟩:=id hn;refine h _ ⟨I.ok,I.os,I.bare,⟨λb o e n hb hx=>?_,λb o e n hb hx=>?_,I.base.free,λb o e hx=>?_,I.base.tups,I.base.frzs,I.base.tbls⟩,⟨_,hn',λj y v' e1 e2 e3=>?_⟩,λy c e=>?_,I.free,I.freeC,λp hp=>?_,tracked ⟨oL,hoL,I.free⟩ hs,by simpa using I.len⟩ ⟨_,hs,.inl rfl⟩
  ·exact(hs.2 b (ZF (ZB (Zr e) I.ok.above))).trans (I.base.keep b o e n hb hx)
  ·obtain⟨sl,e1⟩:=I.base.slot b o e n hb hx;exact⟨sl,(hs.2 b (ZF (ZB (Zr e) I.ok.above))).trans e1⟩
  ·obtain⟨o',e1⟩:=I.base.there b o e hx;exact⟨o',(hs.2 b (ZF (ZB (Zr e) I.ok.above))).trans e1⟩
  ·by_cases hj:j=i
   ·subst hj;rw[hi] at e1;cases e1;rw[ZR hiσ] at e2;cases e2;exact⟨u,r,.inl ⟨hk,by simp⟩⟩
   ·rw[Zq (Ne.symm hj)] at e2;obtain⟨u',r',q⟩:=hl j y v' e1 e2 e3;refine⟨u',r',?_⟩;rcases q with ⟨k,e⟩ |⟨k,c,e,z⟩
    ·refine .inl ⟨k,?_⟩;have:y ≠ x:=λe=>hj (o0 hN e1 (e ▸ hi));simp[this,e]
    ·exact .inr ⟨k,c,e,z.sameBut hs (cne y c e)⟩
  ·obtain⟨w',z⟩:=I.cell y c e;exact⟨w',z.sameBut hs (cne y c e)⟩
  ·obtain⟨e,n,ne,nf,d⟩:=I.pin p hp;exact⟨(hs.2 p.1 ne).trans e,n,ne,nf,d⟩
 ·have hfn:X.fn x=true:=by
   rcases hf with z |z
   ·exact z
   ·rw[z] at hk;cases hk
  obtain⟨c,hc⟩:=I.ok.has x (.inl hk);obtain⟨w',z⟩:=I.cell x c hc;refine wpAny_storeName_cell I.ok.kind hk hc z (λh' hc' hs=>?_);obtain⟨oc,hoc,hocd⟩:=id z;refine h { s with heap:=h' } ⟨I.ok,I.os,I.bare,⟨λb o e n hb hx=>?_,λb o e n hb hx=>?_,I.base.free,λb o e hx=>?_,I.base.tups,I.base.frzs,I.base.tbls⟩,⟨m,hn.sameBut hs (Ne.symm (cne x c hc)),λj y v' e1 e2 e3=>?_⟩,λy c' e=>?_,I.free,I.freeC,λp hp=>?_,tracked ⟨oc,hoc,I.freeC x c hc⟩ hs,by simpa using I.len⟩ ⟨c,hs,.inr hc⟩
  ·exact(hs.2 b (ZF (ZB (Zr e) (I.ok.cab x c hfn hc)))).trans (I.base.keep b o e n hb hx)
  ·obtain⟨sl,e1⟩:=I.base.slot b o e n hb hx;exact⟨sl,(hs.2 b (ZF (ZB (Zr e) (I.ok.cab x c hfn hc)))).trans e1⟩
  ·obtain⟨o',e1⟩:=I.base.there b o e hx;exact⟨o',(hs.2 b (ZF (ZB (Zr e) (I.ok.cab x c hfn hc)))).trans e1⟩
  ·by_cases hj:j=i
   ·subst hj;rw[hi] at e1;cases e1;rw[ZR hiσ] at e2;cases e2;exact⟨u,r,.inr ⟨.inl hk,c,hc,hc'⟩⟩
   ·rw[Zq (Ne.symm hj)] at e2;obtain⟨u',r',q⟩:=hl j y v' e1 e2 e3;refine⟨u',r',?_⟩;rcases q with q |⟨k,c',e,z'⟩
    ·exact .inl q
    ·refine .inr ⟨k,c',e,z'.sameBut hs ?_⟩;rintro rfl;exact hj (o0 hN e1 (I.ok.inj _ _ _ e hc ▸ hi))
  ·by_cases hcc:c'=c
   ·subst hcc;exact⟨_,hc'⟩
   ·obtain⟨w2,z2⟩:=I.cell y c' e;exact⟨w2,z2.sameBut hs hcc⟩
  ·obtain⟨e,n,ne,nf,d⟩:=I.pin p hp;refine⟨(hs.2 p.1 ?_).trans e,n,ne,nf,d⟩;intro q;rw[q,hoc] at e;have q':oc=p.2:=Option.some.inj e;exact d w' (by rw[<-q'];exact hocd)
theorem cy{i:Nat}(I:Inv X pins σ H s)(hN:X.N.Nodup)(hi:X.N[i]?=some x)(hx:Loc X.env.scope x)(r:aB v u)
  (h:∀s',Inv X pins (σ.set i (some v)) H s'->Q () s') (hf:X.fn x=true\/X.env.scope.names.lookup x=some .local:=by first |exact .inl rfl |exact .inr rfl |assumption):wpAny M A (storeName X.env x u) Q E s:=
 lW I hN hi hx r (λs' I' _=>h s' I') hf
theorem Inv.call'(I:Inv X pins σ H s)(ho:s'.os=s.os)(u:Un (frs X.stack) ch H H' s.heap s'.heap)(hok:HOk X.prog X.w H' s'.heap)(hg:AllBare s'.gens)
  (hch:∀b ∈ ch,(b ∈ X.ex\/X.s₀.heap.objs.size<=b)/\b ≠ X.env.locals/\(∀x c,X.env.cells.lookup x=some c->c ≠ b)/\∀p ∈ X.pn++pins,p.1 ≠ b):Inv X pins σ H' s':=by
 obtain⟨h',g',d',t',o'⟩:=s';have e:o'=s.os:=ho;subst e;exact I.call (g':=g') (t':=t') (d':=d') u hok hg hch
end
@[inline]abbrev XK:=Value->Option Addr->Hp->Prop
@[inline]abbrev St:=List (Option V)
@[inline]abbrev VK:=V->Hp->Prop
@[inline]abbrev TE:=St->Hp->VK->Prop
@[inline]abbrev TT:=St->Hp->(Bool->Hp->Prop)->Prop
@[inline]abbrev TA:=St->Hp->(List V->Hp->Prop)->Prop
structure Ends where
 nx:St->Hp->Prop
 rt:VK
 bk:St->Hp->Prop:=λ_ _=>False
 ct:St->Hp->Prop:=λ_ _=>False
@[inline]abbrev TS:=Ends->St->Hp->Prop
def EP(X:Cx)(pins:List (Addr × Obj))(σ:St)(Q:VK)(u:Value)(s':Shared):Prop:=∃v H',Inv X pins σ H' s'/\aB v u/\Q v H'
def TP(X:Cx)(pins:List (Addr × Obj))(σ:St)(Q:Bool->Hp->Prop)(b:Bool)(s':Shared):Prop:=∃H',Inv X pins σ H' s'/\Q b H'
def AP(X:Cx)(pins:List (Addr × Obj))(σ:St)(Q:List V->Hp->Prop)(us:List Value)(s':Shared):Prop:=∃vs H',Inv X pins σ H' s'/\aP vs us/\Q vs H'
def SP(X:Cx)(pins:List (Addr × Obj))(D:Ends)(f:Flow)(s':Shared):Prop:=
 match f with
 |.next=>∃σ' H',Inv X pins σ' H' s'/\D.nx σ' H'
 |.brk=>∃σ' H',Inv X pins σ' H' s'/\D.bk σ' H'
 |.cont=>∃σ' H',Inv X pins σ' H' s'/\D.ct σ' H'
 |.ret u=>∃v σ' H',Inv X pins σ' H' s'/\aB v u/\D.rt v H'
def PE(X:Cx)(e:Expr)(t:TE):Prop:=
 ∀ (pins:List (Addr × Obj)) (s:Shared) (σ:St) (H:Hp) (Q:VK),Inv X pins σ H s->t σ H Q->wpAny (model X.prog X.w) X.A (eval e X.env) (EP X pins σ Q) X.xe s
def PT(X:Cx)(e:Expr)(t:TT):Prop:=
 ∀ (pins:List (Addr × Obj)) (s:Shared) (σ:St) (H:Hp) (Q:Bool->Hp->Prop),Inv X pins σ H s->t σ H Q->wpAny (model X.prog X.w) X.A (isTrue e X.env (eval e X.env)) (TP X pins σ Q) X.xe s
def PW(X:Cx)(e:Expr)(t:TT):Prop:=
 ∀ (whole:Sem Value) (pins:List (Addr × Obj)) (s:Shared) (σ:St) (H:Hp) (Q:Bool->Hp->Prop),Inv X pins σ H s->t σ H Q->wpAny (model X.prog X.w) X.A (isTrue e X.env whole) (TP X pins σ Q) X.xe s
theorem PW.pt(h:PW X e t):PT X e t:=h _
def PA(X:Cx)(es:List Expr)(t:TA):Prop:=
 ∀ (pos:Pos) (pins:List (Addr × Obj)) (s:Shared) (σ:St) (H:Hp) (Q:List V->Hp->Prop),Inv X pins σ H s->t σ H Q->wpAny (model X.prog X.w) X.A (spliced (backTo pos (V6 es X.env))) (AP X pins σ Q) X.xe s
def PS(X:Cx)(st:Stmt)(t:TS):Prop:=
 ∀ (pins:List (Addr × Obj)) (s:Shared) (σ:St) (H:Hp) (D:Ends),Inv X pins σ H s->t D σ H->wpAny (model X.prog X.w) X.A (exec st X.env) (SP X pins D) X.xe s
def PSs(X:Cx)(st:List Stmt)(t:TS):Prop:=
 ∀ (pins:List (Addr × Obj)) (s:Shared) (σ:St) (H:Hp) (D:Ends),Inv X pins σ H s->t D σ H->wpAny (model X.prog X.w) X.A (execs st X.env) (SP X pins D) X.xe s
theorem thn{α:Type}{t:Sem α}{Q Q':α->Shared->Prop}{M:Model}{A:Around}{E:Value->Shared->Prop}{s:Shared}(h:wpAny M A t Q E s)(hQ:∀a s,Q a s->Q' a s):wpAny M A t Q' E s:=Us h hQ λ_ _ x=>x
section
variable {X:Cx}
def KP(i:Nat):TE:=λσ H Q=>∃v,σ[i]?=some (some v)/\Q v H
def tC(v:V):TE:=λ_ H Q=>Q v H
theorem F0{i:Nat}(hN:X.N[i]?=some x)(hv:Vis X.env.scope x)(hd:(x == ("__debug__" : Str))=false:=by decide)(hcd:(x == ("__classdict__" : Str))=false:=by decide):PE X (.Name x pos) (KP i):=by
 intro pins s σ H Q I h;obtain⟨v,e,h⟩:=h;obtain⟨m,hn,hl⟩:=I.loc;obtain⟨u,r,l⟩:=hl i x v hN e hv;have fin:EP X pins σ Q u s:=⟨v,H,I,r,h⟩;rcases l with ⟨hk,hm⟩ |⟨hk,c,hc,hcell⟩
 ·exact wpAny_Name (wpAny_loadName_local I.ok.kind hk hn hm fin) hd
 ·rcases hk with hk |hk
  ·exact wpAny_Name (wpAny_loadName_cell I.ok.kind hk hc hcell fin) hd
  ·exact wpAny_Name (wpAny_loadName_free I.ok.kind hk hc hcell fin hcd) hd
theorem nh{i j pos}:PE X (.Constant (.int i) j pos) (tC (.int i)):=λ_ _ _ H _ I h=>wpAny_Constant_int ⟨.int i,H,I.tok _,⟨_,rfl⟩,h⟩
theorem KQ{b j pos}:PE X (.Constant (.bool b) j pos) (tC (.bl b)):=λ_ _ _ H _ I h=>Constant_bool ⟨.bl b,H,I,rfl,h⟩
theorem wZ{j pos}:PE X (.Constant .none j pos) (tC .non):=λ_ _ _ H _ I h=>Constant_none ⟨.non,H,I,rfl,h⟩
theorem F1{x j pos}:PE X (.Constant (.str x) j pos) (tC (.str x)):=λ_ _ _ H _ I h=>Calls.Constant_str ⟨.str x,H,I.tok _,⟨_,rfl⟩,h⟩
def Gl(X:Cx)(x:Str):Prop:=X.env.kindOf x=some .globalImplicit
theorem sS(I:Inv X pins σ H s)(hg:Gl X x)(hm:X.mg x=some u)(h:Q u s)
  (hd:(x == ("__debug__" : Str))=false:=by decide):wpAny (model X.prog X.w) X.A (eval (.Name x pos) X.env) Q E s:=
 Wt I.ok.kind hg (Calls.loadGlobal_global (by rw[I.ok.glob];exact I.mod.glob.keeps I.bk) hm h) hd
theorem cV(I:Inv X pins σ H s)(hg:Gl X x)(hm:X.mg x=none)(hv:Vt x=some u)(h:Q u s)
  (hn:x ≠ "__name__" := by decide) (hd:(x == ("__debug__" : Str))=false:=by decide):wpAny (model X.prog X.w) X.A (eval (.Name x pos) X.env) Q E s:=by
 obtain⟨mb,h1,h2⟩:=I.mod.blt;exact Wt I.ok.kind hg (Calls.loadGlobal_builtin (by rw[I.ok.glob];exact I.mod.glob.keeps I.bk) hm (by rw[I.ok.blt];exact h1.keeps I.bk) ((h2 x hn).trans hv) h) hd
theorem AZ(hg:Gl X x)(hm:X.mg x=some u)(r:aB v u)(hd:(x == ("__debug__" : Str))=false:=by decide):PE X (.Name x pos) (tC v):=
 λ_ _ _ H _ I h=>sS I hg hm ⟨v,H,I,r,h⟩ hd
theorem gM(hg:Gl X x)(hm:X.mg x=none)(hv:Vt x=some u)(r:aB v u)(hn:x ≠ "__name__" := by decide)(hd:(x == ("__debug__" : Str))=false:=by decide):PE X (.Name x pos) (tC v):=
 λ_ _ _ H _ I h=>cV I hg hm hv ⟨v,H,I,r,h⟩ hn hd
variable {a b:Expr} {ta tb:TE} {pos:Pos}
variable {tA tB':TT} {rest:List Expr}
def KR(t u:TT):TT:=λσ H Q=>t σ H λc H1=>if c=true then u σ H1 Q else Q false H1
def tOr(t u:TT):TT:=λσ H Q=>t σ H λc H1=>if c=true then Q true H1 else u σ H1 Q
def KS(t:TT):TT:=λσ H Q=>t σ H λc H1=>Q (!c) H1
theorem A0(ha:PT X a tA):PW X (.BoolOp .And [a] pos) tA:=by
 intro wh pins s σ H Q I h;refine isTrue_and (thn (ha pins s σ H Q I h) λc s1 e=>?_);cases c with
 |true=>exact isTrue_and_nil e
 |false=>exact e
theorem F2(ha:PT X a tA):PW X (.BoolOp .Or [a] pos) tA:=by
 intro wh pins s σ H Q I h;refine isTrue_or (thn (ha pins s σ H Q I h) λc s1 e=>?_);cases c with
 |false=>exact isTrue_or_nil e
 |true=>exact e
theorem w4(ha:PT X a tA)(hb:PW X (.BoolOp .And (b::rest) pos) tB'):PW X (.BoolOp .And (a::b::rest) pos) (KR tA tB'):=by
 intro wh pins s σ H Q I h;refine isTrue_and (thn (ha pins s σ H _ I h) λc s1 ⟨H1,I1,q1⟩=>?_);cases c with
 |true=>exact hb wh pins s1 σ H1 Q I1 q1
 |false=>exact⟨H1,I1,q1⟩
theorem EL(ha:PT X a tA)(hb:PW X (.BoolOp .Or (b::rest) pos) tB'):PW X (.BoolOp .Or (a::b::rest) pos) (tOr tA tB'):=by
 intro wh pins s σ H Q I h;refine isTrue_or (thn (ha pins s σ H _ I h) λc s1 ⟨H1,I1,q1⟩=>?_);cases c with
 |true=>exact⟨H1,I1,q1⟩
 |false=>exact hb wh pins s1 σ H1 Q I1 q1
theorem F3(ha:PT X a tA):PT X (.UnaryOp .Not a pos) (KS tA):=by
 intro pins s σ H Q I h;exact isTrue_not (ha pins s σ H (λc H1=>Q (!c) H1) I h)
def EM(ta tb:TE):TE:=λσ H Q=>ta σ H λx H1=>∃c,x = .bl c/\if c=true then tb σ H1 Q else Q (.bl false) H1
def KU(ta tb:TE):TE:=λσ H Q=>ta σ H λx H1=>∃c,x = .bl c/\if c=true then Q (.bl true) H1 else tb σ H1 Q
def EN(ta:TE):TE:=λσ H Q=>ta σ H λx H1=>∃c,x = .bl c/\Q (.bl (!c)) H1
theorem w5{op}(h:PE X a t):PE X (.BoolOp op [a] pos) t:=λpins s σ H Q I hw=>BoolOp_one (h pins s σ H Q I hw)
theorem w6(ha:PE X a ta)(hb:PE X (.BoolOp .And (b::rest) pos) tb):PE X (.BoolOp .And (a::b::rest) pos) (EM ta tb):=by
 intro pins s σ H Q I h;refine BoolOp_and (thn (ha pins s σ H _ I h) λv s1 ⟨x,H1,I1,r1,q1⟩=>?_);obtain⟨c,rfl,q1⟩:=q1;cases r1;refine UJ ?_;cases c with
 |true=>exact hb pins s1 σ H1 Q I1 q1
 |false=>exact⟨.bl false,H1,I1,rfl,q1⟩
theorem EO(ha:PE X a ta)(hb:PE X (.BoolOp .Or (b::rest) pos) tb):PE X (.BoolOp .Or (a::b::rest) pos) (KU ta tb):=by
 intro pins s σ H Q I h;refine BoolOp_or (thn (ha pins s σ H _ I h) λv s1 ⟨x,H1,I1,r1,q1⟩=>?_);obtain⟨c,rfl,q1⟩:=q1;cases r1;refine UJ ?_;cases c with
 |false=>exact hb pins s1 σ H1 Q I1 q1
 |true=>exact⟨.bl true,H1,I1,rfl,q1⟩
theorem F4(ha:PE X a ta):PE X (.UnaryOp .Not a pos) (EN ta):=by
 intro pins s σ H Q I h;refine UnaryOp_ (thn (ha pins s σ H _ I h) λv s1 ⟨x,H1,I1,r1,q1⟩=>?_);obtain⟨c,rfl,q1⟩:=q1;cases r1;exact not_of (UJ ⟨.bl (!c),H1,I1,rfl,q1⟩)
def tIf(t:TT)(ta tb:TE):TE:=λσ H Q=>t σ H λc H1=>if c=true then ta σ H1 Q else tb σ H1 Q
theorem w8{c:Expr}(hc:PT X c tA)(ha:PE X a ta)(hb:PE X b tb):PE X (.IfExp c a b pos) (tIf tA ta tb):=by
 intro pins s σ H Q I h;refine wpAny_IfExp (thn (hc pins s σ H _ I h) λd s1 ⟨H1,I1,q1⟩=>?_);cases d with
 |true=>exact ha pins s1 σ H1 Q I1 q1
 |false=>exact hb pins s1 σ H1 Q I1 q1
end
def SqL(K:W7)(H:Hp)(a:Addr)(xs:List V):Prop:=
 Rd H a (.lst xs) ∨
  ∃ (o:Obj) (its:Array Value) (n:Nat),K.lookup a=some o/\o.cls = .type "list"/\o.dict=none/\o.data = .seq its n/\its.size<=sizeLine/\aP xs its.toList
def SqT(K:W7)(H:Hp)(a:Addr)(xs:List V):Prop:=
 Rd H a (.tup xs) ∨
  ∃ (o:Obj) (its:Array Value) (n:Nat),K.lookup a=some o/\o.cls = .type "tuple"/\o.data = .seq its n/\its.size<=sizeLine/\aP xs its.toList
abbrev NY:Value->Option V
 |.none=>some .non
 |.bool b=>some (.bl b)
 |.int i _=>some (.int i)
 |.str x _=>some (.str x)
 |.bytes b _=>some (.byt b)
 |.float b _=>some (.flt b)
 |.ref a=>some (.ref a)
 |.type n=>some (.ty n)
 |_=>none
theorem aB.abs(r:aB x u):NY u=some x:=by
 cases x with
 |non=>cases r;rfl
 |bl _=>cases r;rfl
 |int _=>obtain⟨t,rfl⟩:=r;rfl
 |str _=>obtain⟨t,rfl⟩:=r;rfl
 |byt _=>obtain⟨t,rfl⟩:=r;rfl
 |flt _=>obtain⟨t,rfl⟩:=r;rfl
 |ref _=>cases r;rfl
 |ty _=>cases r;rfl
theorem aB.inj{x y:V}{u:Value}(r:aB x u)(q:aB y u):x=y:=Option.some.inj (r.abs.symm.trans q.abs)
theorem aP.inj:∀ {xs ys:List V} {us:List Value},aP xs us->aP ys us->xs=ys
 |_,_,_,.nil,.nil=>rfl
 |_,_,_,.cons r t,.cons r' t'=>by rw[r.inj r',aP.inj t t']
section
variable {X:Cx} {pins:List (Addr × Obj)} {σ:St} {H:Hp} {s:Shared} {a:Addr} {xs ys:List V}
theorem SqL.of{K:W7}(h:H a=some (.lst xs)):SqL K H a xs:=.inl (.inl h)
theorem SqT.of{K:W7}(h:H a=some (.tup xs)):SqT K H a xs:=.inl (.inl h)
theorem Inv.list(I:Inv X pins σ H s)(h:SqL X.K H a xs):∃its:List Value,aP xs its/\PlainL s.heap a its.toArray/\xs.length<=sizeLine:=by
 rcases h with h |⟨o,its,n,hk,hc,hd,hs,hz,r⟩
 ·obtain⟨z,its,n,r,e⟩:=h.ok I.hok;exact⟨its,r,⟨_,n,e,rfl,rfl,rfl⟩,z⟩
 ·refine⟨its.toList,r,⟨o,n,I.kIn a o hk,hc,hd,by simpa using hs⟩,?_⟩;have e:=r.length;simp only[Zy] at e
  lia
theorem Inv.tuple(I:Inv X pins σ H s)(h:SqT X.K H a xs):∃its:List Value,aP xs its/\IsTup s.heap a its.toArray/\xs.length<=sizeLine:=by
 rcases h with h |⟨o,its,n,hk,hc,hs,hz,r⟩
 ·obtain⟨z,its,r,p⟩:=h.ok I.hok;exact⟨its,r,p.isTup,z⟩
 ·refine⟨its.toList,r,⟨o,I.kIn a o hk,hc,n,by simpa using hs⟩,?_⟩;have e:=r.length;simp only[Zy] at e
  lia
theorem Inv.list_inj(I:Inv X pins σ H s)(h:SqL X.K H a xs)(h':SqL X.K H a ys):xs=ys:=by
 obtain⟨its,r,⟨o,n,e,_,_,d⟩,_⟩:=I.list h;obtain⟨its',r',⟨o',n',e',_,_,d'⟩,_⟩:=I.list h';rw[e] at e';cases e';rw[d] at d';injection d' with d1 _;have:its=its':=by simpa using congrArg Array.toList d1
 subst this;exact r.inj r'
theorem Inv.tuple_inj(I:Inv X pins σ H s)(h:SqT X.K H a xs)(h':SqT X.K H a ys):xs=ys:=by
 obtain⟨its,r,⟨o,e,_,n,d⟩,_⟩:=I.tuple h;obtain⟨its',r',⟨o',e',_,n',d'⟩,_⟩:=I.tuple h';rw[e] at e';cases e';rw[d] at d';injection d' with d1 _;have:its=its':=by simpa using congrArg Array.toList d1
 subst this;exact r.inj r'
end
noncomputable abbrev Cx.wish(X:Cx)(E:Value->Shared->Prop):Cx:={ X with xe:=E }
noncomputable abbrev Cx.nox(X:Cx):Cx:=X.wish λ_ _=>False
theorem Cx.Ok.wish{X:Cx}(ok:X.Ok)(E:Value->Shared->Prop):(X.wish E).Ok:=
 ⟨ok.mod,ok.kind,ok.glob,ok.blt,ok.above,ok.inj,ok.has,ok.cab,ok.hd,ok.frames,ok.stk,ok.exf,ok.bs,ok.bsz,ok.noex,ok.exfs,ok.funs,ok.frf⟩
theorem Cx.Ok.unwish{X:Cx}{E:Value->Shared->Prop}(ok:(X.wish E).Ok):X.Ok:=
 ⟨ok.mod,ok.kind,ok.glob,ok.blt,ok.above,ok.inj,ok.has,ok.cab,ok.hd,ok.frames,ok.stk,ok.exf,ok.bs,ok.bsz,ok.noex,ok.exfs,ok.funs,ok.frf⟩
section
variable {X:Cx} {pins:List (Addr × Obj)} {σ:St} {H:Hp} {s:Shared} {E:Value->Shared->Prop}
theorem Inv.wish(I:Inv X pins σ H s)(E:Value->Shared->Prop):Inv (X.wish E) pins σ H s:=⟨I.ok.wish E,I.os,I.bare,I.base,I.loc,I.cell,I.free,I.freeC,I.pin,I.hok,I.len⟩
theorem Inv.unwish(I:Inv (X.wish E) pins σ H s):Inv X pins σ H s:=⟨I.ok.unwish,I.os,I.bare,I.base,I.loc,I.cell,I.free,I.freeC,I.pin,I.hok,I.len⟩
theorem SP.unwish{D:Ends}{f:Flow}{s':Shared}(h:SP (X.wish E) pins D f s'):SP X pins D f s':=by
 cases f with
 |next=>obtain⟨σ',H',I,q⟩:=h;exact⟨σ',H',I.unwish,q⟩
 |brk=>obtain⟨σ',H',I,q⟩:=h;exact⟨σ',H',I.unwish,q⟩
 |cont=>obtain⟨σ',H',I,q⟩:=h;exact⟨σ',H',I.unwish,q⟩
 |ret u=>obtain⟨v,σ',H',I,r,q⟩:=h;exact⟨v,σ',H',I.unwish,r,q⟩
theorem PSs.nox{st:List Stmt}{t:TS}(h:PSs X.nox st t):PSs X st t:=λpins s σ H D I hw=>
 Us (h pins s σ H D (I.wish _) hw) (λ_ _ q=>q.unwish) λ_ _ z=>False.elim z
end
section
variable {X:Cx} {st:Stmt} {rest:List Stmt} {t u:TS} {e:Expr} {te:TE} {pos:Pos}
def ER:TS:=λD σ H=>D.nx σ H
def KW(t u:TS):TS:=λD σ H=>t { D with nx:=u D } σ H
theorem A6:PSs X [] ER:=λ_ _ σ H _ I h=>wpAny_execs_nil ⟨σ,H,I,h⟩
theorem w9(h1:PS X st t)(h2:PSs X rest u):PSs X (st::rest) (KW t u):=by
 intro pins s σ H D I h;refine wpAny_execs_cons (thn (h1 pins s σ H { D with nx:=u D } I h) λf s1 q=>?_);cases f with
 |next=>
  obtain⟨σ',H',I',q⟩:=q;exact h2 pins s1 σ' H' D I' q
 |ret v=>exact q
 |brk=>exact q
 |cont=>exact q
def ES:TS:=λD σ H=>D.ct σ H
theorem o3:PS X (.Continue pos) ES:=λ_ _ σ H _ I h=>wpAny_Continue ⟨σ,H,I,h⟩
theorem Inv.quiet{pins:List (Addr × Obj)}{σ:St}{H:Hp}{s:Shared}(I:Inv X pins σ H s):interactive X.env=false:=by simp[interactive,I.ok.kind]
def ET(te:TE):TS:=λD σ H=>te σ H λ_ H1=>D.nx σ H1
theorem A7(he:PE X e te)(hs:V9 e none pos.line X.env=pure false:=by rfl):PS X (.Expr e pos) (ET te):=by
 intro pins s σ H D I h;exact wpAny_Expr_any (thn (he pins s σ H _ I h) λv s1 ⟨x,H1,I1,r1,q1⟩=>⟨σ,H1,I1,q1⟩) I.quiet hs
def KY(te:TE):TS:=λD σ H=>te σ H D.rt
theorem F5(he:PE X e te):PS X (.Return (some e) pos) (KY te):=by
 intro pins s σ H D I h;exact wpAny_Return_some (thn (he pins s σ H _ I h) λv s1 ⟨x,H1,I1,r1,q1⟩=>⟨x,σ,H1,I1,r1,q1⟩)
def KZ(c:TT)(t u:TS):TS:=λD σ H=>c σ H λb H1=>if b=true then t D σ H1 else u D σ H1
theorem K0{c:Expr}{a b:List Stmt}{tc:TT}(hc:PT X c tc)(ha:PSs X a t)(hb:PSs X b u):PS X (.If c a b pos) (KZ tc t u):=by
 intro pins s σ H D I h;refine wpAny_If (thn (hc pins s σ H _ I h) λd s1 ⟨H1,I1,q1⟩=>?_);cases d with
 |true=>exact ha pins s1 σ H1 D I1 q1
 |false=>exact hb pins s1 σ H1 D I1 q1
def F6:TS:=λ_ _ _=>False
theorem xa:PS X st F6:=λ_ _ _ _ _ _ h=>h.elim
end
@[inline]abbrev TG:=V->St->Hp->(St->Hp->Prop)->Prop
@[inline]abbrev TGs:=List V->St->Hp->(St->Hp->Prop)->Prop
def PG(X:Cx)(target:Expr)(t:TG):Prop:=
 ∀ (pins:List (Addr × Obj)) (s:Shared) (σ:St) (H:Hp) (v:V) (u:Value) (Q:St->Hp->Prop),Inv X pins σ H s->aB v u->t v σ H Q ->
  wpAny (model X.prog X.w) X.A (assign target X.env u) (λ_ s'=>∃σ' H',Inv X pins σ' H' s'/\Q σ' H') X.xe s
def PGs(X:Cx)(ts:List Expr)(t:TGs):Prop:=
 ∀ (pins:List (Addr × Obj)) (s:Shared) (σ:St) (H:Hp) (vs:List V) (us:List Value) (Q:St->Hp->Prop),Inv X pins σ H s->aP vs us->t vs σ H Q ->
  wpAny (model X.prog X.w) X.A (Vo ((Vn ts X.env).map (·.2)) us) (λ_ s'=>∃σ' H',Inv X pins σ' H' s'/\Q σ' H') X.xe s
@[inline]abbrev A8:=V->V->V->Hp->(Hp->Prop)->Prop
def F7(X:Cx)(t:A8):Prop:=
 ∀ (pins:List (Addr × Obj)) (s:Shared) (σ:St) (H:Hp) (o i v:V) (ov iv u:Value) (Q:Hp->Prop),Inv X pins σ H s->aB o ov->aB i iv->aB v u->t o i v H Q ->
  wpAny (model X.prog X.w) X.A (setItem ov iv u) (λ_ s'=>∃H',Inv X pins σ H' s'/\Q H') X.xe s
section
variable {X:Cx} {pos:Pos}
def o4(i:Nat):TG:=λv σ H Q=>Q (σ.set i (some v)) H
theorem A9{i:Nat}(hN:X.N.Nodup)(hi:X.N[i]?=some x)(hx:Loc X.env.scope x)(hf:X.fn x=true\/X.env.scope.names.lookup x=some .local:=by first |exact .inl rfl |exact .inr rfl |assumption):PG X (.Name x pos) (o4 i):=by
 intro pins s σ H v u Q I r h;exact wpAny_assign_Name (cy I hN hi hx r (λs' I'=>⟨_,H,I',h⟩) hf)
def K1:TGs:=λvs σ H Q=>vs=[]/\Q σ H
def EU(t:TG)(u:TGs):TGs:=λvs σ H Q=>∃v r,vs=v::r/\t v σ H λσ' H'=>u r σ' H' Q
theorem Ba:PGs X [] K1:=by
 intro pins s σ H vs us Q I r h;obtain⟨e,h⟩:=h;subst e;cases r;exact assignInOrder_nil ⟨σ,H,I,h⟩
theorem xc{e:Expr}{es:List Expr}{t:TG}{u:TGs}(h1:PG X e t)(h2:PGs X es u)
  (hs:(Vn (e::es) X.env).map (·.2)=assign e X.env::(Vn es X.env).map (·.2):=by rfl):PGs X (e::es) (EU t u):=by
 intro pins s σ H vs us Q I r h;obtain⟨v,vr,e1,h⟩:=h;subst e1;cases r with
 |cons r rr=>
  rw[hs];refine assignInOrder_cons (thn (h1 pins s σ H _ _ _ I r h) λ_ s1 ⟨σ1,H1,I1,q1⟩=>?_);exact h2 pins s1 σ1 H1 _ _ Q I1 rr q1
def K2(K:W7)(n:Nat)(t:TGs):TG:=λv σ H Q=>∃a xs,v = .ref a/\SqT K H a xs/\xs.length=n/\t xs σ H Q
theorem F8{k:Nat}{n:Nat}(hc:X.calm=true)(h:PGs X es t)
  (hn:(Vn es X.env).length=n:=by rfl) (hst:(Vn es X.env).findIdx? (·.1)=none:=by rfl):PG X (.Tuple es k pos) (K2 X.K n t):=by
 intro pins s σ H v u Q I r hw;obtain⟨a,xs,e1,hq,hl,hw⟩:=hw;subst e1;cases r;obtain⟨its,rv,ht,hz⟩:=I.tuple hq;refine assign_Tuple_tuple (I.ok.hd hc) ht (by simp[hn,<-hl,rv.length]) hst λh' hx=>?_;have I1:Inv X pins σ H { s with heap:=h' }:=I.kept (t':=s.toks) λb o e=>hx b o (ZF (Zr e)) e;exact h pins _ σ H xs _ Q I1 (by simpa using rv) hw
def K3(to ti:TE)(t:A8):TG:=λv σ H Q=>to σ H λo H1=>ti σ H1 λi H2=>t o i v H2 λH3=>Q σ H3
theorem F9{o i:Expr}{to ti:TE}{t:A8}(ho:PE X o to)(hi:PE X i ti)(hs:F7 X t)
  (ha:∀v,assign (.Subscript o i pos) X.env v=(do
   let ov <-holding [v] (eval o X.env)
   let iv <-holding [v,ov] (eval i X.env)
   standAt pos
   holding [v,ov,iv] (setItem ov iv v)
   release [v,ov,iv] []):=by intro _;rfl):PG X (.Subscript o i pos) (K3 to ti t):=by
 intro pins s σ H v u Q I r h;rw[ha];refine Uf (Uo (thn (ho pins s σ H _ I h) λov s1 ⟨x,H1,I1,r1,q1⟩=>?_));refine Uf (Uo (thn (hi pins s1 σ H1 _ I1 q1) λiv s2 ⟨y,H2,I2,r2,q2⟩=>?_));refine Uf (UI (Uf (Uo (thn (hs pins s2 σ H2 x y v ov iv u _ I2 r1 r2 r q2) λ_ s3 ⟨H3,I3,q3⟩=>?_))));exact wpAny_release ⟨σ,H3,I3,q3⟩
def xf(te:TE)(g:TG):TS:=λD σ H=>te σ H λx H1=>g x σ H1 D.nx
theorem xg{tg e:Expr}{te:TE}{g:TG}(he:PE X e te)(hg:PG X tg g)(hs:Ua [tg] e pos.line X.env=pure false:=by rfl)(hw:V8 [tg] e X.env=pure none:=by rfl)
  (h1:(Vn [tg] X.env).map (·.2)=[assign tg X.env]:=by rfl):PS X (.Assign [tg] e pos) (xf te g):=by
 intro pins s σ H D I h;refine wpAny_Assign_stores (thn (he pins s σ H _ I h) λv s1 ⟨x,H1,I1,r1,q1⟩=>?_) hs hw;rw[h1];exact thn (hg pins s1 σ H1 x v _ I1 r1 q1) λ_ s2 q=>q
theorem Ga{i:Nat}{x:Str}{e:Expr}{te:TE}{pos':Pos}(hN:X.N.Nodup)(hi:X.N[i]?=some x)(hx:Loc X.env.scope x)(he:PE X e te)(hs:V9 e (some (.Name x pos')) pos.line X.env=pure false:=by rfl)(hf:X.fn x=true\/X.env.scope.names.lookup x=some .local:=by first |exact .inl rfl |exact .inr rfl |assumption) :
  PS X (.Assign [.Name x pos'] e pos) (xf te (o4 i)):=by
 intro pins s σ H D I h;refine wpAny_Assign_Name (thn (he pins s σ H _ I h) λv s1 ⟨y,H1,I1,r1,q1⟩=>?_) hs;exact cy I1 hN hi hx r1 (λs2 I2=>⟨_,H1,I2,q1⟩) hf
def K4(i j:Nat)(ta:TA):TS:=λD σ H=>ta σ H λvs H1=>∃v w,vs=[v,w]/\D.nx ((σ.set i (some v)).set j (some w)) H1
theorem Gb{i j:Nat}{x y:Str}{a b:Expr}{ta:TA}{px py pt:Pos}{kt k2 pt2}(hc:X.calm=true)(hN:X.N.Nodup)(hi:X.N[i]?=some x)(hj:X.N[j]?=some y)(hij:i ≠ j)
  (hx:X.env.scope.names.lookup x=some .local) (hy:X.env.scope.names.lookup y=some .local) (ha:PA X [a,b] ta)
  (hw:V8 [.Tuple [.Name x px,.Name y py] kt pt] (.Tuple [a,b] k2 pt2) X.env=pure (some [x,y]))
  (hs:Ua [.Tuple [.Name x px,.Name y py] kt pt] (.Tuple [a,b] k2 pt2) pos.line X.env=pure false:=by rfl) :
  PS X (.Assign [.Tuple [.Name x px,.Name y py] kt pt] (.Tuple [a,b] k2 pt2) pos) (K4 i j ta):=by
 intro pins s σ H D I h;rw[exec_Assign_arm];refine Uf (UI ?_);rw[hs];refine Uf (Uw ?_);rw[if_neg (by decide)];refine Uf (Tuple_ (thn (ha _ pins s σ H _ I h) λus s1 ⟨vs,H1,I1,r1,q1⟩=>?_));obtain⟨v,w,e1,q1⟩:=q1;subst e1
 obtain⟨u1,u2,rfl,rv,rw'⟩:∃u1 u2,us=[u1,u2]/\aB v u1/\aB w u2:=by
  cases r1 with
  |cons p q=>
   cases q with
   |cons p' q'=>
    cases q';exact⟨_,_,rfl,p,p'⟩
 refine Ut ?_ (by show 2<=sizeLine;decide);have I2:Inv X pins σ H1 { s1 with heap:=s1.heap.push { cls:=.type "tuple", data:=.seq [u1,u2].toArray } }:=I1.kept (t':=s1.toks) λb o e=>Zc _ e;rw[hw];refine Uf (Uw ?_);show wpAny (model X.prog X.w) X.A (do rule "assign.swapped-stores"; let items <-unpackItems (.ref s1.heap.objs.size) 2 none;Vo [λv=>Vs X.env y v,λv=>Vs X.env x v] items.reverse;pure Flow.next) _ _ _;refine Uf (UE (Uf (unpackItems_tuple (items:=#[u1,u2]) (I.ok.hd hc) (IsTup.new s1.heap _) λh' hx'=>?_)));have I3:=I2.kept (h':=h') (t':=s1.toks) λb o e=>hx' b o (ZF (Zr e)) e;show wpAny _ _ (Vo [λv=>Vs X.env y v,λv=>Vs X.env x v] [u2,u1] >>= λ_=>pure Flow.next) _ _ _;refine Uf (assignInOrder_cons (Ug (cy I3 hN hj (.inl hy) rw' (λs2 I4=>?_) (.inr hy))));refine assignInOrder_cons (Ug (cy I4 hN hi (.inl hx) rv (λs3 I5=>assignInOrder_nil (Uw ?_)) (.inr hx)));rw[Y7 _ _ (Ne.symm hij)] at I5;exact⟨_,H1,I5,q1⟩
end
structure It where
 go:Nat->Hp->Prop
 yld:Nat->Hp->V->Hp->Prop
 stop:Nat->Hp->Prop
def fQ(X:Cx)(pins:List (Addr × Obj))(H:Hp)(b:Addr):Prop:=
 H b=none/\b ≠ X.env.locals/\b ∉ X.fs/\(b ∈ X.ex\/X.s₀.heap.objs.size<=b)/\(∀x c,X.env.cells.lookup x=some c->c ≠ b)/\∀p ∈ X.pn++pins,p.1 ≠ b
theorem Inv.fpOk(I:Inv X pins σ H s)(hb:s.heap.objs.size<=b)(hn:H' b=none):fQ X pins H' b:=by
 refine⟨hn,XG (ZB I.lt hb),I.nofs hb,.inr (ZI I.sz hb),λx c e z=>?_,λp hp z=>?_⟩
 ·obtain⟨v,q⟩:=I.cell x c e;exact absurd (ZB q.lt (by rw[z];exact hb)) (ZN _)
 ·exact absurd (ZB (Zr (I.pin p hp).1) (by rw[z];exact hb)) (ZN _)
structure Turn(P:Program)(w:World)(K:W7)(tg:Expr)(J:It)(fp:List Addr)(it:Addr)(tn:Nat->Heap->Prop):Prop where
 mem:it ∈ fp
 obj:∀i h,tn i h->∀b ∈ fp,∃o,h.get? b=some o/\∀v,o.data ≠ .cell v
 keep:∀i h h',tn i h->(∀b ∈ fp,∀o,h.get? b=some o->h'.get? b=some o)->tn i h'
 item:∀ (X:Cx),X.prog=P->X.w=w->X.K=K->X.calm=true->∀ (i:Nat) (pins:List (Addr × Obj)) (s:Shared) (σ:St) (H:Hp) (E:Value->Shared->Prop),Inv X pins σ H s->(∀b ∈ fp,fQ X pins H b)->tn i s.heap->J.go i H ->
  wpAny (model P w) X.A (pyNext (.ref it)) (λr s1=>∃u,r=some u ∧
   wpAny (model P w) X.A (VM tg (.ref it) u) (λ_ s2=>∃x H',Inv X pins σ H' s2/\aB x u/\J.yld i H x H'/\tn (i+1) s2.heap/\∀b ∈ fp,H' b=none) E s1) E s
 done:∀ (X:Cx),X.prog=P->X.w=w->X.K=K->X.calm=true->∀ (i:Nat) (pins:List (Addr × Obj)) (s:Shared) (σ:St) (H:Hp) (E:Value->Shared->Prop),Inv X pins σ H s->(∀b ∈ fp,fQ X pins H b)->tn i s.heap->J.stop i H ->
  wpAny (model P w) X.A (pyNext (.ref it)) (λr s1=>r=none/\Inv X pins σ H s1) E s
 self:∀ (A:Around) (i:Nat) (s:Shared) (Q:Value->Shared->Prop) (E:Value->Shared->Prop),tn i s.heap->Q (.ref it) s->wpAny (model P w) A (pyIter (.ref it)) Q E s
@[inline]abbrev TI:=St->Hp->(It->Hp->Prop)->Prop
def PIE(X:Cx)(pins:List (Addr × Obj))(σ:St)(tg:Expr)(R:It->Hp->Prop)(itv:Value)(s2:Shared):Prop:=
 ∃ (it:Addr) (fp:List Addr) (tn:Nat->Heap->Prop) (J:It) (H':Hp),itv = .ref it/\Inv X pins σ H' s2/\Turn X.prog X.w X.K tg J fp it tn/\tn 0 s2.heap/\(∀b ∈ fp,fQ X pins H' b)/\R J H'
def PI(X:Cx)(tg iter:Expr)(wi:TI):Prop:=
 ∀ (pins:List (Addr × Obj)) (s:Shared) (σ:St) (H:Hp) (R:It->Hp->Prop),Inv X pins σ H s->wi σ H R ->
  wpAny (model X.prog X.w) X.A (eval iter X.env) (λv s1=>wpAny (model X.prog X.w) X.A (pyIter v) (PIE X pins σ tg R) X.xe s1) X.xe s
theorem sU(ho:s.heap.get? it=some o)(hc:o.cls = .type n)(hd:o.data = .fields vs)
  (hn:["enumerate", "zip", "dict_itemiterator", "dict_reverseitemiterator", "odict_iterator", "itertools.zip_longest", "itertools.pairwise"].contains n=false) (hQ:Q () s):wpAny M A (VM tg (.ref it) u) Q E s:=by
 unfold VM
 cases tg <;> first
  |exact Uw hQ
  | (cases u <;> first
    |exact Uw hQ
    | (refine Uf (wpAny_load ho ?_)
       rw[hc,hd];show wpAny M A (if (["enumerate", "zip", "dict_itemiterator", "dict_reverseitemiterator", "odict_iterator", "itertools.zip_longest", "itertools.pairwise"].contains n && vs[0]? == some (rawInt _))=true then _ else _) Q E s;rw[if_neg (by intro h;rw[hn,YZ] at h;cases h)];exact Uw hQ))
abbrev Itl(K:W7)(a:Addr):It:=
 ⟨λi H=>∃xs x,SqL K H a xs/\xs[i]?=some x,λi H x H'=>H'=H/\∀xs,SqL K H a xs->xs[i]?=some x,λi H=>∃xs,SqL K H a xs/\xs.length<=i⟩
abbrev Itt(K:W7)(a:Addr):It:=
 ⟨λi H=>∃xs x,SqT K H a xs/\xs[i]?=some x,λi H x H'=>H'=H/\∀xs,SqT K H a xs->xs[i]?=some x,λi H=>∃xs,SqT K H a xs/\xs.length<=i⟩
abbrev Itr(lo:Int)(n:Nat):It:=⟨λi _=>i < n,λi H x H'=>H'=H/\x = .int (lo+i),λi _=>n<=i⟩
theorem uQ{P:Program}{w:World}{K:W7}{tg:Expr}(a it:Addr):Turn P w K tg (Itl K a) [it] it (λi h=>h.IsListIter it a i) where
 mem:=by simp
 obj:=λi h st b hb=>by
  have e:b=it:=by simpa using hb
  subst e;obtain⟨o,e,c,d⟩:=st;exact⟨o,e,λv z=>by rw[d] at z;cases z⟩
 keep:=λi h h' st k=>st.at λo e=>k it (by simp) o e
 item:=by
  intro X hP hw hK hc i pins s σ H E I hf st hg;subst hP hw hK;obtain⟨xs,x,hq,hx⟩:=hg;obtain⟨its,rv,p,hz⟩:=I.list hq;obtain⟨u,hu,ru⟩:=rv.get hx;obtain⟨f0,f1,f2,f3,f4,f5⟩:=hf it (by simp);refine wpAny_pyNext_list_item st p.isList (x:=u) (by simpa using hu) λh' st' sb=>?_;have I1:Inv X pins σ H { s with heap:=h' }:=I.turned (t':=s.toks) (λb o hb e=>(sb.2 b hb).trans e) f0 f1 f3 f4 f5;obtain⟨o,e,c,d⟩:=id st';exact⟨u,rfl,sU (s:={ s with heap:=h' }) e c d (by decide) ⟨x,H,I1,ru,⟨rfl,λys hy=>by rw[I.list_inj hy hq];exact hx⟩,st',λb hb=>(hf b hb).1⟩⟩
 done:=by
  intro X hP hw hK hc i pins s σ H E I hf st hg;subst hP hw hK;obtain⟨xs,hq,hx⟩:=hg;obtain⟨its,rv,p,hz⟩:=I.list hq;obtain⟨f0,f1,f2,f3,f4,f5⟩:=hf it (by simp);have hl:=rv.length;exact wpAny_pyNext_list_end (I.ok.hd hc) st p.isList (by simp;lia) λh' eb=>⟨rfl,I.turned (t':=s.toks) (λb o hb e=>eb b o hb e) f0 f1 f3 f4 f5⟩
 self:=λ_ _ _ _ _ st h=>wpAny_pyIter_listiter st h
theorem qR{P:Program}{w:World}{K:W7}{tg:Expr}(a it:Addr):Turn P w K tg (Itt K a) [it] it (λi h=>h.IsTupleIter it a i) where
 mem:=by simp
 obj:=λi h st b hb=>by
  have e:b=it:=by simpa using hb
  subst e;obtain⟨o,e,c,d⟩:=st;exact⟨o,e,λv z=>by rw[d] at z;cases z⟩
 keep:=λi h h' st k=>st.at λo e=>k it (by simp) o e
 item:=by
  intro X hP hw hK hc i pins s σ H E I hf st hg;subst hP hw hK;obtain⟨xs,x,hq,hx⟩:=hg;obtain⟨its,rv,p,hz⟩:=I.tuple hq;obtain⟨u,hu,ru⟩:=rv.get hx;obtain⟨f0,f1,f2,f3,f4,f5⟩:=hf it (by simp);refine wpAny_pyNext_tuple_item st (show s.heap.IsTuple a its.toArray from p) (x:=u) (by simpa using hu) λh' st' sb=>?_;have I1:Inv X pins σ H { s with heap:=h' }:=I.turned (t':=s.toks) (λb o hb e=>(sb.2 b hb).trans e) f0 f1 f3 f4 f5;obtain⟨o,e,c,d⟩:=id st';exact⟨u,rfl,sU (s:={ s with heap:=h' }) e c d (by decide) ⟨x,H,I1,ru,⟨rfl,λys hy=>by rw[I.tuple_inj hy hq];exact hx⟩,st',λb hb=>(hf b hb).1⟩⟩
 done:=by
  intro X hP hw hK hc i pins s σ H E I hf st hg;subst hP hw hK;obtain⟨xs,hq,hx⟩:=hg;obtain⟨its,rv,p,hz⟩:=I.tuple hq;obtain⟨f0,f1,f2,f3,f4,f5⟩:=hf it (by simp);have hl:=rv.length;exact wpAny_pyNext_tuple_end (I.ok.hd hc) st (show s.heap.IsTuple a its.toArray from p) (by simp;lia) λh' eb=>⟨rfl,I.turned (t':=s.toks) (λb o hb e=>eb b o hb e) f0 f1 f3 f4 f5⟩
 self:=λ_ _ _ _ _ st h=>wpAny_pyIter_tupleiter st h
theorem qS{P:Program}{w:World}{K:W7}{tg:Expr}(it:Addr)(lo:Int)(n:Nat):Turn P w K tg (Itr lo n) [it] it (λi h=>WQ h it (lo+(i:Nat) * 1) ((n:Int) - (i:Nat)) 1) where
 mem:=by simp
 obj:=λi h st b hb=>by
  have e:b=it:=by simpa using hb
  subst e
  exact⟨_,st,λv z=>by
   have z':Data.fields _=Data.cell v:=z;cases z'⟩
 keep:=λi h h' st k=>k it (by simp) _ st
 item:=by
  intro X hP hw hK hc i pins s σ H E I hf st hg;subst hP hw hK;obtain⟨f0,f1,f2,f3,f4,f5⟩:=hf it (by simp);have W:=Walks.range (prog:=X.prog) (w:=X.w) (I.ok.hd hc) it lo 1 n;refine W.item i s _ _ hg st λv h' tk hv st' kk=>?_;obtain⟨t,rfl⟩:=hv;have I1:Inv X pins σ H { s with heap:=h',toks:=tk }:=I.turned (λb o hb e=>kk b o (by simpa using hb) e) f0 f1 f3 f4 f5;refine⟨_,rfl,sU (s:={ s with heap:=h',toks:=tk }) (n := "range_iterator") st' rfl rfl (by decide) ⟨.int (lo+i),H,I1,⟨t,?_⟩,⟨rfl,rfl⟩,st',λb hb=>(hf b hb).1⟩⟩;rw[Int.mul_one]
 done:=by
  intro X hP hw hK hc i pins s σ H E I hf st hg;subst hP hw hK;obtain⟨f0,f1,f2,f3,f4,f5⟩:=hf it (by simp);exact UD (I.ok.hd hc) st (by have:n<=i:=hg;lia) λh' eb=>⟨rfl,I.turned (t':=s.toks) (λb o hb e=>eb b o hb e) f0 f1 f3 f4 f5⟩
 self:=λ_ _ _ _ _ st h=>Uz st h
section
variable {X:Cx} {tg:Expr}
def xh(K:W7)(tl:TE):TI:=λσ H R=>tl σ H λx H1=>∃a,x = .ref a/\(∃xs,SqL K H1 a xs)/\R (Itl K a) H1
def K5(K:W7)(tl:TE):TI:=λσ H R=>tl σ H λx H1=>∃a,x = .ref a/\(∃xs,SqT K H1 a xs)/\R (Itt K a) H1
theorem sV{l:Expr}{tl:TE}(hl:PE X l tl):PI X tg l (xh X.K tl):=by
 intro pins s σ H R I h;refine thn (hl pins s σ H _ I h) λv s1 ⟨x,H1,I1,r1,q1⟩=>?_;obtain⟨a,e,⟨xs,hq⟩,q⟩:=q1;subst e;cases r1;obtain⟨its,rv,p,hz⟩:=I1.list hq;refine Uy p.isList ?_;refine⟨s1.heap.objs.size,[s1.heap.objs.size],_,_,H1,rfl,I1.kept (t':=s1.toks) λb o e=>Zc _ e,uQ a _,⟨_,Zz _ rfl,rfl,rfl⟩,λb hb=>?_,q⟩;have e:b=s1.heap.objs.size:=by simpa using hb
 subst e;exact I1.fpOk (Zf _) (I1.hok.fresh (Zf _))
theorem Gc{l:Expr}{tl:TE}(hl:PE X l tl):PI X tg l (K5 X.K tl):=by
 intro pins s σ H R I h;refine thn (hl pins s σ H _ I h) λv s1 ⟨x,H1,I1,r1,q1⟩=>?_;obtain⟨a,e,⟨xs,hq⟩,q⟩:=q1;subst e;cases r1;obtain⟨its,rv,p,hz⟩:=I1.tuple hq;refine UA (show s1.heap.IsTuple a its.toArray from p) ?_;refine⟨s1.heap.objs.size,[s1.heap.objs.size],_,_,H1,rfl,I1.kept (t':=s1.toks) λb o e=>Zc _ e,qR a _,⟨_,Zz _ rfl,rfl,rfl⟩,λb hb=>?_,q⟩;have e:b=s1.heap.objs.size:=by simpa using hb
 subst e;exact I1.fpOk (Zf _) (I1.hok.fresh (Zf _))
theorem o5{lo hi:Int}{tk:Nat}(I:Inv X pins σ H s)(h1:-(2 ^ 62)<=lo)(h2:lo < 2 ^ 62)(h3:-(2 ^ 62)<=hi)(h4:hi < 2 ^ 62)
  (q:R (Itr lo (hi - lo).toNat) H):wpAny (model X.prog X.w) X.A (pyIter (.ref s.heap.objs.size)) (PIE X pins σ tg R) E { s with heap:=s.heap.push { cls:=.type "range", data:=.fields #[.int lo t,.int hi u,.int 1 v] },toks:=tk }:=by
 refine wpAny_pyIter_range (IsRange.new ..) (small_one h1 h2 h3 h4) ?_;have I1:Inv X pins σ H { s with heap:=s.heap.push { cls:=.type "range", data:=.fields #[.int lo t,.int hi u,.int 1 v] },toks:=tk }:=I.kept λb o e=>Zc _ e
 refine⟨(s.heap.push { cls:=.type "range", data:=.fields #[.int lo t,.int hi u,.int 1 v] }).objs.size,[(s.heap.push { cls:=.type "range", data:=.fields #[.int lo t,.int hi u,.int 1 v] }).objs.size],_,_,H,rfl,
  I1.kept (t':=tk) λb o e=>Zc _ e,qS _ lo (hi - lo).toNat,?_,λb hb=>?_,q⟩
 ·have e1:lo+((0:Nat):Int) * 1=lo:=by simp
  have e2:(((hi - lo).toNat:Nat):Int) - ((0:Nat):Int)=Builtin.Range.rangeSize lo hi 1:=by rw[rangeSize_one];split <;> lia
  show WQ _ _ (lo+((0:Nat):Int) * 1) ((((hi - lo).toNat:Nat):Int) - ((0:Nat):Int)) 1;rw[e1,e2];exact Zz _ rfl
 ·have e:b=(s.heap.push { cls:=.type "range", data:=.fields #[.int lo t,.int hi u,.int 1 v] }).objs.size:=by simpa using hb
  subst e;exact I1.fpOk (Zf _) (I1.hok.fresh (Zf _))
def EV(ta:TA):TI:=λσ H R=>ta σ H λvs H1=>∃j:Int,vs=[.int j]/\-(2 ^ 62)<=j/\j < 2 ^ 62/\R (Itr 0 j.toNat) H1
def EW(ta:TA):TI:=λσ H R=>ta σ H λvs H1=>∃i j:Int,vs=[.int i,.int j]/\(-(2 ^ 62)<=i/\i < 2 ^ 62/\-(2 ^ 62)<=j/\j < 2 ^ 62)/\R (Itr i (j - i).toNat) H1
theorem uR(hg:Gl X "range")(hm:X.mg "range" = none)(ha:PA X [a] ta)(hs:V6 [a] X.env=[(false,eval a X.env)]:=by rfl):PI X tg (.Call (.Name "range" p) [a] [] pos) (EV ta):=by
 intro pins s σ H R I h;refine Call_ (cV I hg hm boot_range (Wr (thn (ha pos pins s σ H _ I h) λus s1 ⟨vs,H1,I1,r1,q1⟩=>?_) hs rfl));obtain⟨j,e,q1,q2,q⟩:=q1;subst e;cases r1 with
 |cons r rr=>
  cases rr;obtain⟨t,rfl⟩:=r;exact call_range_1 (o5 I1 (by lia) (by lia) q1 q2 (by simpa using q))
theorem uS(hg:Gl X "range")(hm:X.mg "range" = none)(ha:PA X [a,b] ta)(hs:V6 [a,b] X.env=[(false,eval a X.env),(false,eval b X.env)]:=by rfl)(hs2:V6 [b] X.env=[(false,eval b X.env)]:=by rfl) :
  PI X tg (.Call (.Name "range" p) [a,b] [] pos) (EW ta):=by
 intro pins s σ H R I h;refine Call_ (cV I hg hm boot_range (Wr (thn (ha pos pins s σ H _ I h) λus s1 ⟨vs,H1,I1,r1,q1⟩=>?_) (by rw[hs,hs2]) (by rw[hs2];rfl)));obtain⟨i,j,e,⟨q1,q2,q3,q4⟩,q⟩:=q1;subst e;cases r1 with
 |cons r rr=>
  cases rr with
  |cons r' rr=>
   cases rr;obtain⟨t,rfl⟩:=r;obtain⟨t',rfl⟩:=r';exact call_range_2 (o5 I1 q1 q2 q3 q4 q)
def K6(wi:TI)(g:TG)(tb:TS):TS:=λD σ H=>wi σ H λJ H1=>∃W:Nat->Nat->St->Hp->Prop,(∃m,W 0 m σ H1)/\∀i m σ H,W i m σ H ->
 (J.stop i H/\D.nx σ H)\/(J.go i H/\∃N:St->Hp->Prop,(∀σ' H',N σ' H'->∃m',m' < m/\W (i+1) m' σ' H')/\∀x H',J.yld i H x H'->g x σ H' λσ2 H2=>tb { D with nx:=N,ct:=N,bk:=D.nx } σ2 H2)
abbrev jF(fp:List Addr)(h:Heap):List (Addr × Obj):=fp.filterMap λb=>(h.get? b).map λo=>(b,o)
theorem dE(hb:b ∈ fp)(e:h.get? b=some o):(b,o) ∈ jF fp h:=Yh.mpr ⟨b,hb,by rw[e];rfl⟩
theorem uT(hp:p ∈ jF fp h):p.1 ∈ fp/\h.get? p.1=some p.2:=by
 obtain⟨b,hb,e⟩:=Yh.mp hp;cases q:h.get? b with
 |none=>rw[q] at e;cases e
 |some o=>
  rw[q] at e;have e':(b,o)=p:=Option.some.inj e;subst e';exact⟨hb,q⟩
theorem Inv.pinned(I:Inv X pins σ H s)(hf:∀b ∈ fp,fQ X pins H b)(ho:∀b ∈ fp,∃o,s.heap.get? b=some o/\∀v,o.data ≠ .cell v):Inv X (pins++jF fp s.heap) σ H s:=
 I.pins_of λp hp=>(ZQ.mp hp).elim (λz=>I.pin p (ZG _ z)) λz=>by
  obtain⟨hb,e⟩:=uT z;obtain⟨f0,f1,f2,_⟩:=hf p.1 hb;obtain⟨o,e',d⟩:=ho p.1 hb;rw[e] at e';cases e';exact⟨e,f0,f1,f2,d⟩
theorem Inv.unpinned(I:Inv X (pins++pl) σ H s):Inv X pins σ H s:=I.pins_of λp hp=>I.pin p (ZG _ (Yk _ hp))
theorem Gd(hp:PassesOwn (model X.prog X.w) X.A X.env X.xe)(hc:X.calm=true)(hi:PI X tg iter wi)(hg:PG X tg g)(hb:PSs X body tb)
  (hs:∀x,VG iter X.env x=pure x:=by intro _;rfl):PS X (.For tg iter body [] pos) (K6 wi g tb):=by
 intro pins s σ H D I h;refine wpAny_For (thn (hi pins s σ H _ I h) λv s1 h1=>thn h1 λitv s2 h2=>?_) hs;obtain⟨it,fp,tn,J,H2,e,I2,T,st2,f2,W,⟨m0,w0⟩,turn⟩:=h2;subst e;have stat:∀ {H':Hp},(∀b ∈ fp,H' b=none)->∀b ∈ fp,fQ X pins H' b:=λhn b hb=>⟨hn b hb,(f2 b hb).2⟩;refine codeAny_forLoop_any (λn s'=>∃i σ' H',Inv X pins σ' H' s'/\tn i s'.heap/\(∀b ∈ fp,H' b=none)/\W i n σ' H') ?_ m0 ⟨0,σ,H2,I2,st2,λb hb=>(f2 b hb).1,w0⟩;rintro n s3 ⟨i,σ3,H3,I3,st3,fr3,w3⟩;rcases turn i n σ3 H3 w3 with ⟨stop,qn⟩ |⟨go,N,hN,step⟩
 ·refine Uv hp (thn (T.done X rfl rfl rfl hc i pins s3 σ3 H3 X.xe I3 (stat fr3) st3 stop) λr s4 ⟨hr,I4⟩=>?_);subst hr;exact wpAny_execs_nil ⟨σ3,H3,I4,qn⟩
 ·refine Uv hp (thn (T.item X rfl rfl rfl hc i pins s3 σ3 H3 X.xe I3 (stat fr3) st3 go) λr s4 ⟨u,hr,h4⟩=>?_);subst hr;refine Uv hp (thn h4 λ_ s5 ⟨x,H5,I5,r5,y5,st5,fr5⟩=>?_);have I5':=I5.pinned (stat fr5) (T.obj _ _ st5);refine Uv hp (thn (hg _ s5 σ3 H5 x u _ I5' r5 (step x H5 y5)) λ_ s6 ⟨σ6,H6,I6,q6⟩=>?_);refine Uv hp (thn (hb _ s6 σ6 H6 _ I6 q6) λf s7 q7=>?_)
  have again:∀ {σ7:St} {H7:Hp},Inv X (pins++jF fp s5.heap) σ7 H7 s7->N σ7 H7->∃m,m < n/\∃i σ' H',Inv X pins σ' H' s7/\tn i s7.heap/\(∀b ∈ fp,H' b=none)/\W i m σ' H':=λ{σ7 H7} I7 n7=>by
   obtain⟨m',hm,w7⟩:=hN σ7 H7 n7;refine⟨m',hm,i+1,σ7,H7,I7.unpinned,T.keep _ _ _ st5 λb hb o e=>(I7.pin (b,o) (ZG _ (ZG _ (dE hb e)))).1,λb hb=>?_,w7⟩;obtain⟨o,e,d⟩:=T.obj _ _ st5 b hb;exact(I7.pin (b,o) (ZG _ (ZG _ (dE hb e)))).2.1
  cases f with
  |next=>obtain⟨σ7,H7,I7,n7⟩:=q7;exact again I7 n7
  |cont=>obtain⟨σ7,H7,I7,n7⟩:=q7;exact again I7 n7
  |brk=>obtain⟨σ7,H7,I7,q7⟩:=q7;exact⟨σ7,H7,I7.unpinned,q7⟩
  |ret v=>obtain⟨x7,σ7,H7,I7,r7,q7⟩:=q7;exact⟨x7,σ7,H7,I7.unpinned,r7,q7⟩
end
@[inline]abbrev R2:=V->V->Hp->VK->Prop
def OpR(X:Cx)(f:Value->Value->Sem Value)(r:R2):Prop:=
 ∀ (pins:List (Addr × Obj)) (s:Shared) (σ:St) (H:Hp) (x y:V) (v u:Value) (Q:VK),Inv X pins σ H s->aB x v->aB y u->r x y H Q ->
  wpAny (model X.prog X.w) X.A (f v u) (EP X pins σ Q) X.xe s
def UnR(X:Cx)(f:Value->Sem Value)(r:V->Hp->VK->Prop):Prop:=
 ∀ (pins:List (Addr × Obj)) (s:Shared) (σ:St) (H:Hp) (x:V) (v:Value) (Q:VK),Inv X pins σ H s->aB x v->r x H Q ->
  wpAny (model X.prog X.w) X.A (f v) (EP X pins σ Q) X.xe s
def aV(X:Cx)(f:Value)(r:List V->Hp->VK->Prop):Prop:=
 ∀ (pins:List (Addr × Obj)) (s:Shared) (σ:St) (H:Hp) (xs:List V) (us:List Value) (Q:VK),Inv X pins σ H s->aP xs us->r xs H Q ->
  wpAny (model X.prog X.w) X.A (call f us) (EP X pins σ Q) X.xe s
def NZ(X:Cx)(r:V->Hp->(Bool->Hp->Prop)->Prop):Prop:=
 ∀ (pins:List (Addr × Obj)) (s:Shared) (σ:St) (H:Hp) (x:V) (v:Value) (Q:Bool->Hp->Prop),Inv X pins σ H s->aB x v->r x H Q ->
  wpAny (model X.prog X.w) X.A (truthy v) (TP X pins σ Q) X.xe s
def tOp(r:R2)(ta tb:TE):TE:=λσ H Q=>ta σ H λx H1=>tb σ H1 λy H2=>r x y H2 Q
def tUn(r:V->Hp->VK->Prop)(ta:TE):TE:=λσ H Q=>ta σ H λx H1=>r x H1 Q
def rI(C:Int->Int->Prop)(g:Int->Int->V):R2:=λx y H Q=>∃i j,x = .int i/\y = .int j/\C i j/\Q (g i j) H
def rI0(g:Int->Int->V):R2:=λx y H Q=>∃i j,x = .int i/\y = .int j/\Q (g i j) H
def rU(g:Int->V):V->Hp->VK->Prop:=λx H Q=>∃i,x = .int i/\Q (g i) H
section
variable {X:Cx} {a b c:Expr} {ta tb tc:TE} {pos:Pos}
theorem Gf(ha:PE X a ta)(hb:PE X b tb){pins:List (Addr × Obj)}{s:Shared}{σ:St}{H:Hp}{R:V->V->Hp->Prop}(I:Inv X pins σ H s)
  (h:ta σ H λx H1=>tb σ H1 λy H2=>R x y H2) {Q:Value->Shared->Prop} {f:Value->Value->Sem Value}
  (hf:∀v u s2 x y H2,Inv X pins σ H2 s2->aB x v->aB y u->R x y H2->wpAny (model X.prog X.w) X.A (f v u) Q X.xe s2) :
  wpAny (model X.prog X.w) X.A (eval a X.env) (λv s₁=>wpAny (model X.prog X.w) X.A (eval b X.env) (λu s₂=>wpAny (model X.prog X.w) X.A (f v u) Q X.xe s₂) X.xe s₁) X.xe s:=by
 refine thn (ha pins s σ H _ I h) λv s1 ⟨x,H1,I1,r1,q1⟩=>?_;refine thn (hb pins s1 σ H1 _ I1 q1) λu s2 ⟨y,H2,I2,r2,q2⟩=>?_;exact hf v u s2 x y H2 I2 r1 r2 q2
theorem K7{op:WT}{r:R2}(ho:OpR X (Vr op) r)(ha:PE X a ta)(hb:PE X b tb):PE X (.BinOp a op b pos) (tOp r ta tb):=by
 intro pins s σ H Q I h;exact wpAny_BinOp (Gf ha hb I h λv u s2 x y H2 I2 rx ry q=>ho pins s2 σ H2 x y v u Q I2 rx ry q)
theorem xi(ho:UnR X (unaryOp op) r)(ha:PE X a ta):PE X (.UnaryOp op a pos) (tUn r ta):=by
 intro pins s σ H Q I h;exact UnaryOp_ (thn (ha pins s σ H _ I h) λv s1 ⟨x,H1,I1,r1,q1⟩=>ho pins s1 σ H1 x v Q I1 r1 q1)
theorem opI{f:Value->Value->Sem Value}{C:Int->Int->Prop}{g:Int->Int->Int}
  (rule:∀ (i j:Int) (t u:Tok) (s:Shared) (Q:Value->Shared->Prop) (E:Value->Shared->Prop),C i j->Q (.int (g i j) s.toks) { s with toks:=s.toks+1 }->wpAny (model X.prog X.w) X.A (f (.int i t) (.int j u)) Q E s) :
  OpR X f (rI C λi j=>.int (g i j)):=by
 intro pins s σ H x y v u Q I rx ry h;obtain⟨i,j,rfl,rfl,hc,q⟩:=h;obtain⟨t,rfl⟩:=rx;obtain⟨t',rfl⟩:=ry;exact rule i j t t' s _ _ hc ⟨.int (g i j),H,I.tok _,⟨_,rfl⟩,q⟩
theorem K8{f:Value->Value->Sem Value}{g:Int->Int->Int}
  (rule:∀ (i j:Int) (t u:Tok) (s:Shared) (Q:Value->Shared->Prop) (E:Value->Shared->Prop),Q (.int (g i j) s.toks) { s with toks:=s.toks+1 }->wpAny (model X.prog X.w) X.A (f (.int i t) (.int j u)) Q E s) :
  OpR X f (rI0 λi j=>.int (g i j)):=by
 intro pins s σ H x y v u Q I rx ry h;obtain⟨i,j,rfl,rfl,q⟩:=h;obtain⟨t,rfl⟩:=rx;obtain⟨t',rfl⟩:=ry;exact rule i j t t' s _ _ ⟨.int (g i j),H,I.tok _,⟨_,rfl⟩,q⟩
theorem Bb{f:Value->Value->Sem Value}{g:Int->Int->Bool}
  (rule:∀ (i j:Int) (t u:Tok) (s:Shared) (Q:Value->Shared->Prop) (E:Value->Shared->Prop),Q (.bool (g i j)) s->wpAny (model X.prog X.w) X.A (f (.int i t) (.int j u)) Q E s) :
  OpR X f (rI0 λi j=>.bl (g i j)):=by
 intro pins s σ H x y v u Q I rx ry h;obtain⟨i,j,rfl,rfl,q⟩:=h;obtain⟨t,rfl⟩:=rx;obtain⟨t',rfl⟩:=ry;exact rule i j t t' s _ _ ⟨.bl (g i j),H,I,rfl,q⟩
def N0(i j:Int):Prop:=0<=j/\j<=1000000/\i.natAbs < 2 ^ 64
def K9(i j:Int):Prop:=(-(2 ^ 64) < i/\i < 2 ^ 64)\/(-(2 ^ 64) < j/\j < 2 ^ 64)
theorem K9.ok{i j:Int}(h:K9 i j):IntMulOk i j:=by
 rcases h with ⟨h1,h2⟩ |⟨h1,h2⟩
 ·exact .of_left (intBits_le_64 h1 h2)
 ·exact .of_right (intBits_le_64 h1 h2)
theorem Gg:OpR X (Vr .Add) (rI0 λi j=>.int (i+j)):=K8 λ_ _ _ _ _ _ _ q=>add_int q
theorem Gh:OpR X (Vr .Sub) (rI0 λi j=>.int (i - j)):=K8 λ_ _ _ _ _ _ _ q=>sub_int q
theorem Gi:OpR X (Vr .Mult) (rI K9 λi j=>.int (i * j)):=opI λ_ _ _ _ _ _ _ hc q=>mul_int q hc.ok
theorem Gj:OpR X (Vr .Mod) (rI (λ_ j=>0 < j) λi j=>.int (i % j)):=opI λi j _ _ _ _ _ hc q=>by
 have h1:(0:Int) < j:=hc;exact mod_int' (by lia) (by rw[Int.fmod_eq_emod_of_nonneg i (by lia)];exact q)
theorem Gk:OpR X (Vr .Pow) (rI N0 λi j=>.int (i ^ j.toNat)):=opI λ_ _ _ _ _ _ _ hc q=>pow_int_small hc.1 hc.2.1 hc.2.2 q
theorem unI{f:Value->Sem Value}{g:Int->Int}
  (rule:∀ (i:Int) (t:Tok) (s:Shared) (Q:Value->Shared->Prop) (E:Value->Shared->Prop),Q (.int (g i) s.toks) { s with toks:=s.toks+1 }->wpAny (model X.prog X.w) X.A (f (.int i t)) Q E s) :
  UnR X f (rU λi=>.int (g i)):=by
 intro pins s σ H x v Q I rx h;obtain⟨i,rfl,q⟩:=h;obtain⟨t,rfl⟩:=rx;exact rule i t s _ _ ⟨.int (g i),H,I.tok _,⟨_,rfl⟩,q⟩
theorem qT:UnR X (unaryOp .USub) (rU λi=>.int (-i)):=unI λ_ _ _ _ _ q=>neg_int q
end
section
variable {X:Cx} {a b c:Expr} {ta tb tc:TE} {pos:Pos}
theorem xj(I:Inv X pins σ H s)(q:Q (.bl k) H)(e:k=k'):EP X pins σ Q (.bool k') s:=by
 subst e;exact⟨.bl k,H,I,rfl,q⟩
theorem La:OpR X (VA .Lt) (rI0 λi j=>.bl (decide (i < j))):=Bb λ_ _ _ _ _ _ _ q=>lt_int q
theorem Lb:OpR X (VA .LtE) (rI0 λi j=>.bl (decide (i<=j))):=Bb λ_ _ _ _ _ _ _ q=>le_int q
theorem Lc:OpR X (VA .Gt) (rI0 λi j=>.bl (decide (j < i))):=Bb λ_ _ _ _ _ _ _ q=>gt_int q
theorem Lg:OpR X (VA .GtE) (rI0 λi j=>.bl (decide (j<=i))):=Bb λ_ _ _ _ _ _ _ q=>ge_int q
theorem Gm:OpR X (VA .Is) (λx y H Q=>y = .non/\Q (.bl (decide (x = .non))) H):=by
 intro pins s σ H x y v u Q I rx ry h;obtain⟨rfl,q⟩:=h;cases ry;refine is_none_gen (xj I q ?_)
 cases x <;> first
  |(cases rx;rfl)
  |(obtain⟨t,rfl⟩:=rx;rfl)
theorem Bc:OpR X (VA .IsNot) (λx y H Q=>y = .non/\Q (.bl (!decide (x = .non))) H):=by
 intro pins s σ H x y v u Q I rx ry h;obtain⟨rfl,q⟩:=h;cases ry;refine isnot_none_gen (xj I q ?_)
 cases x <;> first
  |(cases rx;rfl)
  |(obtain⟨t,rfl⟩:=rx;rfl)
theorem Be{op:CmpOp}{r:R2}(ho:OpR X (VA op) r)(ha:PE X a ta)(hb:PE X b tb)(hm:Vq op b=false):PE X (.Compare a [op] [b] pos) (tOp r ta tb):=by
 intro pins s σ H Q I h;exact wpAny_Compare1 (Gf ha hb I h λv u s2 x y H2 I2 rx ry q=>ho pins s2 σ H2 x y v u Q I2 rx ry q) hm
def EX(t:TE):TT:=λσ H Q=>t σ H λx H'=>∃k,x = .bl k/\Q k H'
theorem Bf(ho:OpR X (VA op) r)(ha:PE X a ta)(hb:PE X b tb)(hm:Vq op b=false):PT X (.Compare a [op] [b] pos) (EX (tOp r ta tb)):=by
 intro pins s σ H Q I h
 refine wpAny_isTrue_Compare1 (thn (ha pins s σ H _ I h) λv s1 ⟨x,H1,I1,r1,q1⟩=>thn (hb pins s1 σ H1 _ I1 q1) λu s2 ⟨y,H2,I2,r2,q2⟩=>
  thn (ho pins s2 σ H2 x y v u _ I2 r1 r2 q2) λc s3 ⟨z,H3,I3,r3,k,e,q3⟩=>?_) hm
 subst e;cases r3;exact UJ ⟨H3,I3,q3⟩
def qU(r r':R2)(ta tb tc:TE):TE:=λσ H Q=>ta σ H λx H1=>tb σ H1 λy H2=>r x y H2 λz H3=>∃k,z = .bl k ∧
 (if k=true then tc σ H3 λw' H4=>r' y w' H4 Q else Q (.bl false) H3)
theorem xk(ho:OpR X (VA op) r)(ho':OpR X (VA op') r')(ha:PE X a ta)(hb:PE X b tb)(hc:PE X c tc)
  (hm:lastMarks [op,op'] [b,c]=false:=by with_unfolding_all rfl):PE X (.Compare a [op,op'] [b,c] pos) (qU r r' ta tb tc):=by
 intro pins s σ H Q I h
 refine Compare_chain (thn (ha pins s σ H _ I h) λv s1 ⟨x,H1,I1,r1,q1⟩=>chain_link (thn (hb pins s1 σ H1 _ I1 q1) λu s2 ⟨y,H2,I2,r2,q2⟩=>
  thn (ho pins s2 σ H2 x y v u _ I2 r1 r2 q2) λd s3 ⟨z,H3,I3,r3,k,e,q3⟩=>?_)) hm
 subst e;cases r3;refine UJ ?_;cases k with
 |false=>exact ite_ff ⟨.bl false,H3,I3,rfl,q3⟩
 |true=>exact ite_tt (chain_last (thn (hc pins s3 σ H3 _ I3 q3) λw' s4 ⟨z',H4,I4,r4,q4⟩=>ho' pins s4 σ H4 y z' u w' Q I4 r2 r4 q4))
theorem xl(ho:OpR X (VA op) r)(ho':OpR X (VA op') r')(ha:PE X a ta)(hb:PE X b tb)(hc:PE X c tc)
  (hm:lastMarks [op,op'] [b,c]=false:=by with_unfolding_all rfl):PT X (.Compare a [op,op'] [b,c] pos) (EX (qU r r' ta tb tc)):=by
 intro pins s σ H Q I h
 refine isTrue_chain (thn (ha pins s σ H _ I h) λv s1 ⟨x,H1,I1,r1,q1⟩=>test_link (thn (hb pins s1 σ H1 _ I1 q1) λu s2 ⟨y,H2,I2,r2,q2⟩=>
  thn (ho pins s2 σ H2 x y v u _ I2 r1 r2 q2) λd s3 ⟨z,H3,I3,r3,k,e,q3⟩=>?_)) hm
 subst e;cases r3;refine UJ ?_;cases k with
 |false=>
  obtain⟨k',e',q'⟩:=q3;cases e';exact ite_ff ⟨H3,I3,q'⟩
 |true=>
  refine ite_tt (test_last (thn (hc pins s3 σ H3 _ I3 q3) λw' s4 ⟨z',H4,I4,r4,q4⟩=>thn (ho' pins s4 σ H4 y z' u w' _ I4 r2 r4 q4) λd' s5 ⟨z2,H5,I5,r5,k2,e2,q5⟩=>?_));subst e2;cases r5;exact UJ ⟨H5,I5,q5⟩
def Bg(K:W7)(x:V)(H:Hp)(k:Bool):Prop:=
 match x with
 |.non=>k=false
 |.bl b=>k=b
 |.int i=>k=(i != 0)
 |.str y=>y.length<=sizeLine/\k=((y.length:Int) != 0)
 |.byt y=>y.size<=sizeLine/\k=((y.size:Int) != 0)
 |.ref p=>(∃xs,SqL K H p xs/\k = !xs.isEmpty)\/(∃xs,SqT K H p xs/\k = !xs.isEmpty)\/∃kvs,H p=some (.dK kvs)/\k = !kvs.isEmpty
 |_=>False
theorem qV{κ:Type}{kvs:List (κ × V)}{vs:List (κ × Value)}(r:KV kvs vs):(!vs.isEmpty) = !kvs.isEmpty:=by
 cases r <;> rfl
theorem jG{xs:List V}{its:List Value}(r:aP xs its):(!its.toArray.isEmpty) = !xs.isEmpty:=by
 cases r <;> simp
theorem ig:(sizeLine:Nat) < 2 ^ 63:=by rw[V4];decide
theorem Gn:NZ X (λx H Q=>∃k,Bg X.K x H k/\Q k H):=by
 intro pins s σ H x v Q I rx h;obtain⟨k,e,q⟩:=h;have hl:=ig;have hs:sizeLine=16777216:=V4;cases x with
 |non=>
  cases rx;have e':k=false:=e;subst e';exact truthy_none ⟨H,I,q⟩
 |bl b=>
  cases rx;have e':k=b:=e;subst e';exact UJ ⟨H,I,q⟩
 |int i=>
  obtain⟨t,rfl⟩:=rx;have e':k=(i != 0):=e;subst e';exact PySem.P.truthy_int ⟨H,I,q⟩
 |str y=>
  obtain⟨t,rfl⟩:=rx;obtain⟨hy,e'⟩:y.length<=sizeLine/\k=((y.length:Int) != 0):=e;subst e';exact PySem.P.truthy_str (by lia) ⟨H,I.tok _,q⟩
 |byt y=>
  obtain⟨t,rfl⟩:=rx;obtain⟨hy,e'⟩:y.size<=sizeLine/\k=((y.size:Int) != 0):=e;subst e';exact PySem.W.truthy_bytes (by lia) ⟨H,I.tok _,q⟩
 |ref p=>
  cases rx;have e':(∃xs,SqL X.K H p xs/\k = !xs.isEmpty)\/(∃xs,SqT X.K H p xs/\k = !xs.isEmpty)\/∃kvs,H p=some (.dK kvs)/\k = !kvs.isEmpty:=e;rcases e' with ⟨xs,hx,e'⟩ |⟨xs,hx,e'⟩ |⟨kvs,hx,e'⟩
  ·subst e';obtain⟨its,r,pl,hz⟩:=I.list hx;have hlen:=r.length;exact wpAny_truthy_list pl.isList (by simp only[Zk];lia) ⟨H,I.tok _,by rw[jG r];exact q⟩
  ·subst e';obtain⟨its,r,pl,hz⟩:=I.tuple hx;have hlen:=r.length;exact truthy_tuple pl (by simp only[Zk];lia) ⟨H,I.tok _,by rw[jG r];exact q⟩
  ·subst e';obtain⟨hz,hS,vs,r,m⟩:kvs.length<=sizeLine/\(p == Ub)=false/\∃vs,KV kvs vs/\s.heap.DictOf (aW X.prog X.w) p vs:=I.hok p _ hx;have hlen:kvs.length=vs.length:=Paired.length r;exact wpAny_truthy_dict hS m (by lia) ⟨H,I.tok _,by rw[qV r];exact q⟩
 |_=>exact(show False from e).elim
theorem xm(ha:PE X a ta)(he:∀whole,isTrue a X.env whole=(do let v <-whole;standAt a.pos;holding [v] (truthy v))) :
  PT X a (λσ H Q=>ta σ H λx H'=>∃k,Bg X.K x H' k/\Q k H'):=by
 intro pins s σ H Q I h;exact isTrue_plain (thn (ha pins s σ H _ I h) λv s1 ⟨x,H1,I1,r1,q1⟩=>Gn pins s1 σ H1 x v Q I1 r1 q1) (he _)
theorem qW:OpR X (Vr .Add) (λx y H Q=>∃i j,x = .str i/\y = .str j/\i.length+j.length<=sizeLine/\Q (.str (i++j)) H):=by
 intro pins s σ H x y v u Q I rx ry h;obtain⟨i,j,rfl,rfl,hz,q⟩:=h;obtain⟨t,rfl⟩:=rx;obtain⟨t',rfl⟩:=ry;exact add_str (λt' tk=>⟨.str (i++j),H,I.tok _,⟨_,rfl⟩,q⟩) hz
theorem b9(r:aP [x] us):∃u,us=[u]/\aB x u:=by
 cases r with
 |cons r1 r2=>cases r2;exact⟨_,rfl,r1⟩
theorem o6(r:aP [x,y] us):∃u w',us=[u,w']/\aB x u/\aB y w':=by
 cases r with
 |cons r1 r2=>
  cases r2 with
  |cons r3 r4=>cases r4;exact⟨_,_,rfl,r1,r3⟩
theorem uU(hc:X.calm=true):aV X (.builtin "max") (λxs H Q=>∃i j,xs=[.int i,.int j]/\Q (.int (if j > i then j else i)) H):=by
 intro pins s σ H xs us Q I r h;obtain⟨i,j,rfl,q⟩:=h;obtain⟨u,w',rfl,⟨t,rfl⟩,⟨t',rfl⟩⟩:=o6 r;refine max_two_ints (I.ok.hd hc) λh' tk k=>⟨_,H,I.kept k,?_,q⟩;by_cases hj:j > i
 ·rw[if_pos hj,if_pos hj];exact⟨_,rfl⟩
 ·rw[if_neg hj,if_neg hj];exact⟨_,rfl⟩
theorem uV(hc:X.calm=true):aV X (.builtin "min") (λxs H Q=>∃i j,xs=[.int i,.int j]/\Q (.int (if j < i then j else i)) H):=by
 intro pins s σ H xs us Q I r h;obtain⟨i,j,rfl,q⟩:=h;obtain⟨u,w',rfl,⟨t,rfl⟩,⟨t',rfl⟩⟩:=o6 r;refine min_two_ints (I.ok.hd hc) λh' tk k=>⟨_,H,I.kept k,?_,q⟩;by_cases hj:j < i
 ·rw[if_pos hj,if_pos hj];exact⟨_,rfl⟩
 ·rw[if_neg hj,if_neg hj];exact⟨_,rfl⟩
end
structure ObjM(h:Heap)(x dx C:Addr)(mA:Str->Option Value):Prop where
 obj:h.get? x=some (Vc C dx)
 ns:h.Ns1 dx mA
 ne:dx ≠ x
theorem uW{h:Heap}{dx:Addr}{mA:Str->Option Value}(n:h.Ns1 dx mA):∃od,h.get? dx=some od/\∀name,Vj name od=some (mA name):=by
 obtain⟨o,es,ep,ho,hd,hk,_,hm⟩:=n;refine⟨o,ho,λname=>?_⟩;have e:=hm name;unfold nsFind findBy at e;rw[<-Array.find?_toList] at e;unfold Vj;rw[hd];dsimp only;split
 ·rename_i y q;rw[q] at e;exact congrArg some e
 ·rename_i q;rw[q] at e
  have a:es.toList.any (·.refKey)=false:=by
   rw[List.any_eq_false];intro y hy;obtain⟨z,t,hkey⟩:=hk y (Xp.mp hy);simp[DictEntry.refKey,hkey]
  have a':¬ es.toList.any (·.refKey)=true:=by rw[a];exact Zd
  rw[if_neg a'];exact congrArg some e
theorem ObjM.look(I:ObjM h x dx C mA):∃od,PySem.W.InstAt h x (Vc C dx) C (some od)/\∀name,Vj name od=some (mA name):=
 let ⟨od,ho,hl⟩:=uW I.ns
 ⟨od,⟨I.obj,rfl,rfl,ho⟩,hl⟩
theorem qQ.some_of(r:qQ (some v) o):∃u,o=some u/\aB v u:=by
 cases o with
 |none=>exact(show False from r).elim
 |some u=>exact⟨u,rfl,r⟩
section
variable {P:Program} {w:World} {H H':Hp} {h h':Heap} {a C dx:Addr} {fs fs':List (Str × V)}
theorem Bh(hok:HOk P w H h)(e:H a=some (.ins C dx fs)):∃mA,ObjM h a dx C mA/\(∀f,qQ (fs.lookup f) (mA f))/\PySem.Within mA (fs.map (·.1))/\fs.length<=1000/\H dx=some (.own a):=by
 obtain⟨d,z,ne,ob,mA,n,r,q⟩:=(show bg P w H h a (.ins C dx fs) from hok a _ e);exact⟨mA,⟨ob,n,ne⟩,r,q,z,d⟩
end
structure Cls(K:W7)(C:Addr):Prop where
 pg:Vl K C Str.empty=true
 hd:PySem.W.hasDictIn K C=true
 po:PySem.W.plainOver K C=true
 sa:Va K (.ref C) "__setattr__" = some (some (.builtin "object.__setattr__"))
theorem Cls.get{K:W7}{C:Addr}(c:Cls K C)(f:Str):Vl K C f=true:=c.pg
section
variable {X:Cx} {pins:List (Addr × Obj)} {σ:St} {H:Hp} {s:Shared} {A:Around} {E:Value->Shared->Prop} {Q:Value->Shared->Prop} {c:Value} {b:Bool}
inductive TyOf(K:W7)(H:Hp):V->Value->Prop where
 |non:TyOf K H .non (.type "NoneType")
 |bl (x:Bool):TyOf K H (.bl x) (.type "bool")
 |int (i:Int):TyOf K H (.int i) (.type "int")
 |str (x:Str):TyOf K H (.str x) (.type "str")
 |flt (x:UInt64):TyOf K H (.flt x) (.type "float")
 |lst {a:Addr} {xs:List V} (e:H a=some (.lst xs)):TyOf K H (.ref a) (.type "list")
 |frz {a:Addr} {o:Obj} {xs:List V} (e:H a=some (.frz o (.lst xs))):TyOf K H (.ref a) (.type "list")
 |tup {a:Addr} {xs:List V} (e:H a=some (.tup xs)):TyOf K H (.ref a) (.type "tuple")
 |dK {a:Addr} {kvs:List (Key × V)} (e:H a=some (.dK kvs)):TyOf K H (.ref a) (.type "dict")
 |dT {a:Addr} {kvs:List (List NK × V)} (e:H a=some (.dT kvs)):TyOf K H (.ref a) (.type "dict")
 |ins {a C dx:Addr} {fs:List (Str × V)} (e:H a=some (.ins C dx fs)) (cl:Cls K C) (ha:Va K (.ref C) "__class__" = some (some (.builtin "object.__class__")))
   (hn:PySem.W.specialIn K (.builtin "object.__class__") "__get__" = some (some (.builtin "getset_descriptor.__get__"))) (htk:PySem.W.takesIn K (.builtin "object.__class__")=some true)
   (hm:PySem.W.mroIn K C (.type "object")=some true):TyOf K H (.ref a) (.ref C)
theorem uX(I:Inv X pins σ H s)(rx:aB x u)(ty:TyOf X.K H x t)(e:Vg X.K t c=some b)(h:∀tk,Q (.bool b) { s with toks:=tk }) :
  wpAny (model X.prog X.w) A (call (.builtin "isinstance") [u,c]) Q E s:=by
 cases ty with
 |non=>cases (show u=Value.none from rx);exact Vf PySem.W.kitx_none I.kIn True.intro e (λz=>nomatch z) h
 |bl y=>cases (show u=Value.bool y from rx);exact Vf PySem.W.kitx_bool I.kIn True.intro e (λz=>nomatch z) h
 |int i=>obtain⟨t,q⟩:=(show ∃t,u=Value.int i t from rx);cases q;exact Vf PySem.W.kitx_int I.kIn True.intro e (λz=>nomatch z) h
 |str y=>obtain⟨t,q⟩:=(show ∃t,u=Value.str y t from rx);cases q;exact Vf PySem.W.kitx_str I.kIn True.intro e (λz=>nomatch z) h
 |flt y=>obtain⟨t,q⟩:=(show ∃t,u=Value.float y t from rx);cases q;exact Vf PySem.W.kitx_float I.kIn True.intro e (λz=>nomatch z) h
 |@lst a xs ea=>
  cases (show u=Value.ref a from rx);obtain⟨_,_,n,_,h1⟩:=(show bg X.prog X.w H s.heap a (.lst xs) from I.hok a _ ea);exact Vf Vi I.kIn ⟨_,h1,rfl⟩ e (λz=>nomatch z) h
 |@frz a ob xs ea=>
  cases (show u=Value.ref a from rx);obtain⟨_,_,_,n,_,h1⟩:=(show bg X.prog X.w H s.heap a (.frz ob (.lst xs)) from I.hok a _ ea);exact Vf Vi I.kIn ⟨_,h1,rfl⟩ e (λz=>nomatch z) h
 |@tup a xs ea=>
  cases (show u=Value.ref a from rx);obtain⟨_,_,_,p⟩:=(show bg X.prog X.w H s.heap a (.tup xs) from I.hok a _ ea);obtain⟨o,h1,h2,_⟩:=p;exact Vf PySem.W.kitx_tuple I.kIn ⟨o,h1,h2⟩ e (λz=>nomatch z) h
 |@dK a kvs ea=>
  cases (show u=Value.ref a from rx);obtain⟨_,_,vs,_,p⟩:=(show bg X.prog X.w H s.heap a (.dK kvs) from I.hok a _ ea);obtain⟨o,es,ep,h1,h2,_⟩:=p;exact Vf Vh I.kIn ⟨o,h1,h2.1⟩ e (λz=>nomatch z) h
 |@dT a kvs ea=>
  cases (show u=Value.ref a from rx);obtain⟨_,_,xs,_,o,es,ep,h1,h2,_⟩:=(show bg X.prog X.w H s.heap a (.dT kvs) from I.hok a _ ea);exact Vf Vh I.kIn ⟨o,h1,h2.1⟩ e (λz=>nomatch z) h
 |@ins a C dx fs ea cl ha hn htk hm=>
  cases (show u=Value.ref a from rx);obtain⟨mA,O,_⟩:=Bh I.hok ea;obtain⟨od,J,_⟩:=O.look;exact Vf (PySem.W.kitx_own (cl.get _) cl.hd ha hn htk hm) I.kIn J e (λz=>nomatch z) h
end
structure Room(k:Nat)(A:Around):Prop where
 hd:A.handled=none
 dp:A.depth+3 * k+5 < recursionLimit
 un:A.units+16 * k+200 < cLine
 gd:A.guards=some []
theorem Room.deeper{k:Nat}(r:Room (k+1) A)(env:Env):Room k (A.deeper env):=
 ⟨r.hd,by have:=r.dp;show A.depth+1+3 * k+5 < _;lia,by have:=r.un;show A.units+3+16 * k+200 < _;lia,r.gd⟩
theorem Room.depth{k:Nat}(r:Room k A):A.depth < recursionLimit:=by have:=r.dp;lia
theorem Room.units{k:Nat}(r:Room k A):A.units+64 < cLine:=by have:=r.un;lia
def ij:TA:=λ_ H Q=>Q [] H
def bR(ta:TE)(tr:TA):TA:=λσ H Q=>ta σ H λx H1=>tr σ H1 λxs H2=>Q (x::xs) H2
section
variable {X:Cx} {e:Expr} {es:List Expr} {te:TE} {t:TA} {pos:Pos}
theorem xn:PA X [] ij:=λ_ _ _ _ H Q I h=>Calls.spliced_nil ⟨[],H,I,.nil,h⟩
theorem Bi(ha:PE X e te)(hr:PA X es t)(hs:V6 (e::es) X.env=(false,eval e X.env)::V6 es X.env:=by rfl):PA X (e::es) (bR te t):=by
 intro pos pins s σ H Q I h;rw[hs];show wpAny _ _ (spliced ((false,eval e X.env)::backTo pos (V6 es X.env))) _ _ s;refine Calls.spliced_cons (thn (ha pins s σ H _ I h) λu s1 ⟨x,H1,I1,r1,q1⟩=>?_);exact thn (hr pos pins s1 σ H1 _ I1 q1) λus s2 ⟨xs,H2,I2,r2,q2⟩=>⟨x::xs,H2,I2,.cons r1 r2,q2⟩
def Lh(t:TA):TE:=λσ H Q=>t σ H λxs H1=>xs.length<=sizeLine/\∀p,H1 p=none->Q (.ref p) (upd H1 p (.tup xs))
def Li(t:TA):TE:=λσ H Q=>t σ H λxs H1=>xs.length<=sizeLine/\∀p,H1 p=none->Q (.ref p) (upd H1 p (.lst xs))
theorem Go{x1}(h:PA X es t):PE X (.Tuple es x1 pos) (Lh t):=by
 intro pins s σ H Q I hq;refine wpAny_Tuple_spliced (thn (h pos pins s σ H _ I hq) λus s1 ⟨xs,H1,I1,r,z,q⟩=>⟨by rw[<-r.length];exact z,?_⟩);have hf:H1 s1.heap.objs.size=none:=I1.hok.fresh (Zf _);refine⟨.ref s1.heap.objs.size,upd H1 s1.heap.objs.size (.tup xs),I1.laid (t':=s1.toks) (λb u e=>Zc _ e) (Zf _) ?_,rfl,q _ hf⟩;exact⟨z,us,r,m9.new _ _⟩
theorem Gp(h:PA X es t):PE X (.List es pos) (Li t):=by
 intro pins s σ H Q I hq;refine wpAny_List_spliced (thn (h pos pins s σ H _ I hq) λus s1 ⟨xs,H1,I1,r,z,q⟩=>⟨by rw[<-r.length];exact z,?_⟩);have hf:H1 s1.heap.objs.size=none:=I1.hok.fresh (Zf _);refine⟨.ref s1.heap.objs.size,upd H1 s1.heap.objs.size (.lst xs),I1.laid (t':=s1.toks) (λb u e=>Zc _ e) (Zf _) ?_,rfl,q _ hf⟩;exact⟨z,us,0,r,Zz _ rfl⟩
end
@[inline]abbrev Sp:=List V->Hp->VK->XK->Prop
@[inline]abbrev CXT:=List Env->Hp->Shared->XK->Value->Shared->Prop
structure Env0(P:Program)(w:World)(K:W7)(mg:Str->Option Value)(base:Heap)(A:Around)(outer:List Env)(s:Shared)(H:Hp):Prop where
 frames:A.frames=some outer
 mod:Mod K mg base
 bs:∀b o,base.get? b=some o->s.heap.get? b=some o/\H b=none
 bsz:base.objs.size<=s.heap.objs.size
 funs:s.heap.FunFrames base outer
 frf:∀b ∈ frs outer,H b=none
 hok:HOk P w H s.heap
 bare:AllBare s.gens
def CE(outer:List Env)(P:Program)(w:World)(H:Hp)(s:Shared)(Q:VK)(u:Value)(s':Shared):Prop:=
 ∃v H',s'.os=s.os/\AllBare s'.gens/\Un (frs outer) [] H H' s.heap s'.heap/\HOk P w H' s'.heap/\aB v u/\Q v H'
def CR(CX:CXT)(outer:List Env)(P:Program)(w:World)(H:Hp)(s:Shared)(Q:VK)(E:XK)(r:Result)(s':Shared):Prop:=
 match r with
 |.ok (.ret u)=>CE outer P w H s Q u s'
 |.ok _=>False
 |.error e=>CX outer H s E e s'
structure FnOk(P:Program)(w:World)(K:W7)(mg:Str->Option Value)(base:Heap)(CX:CXT)(k:Nat)(f:Addr)(fd:WO)(ps:List Str)(sp:Sp):Prop where
 len:∀vs H Q E,sp vs H Q E->vs.length=ps.length
 run:∀ (A:Around) (outer:List Env) (s:Shared) (H:Hp) (args:Args) (us:List Value) (vs:List V) (Q:VK) (E:XK),Room k A->Env0 P w K mg base A outer s H->BindsTo s fd args (ps.zip us)->aP vs us->sp vs H Q E ->
  codeAny (model P w) A (.call (.ref f) args) (CR CX outer P w H s Q E) s
section
variable {X:Cx} {pins:List (Addr × Obj)} {σ:St} {H:Hp} {s s':Shared}
theorem Inv.env0(I:Inv X pins σ H s):Env0 X.prog X.w X.K X.mg X.base X.A X.stack s H:=
 ⟨I.ok.frames,I.ok.mod,I.bs,ZI I.ok.bsz I.sz,I.stack,I.stkFree,I.hok,I.bare⟩
theorem Inv.after(I:Inv X pins σ H s)(h:CE X.stack X.prog X.w H s Q u s'):EP X pins σ Q u s':=by
 obtain⟨v,H',os,bare,un,hok,r,q⟩:=h;obtain⟨hh,g,d,t,os'⟩:=s';obtain rfl:os'=s.os:=os;exact⟨v,H',I.call (h':=hh) (g':=g) (d':=d) (t':=t) (ch:=[]) un hok bare (λb z=>absurd z (by simp)),r,q⟩
end
def EY(sp:Sp)(dvs:List V)(E:XK)(t:TA):TE:=λσ H Q=>t σ H λvs H1=>sp (vs++dvs) H1 Q E
def lX(K:W7)(fd:WO)(ps:List Str)(ds:List Value):Prop:=
 ∀ (s:Shared) (us:List Value),K.In s.heap->(us++ds).length=ps.length->BindsTo s fd ⟨us,[]⟩ (ps.zip (us++ds))
theorem lX.all{K:W7}{fd:WO}{ps:List Str}(h:∀us:List Value,us.length=ps.length->bindArgs fd ⟨us,[]⟩=pure (ps.zip us)):lX K fd ps []:=λs us _ hl=>by
 rw[ZW] at hl ⊢;exact .of_eq (h us hl)
def qX(CX:CXT)(X:Cx)(E:XK):Prop:=∀ (pins:List (Addr × Obj)) (σ:St) (H:Hp) (s:Shared) (e:Value) (s':Shared),Inv X pins σ H s->CX X.stack H s E e s'->X.xe e s'
section
variable {X:Cx} {CX:CXT} {k:Nat} {f C:Addr} {fd:WO} {ps:List Str} {sp:Sp} {dvs:List V} {ds:List Value} {E:XK} {x m:Str} {p pos apos:Pos} {e o:Expr} {es:List Expr} {ta:TE} {t:TA}
theorem Gq(F:FnOk X.prog X.w X.K X.mg X.base CX k f fd ps sp)(hr:Room k X.A)(hb:lX X.K fd ps ds)(hd:aP dvs ds)(hx:qX CX X E)
  (I:Inv X pins σ H s) (r:aP vs us) (h:sp (vs++dvs) H Q E):wpAny (model X.prog X.w) X.A (call (.ref f) us) (EP X pins σ Q) X.xe s:=by
 have r2:aP (vs++dvs) (us++ds):=r.append hd;have hl:(us++ds).length=ps.length:=by rw[<-r2.length];exact F.len _ _ _ _ h
 refine wpAny_call (Vz (F.run X.A X.stack s H ⟨us,[]⟩ (us++ds) (vs++dvs) Q E hr I.env0 (hb s us I.kIn hl) r2 h) λr s' hq=>?_);cases r with
 |error e=>exact hx pins σ H s e s' I hq
 |ok fl=>
  cases fl with
  |ret u=>exact I.after hq
  |next=>exact False.elim hq
  |brk=>exact False.elim hq
  |cont=>exact False.elim hq
theorem Bj(F:FnOk X.prog X.w X.K X.mg X.base CX k f fd ps sp)(hr:Room k X.A)(hg:Gl X x)(hm:X.mg x=some (.ref f))(hk:Ve X.K (.ref f)=true)(hb:lX X.K fd ps ds)(hd:aP dvs ds)(hx:qX CX X E)
  (ha:PA X (e::es) t) (hdb:(x == ("__debug__" : Str))=false:=by decide) (he:V6 (e::es) X.env=(false,eval e X.env)::V6 es X.env:=by rfl) (hpl:(backTo pos (V6 es X.env)).any (·.1)=false:=by rfl) :
  PE X (.Call (.Name x p) (e::es) [] pos) (EY sp dvs E t):=by
 intro pins s σ H Q I h;refine Ue (sS I hg hm ?_ hdb);refine PySem.W.callWith_K (h₀:=X.base) I.ok.mod.kin hk (thn (ha pos pins s σ H _ I h) λus s1 ⟨vs,H1,I1,r,q⟩=>⟨I1.kIn,?_⟩) he hpl;exact Gq F hr hb hd hx I1 r q
end
def PK(X:Cx)(kws:List Keyword)(t:TA):Prop:=
 ∀ (pos:Pos) (pins:List (Addr × Obj)) (s:Shared) (σ:St) (H:Hp) (Q:List V->Hp->Prop),Inv X pins σ H s->t σ H Q->wpAny (model X.prog X.w) X.A (evalAll ((Vp pos (VL kws X.env)).map (·.2))) (AP X pins σ Q) X.xe s
section
variable {X:Cx} {CX:CXT} {k:Nat} {f C:Addr} {fd:WO} {ps ks:List Str} {sp:Sp} {E:XK} {x m:Str} {p pos apos kpos:Pos} {e o:Expr} {es:List Expr} {kws:List Keyword} {te ta:TE} {t tk:TA} {nm:Option Str}
theorem xo:PK X [] ij:=λ_ _ _ _ H Q I h=>wpAny_evalAll_nil ⟨[],H,I,.nil,h⟩
theorem sW(ha:PE X e te)(hr:PK X kws t):PK X (⟨nm,e,kpos⟩::kws) (bR te t):=by
 intro pos pins s σ H Q I h;show wpAny _ _ (evalAll ((do let v <-eval e X.env;standAt pos;pure v)::(Vp pos (VL kws X.env)).map (·.2))) _ _ s;refine wpAny_evalAll_cons (Uf (thn (ha pins s σ H _ I h) λu s1 ⟨x,H1,I1,r1,q1⟩=>Uf (UI (Uw ?_))));exact thn (hr pos pins s1 σ H1 _ I1 q1) λus s2 ⟨xs,H2,I2,r2,q2⟩=>⟨x::xs,H2,I2,.cons r1 r2,q2⟩
variable {g:List Value->List Value->List Value} {gV:List V->List V->List V}
end
structure FnScope(N P:List Str)(sc:Scope):Prop where
 kind:sc.kind = .function
 co:sc.isCoroutine=false
 gen:sc.isGenerator=false
 nd:N.Nodup
 pre:N.take P.length=P
 par:∀x ∈ P,sc.names.lookup x=some .local\/sc.names.lookup x=some .cell
 nofree:∀y ∈ sc.names,y.2 ≠ .free
theorem lY{kindOf:Str->Option WR}{x:Str}:∀ {binds:List (Str × Value)} {m:Str->Option Value},(∀v,(x,v) ∉ binds)->bindL kindOf binds m x=m x
 |[],_,_=>rfl
 |(n,v)::r,m,h=>by
  unfold bindL;rw[lY λw hw=>h w (Zg _ hw)];split
  ·have:x ≠ n:=by rintro rfl;exact h v Zi
   simp[this]
  ·rfl
theorem lZ{kindOf:Str->Option WR}{x:Str}:∀ {binds:List (Str × Value)} {m:Str->Option Value},(∀v,(x,v) ∉ binds)->bindC kindOf binds m x=m x
 |[],_,_=>rfl
 |(n,v)::r,m,h=>by
  unfold bindC;rw[lZ λw hw=>h w (Zg _ hw)];split
  ·rfl
  ·have:x ≠ n:=by rintro rfl;exact h v Zi
   simp[this]
theorem l5{kindOf:Str->Option WR}{x:Str}{v:Value}:∀ {P:List Str} {vs:List Value} {i:Nat} {m:Str->Option Value},P.Nodup->P[i]?=some x->vs[i]?=some v->kindOf x=some .local ->
  bindL kindOf (P.zip vs) m x=some v
 |[],_,_,_,_,h,_,_=>by simp at h
 |_::_,[],_,_,_,_,h,_=>by simp at h
 |p::P,w::vs,0,m,nd,h1,h2,hk=>by
  simp at h1 h2;subst h1;subst h2;show bindL kindOf ((p,w)::P.zip vs) m p=_;unfold bindL;rw[lY λv hv=>(Yj.mp nd).1 (Xk hv).1,if_pos hk];simp
 |p::P,w::vs,i+1,m,nd,h1,h2,hk=>by
  show bindL kindOf ((p,w)::P.zip vs) m x=_;unfold bindL;exact l5 (i:=i) (Yj.mp nd).2 (by simpa using h1) (by simpa using h2) hk
theorem l6{kindOf:Str->Option WR}{x:Str}{v:Value}:∀ {P:List Str} {vs:List Value} {i:Nat} {m:Str->Option Value},P.Nodup->P[i]?=some x->vs[i]?=some v->kindOf x ≠ some .local ->
  bindC kindOf (P.zip vs) m x=some v
 |[],_,_,_,_,h,_,_=>by simp at h
 |_::_,[],_,_,_,_,h,_=>by simp at h
 |p::P,w::vs,0,m,nd,h1,h2,hk=>by
  simp at h1 h2;subst h1;subst h2;show bindC kindOf ((p,w)::P.zip vs) m p=_;unfold bindC;rw[lZ λv hv=>(Yj.mp nd).1 (Xk hv).1,if_neg hk];simp
 |p::P,w::vs,i+1,m,nd,h1,h2,hk=>by
  show bindC kindOf ((p,w)::P.zip vs) m x=_;unfold bindC;exact l6 (i:=i) (Yj.mp nd).2 (by simpa using h1) (by simpa using h2) hk
abbrev fW(N:List Str)(vs:List V):St:=vs.map some++Zw (N.length - vs.length) none
abbrev qY(CX:CXT)(P:Program)(w:World)(K:W7)(mg:Str->Option Value)(base:Heap)(N:List Str)(qual:Str)(scope:Scope)(f:Addr)(cd:Value)(A:Around)(outer:List Env)(s:Shared)(H:Hp)(E:XK):Cx where
 prog:=P
 w:=w
 K:=K
 mg:=mg
 base:=base
 A:=A.deeper (envOfC qual scope s.heap.objs.size f cd)
 N:=N
 s₀:=s
 H₀:=H
 env:=envOfC qual scope s.heap.objs.size f cd
 outer:=outer
 stack:=envOfC qual scope s.heap.objs.size f cd::outer
 ex:=[]
 calm:=true
 fn:=λ_=>true
 pn:=[]
 xe:=λe s'=>wpAny (model P w) (A.deeper (envOfC qual scope s.heap.objs.size f cd)) (leaving (envOfC qual scope s.heap.objs.size f cd) e) (λ_ s''=>CX outer H s E e s'') (λe' s''=>CX outer H s E e' s'') s'
theorem o7{sc:Scope}{n:Nat}{x:Str}(h:sc.names.lookup x=some .cell):∃c,(Vx n sc.names []).lookup x=some c:=by
 have q:=W8 sc.names n [] (.inl h);exact Z2.mp q
theorem uY{CX:CXT}{P:Program}{w:World}{K:W7}{mg:Str->Option Value}{base:Heap}{N ps:List Str}{qual:Str}{scope:Scope}{f:Addr}{cd:Value}{A:Around}{outer:List Env}{s s1:Shared}{H:Hp}{E:XK}{us:List Value}{vs:List V}
  (S:FnScope N ps scope) (hd:A.handled=none) (e0:Env0 P w K mg base A outer s H) (hl:vs.length=ps.length) (r:aP vs us)
  (x:InCallC s s.heap.objs.size (bindL (envOfC qual scope s.heap.objs.size f cd).kindOf (ps.zip us) λ_=>none) (Vx (s.heap.objs.size+1) scope.names []) (bindC (envOfC qual scope s.heap.objs.size f cd).kindOf (ps.zip us) λ_=>none) s1) :
  Inv (qY CX P w K mg base N qual scope f cd A outer s H E) [] (fW N vs) H s1:=by
 have hpl:ps.length<=N.length:=by have:=congrArg Zj S.pre;rw[Yq] at this;lia
 obtain⟨h1,tk,rfl,hk⟩:=x.done;have noA:∀b:Addr,b ∉ (qY CX P w K mg base N qual scope f cd A outer s H E).ex:=λb z=>absurd (show b ∈ ([]:List Addr) from z) (by simp)
 refine⟨⟨e0.mod,S.kind,rfl,rfl,Zf _,λy z c h1 h2=>?_,λy hy=>?_,λy c _ h=>?_,λ_=>hd,Around.frames_deeper e0.frames,.inr ⟨rfl,rfl⟩,λb z=>absurd z (noA b),e0.bs,e0.bsz,λb _ _=>noA b,λb z=>absurd z (noA b),e0.funs,e0.frf⟩,
  rfl,e0.bare,Un.kept hk,⟨_,x.toInCall.ns,λi y v h1 h2 h3=>?_⟩,λy c h=>⟨_,x.cell y c h⟩,e0.hok.fresh (Zf _),λy c h=>?_,λp hp=>absurd (show p ∈ ([]:List (Addr × Obj)) from hp) (by simp),e0.hok.kept hk,?_⟩
 ·exact name_of_addr x.apart (VO h1) (VO h2)
 ·have hy:scope.names.lookup y=some .cell\/scope.names.lookup y=some .free:=hy;rcases hy with hy |hy
  ·exact o7 hy
  ·exact absurd rfl (S.nofree _ (VO hy))
 ·exact YU (x.above y c (VO h))
 ·have hi:i < vs.length:=by
   unfold fW at h2;by_cases hi:i < vs.length
   ·exact hi
   ·rw[Zp (by simpa using hi)] at h2;rw[Yr] at h2;split at h2 <;> cases h2
  have ha:vs[i]?=some v:=by
   unfold fW at h2;rw[Zu (by simpa using hi),Zo] at h2;cases e:vs[i]? with
   |none=>rw[e] at h2;cases h2
   |some a=>rw[e] at h2;cases h2;rfl
  obtain⟨u,hu,rv⟩:=r.get ha
  have hp:ps[i]?=some y:=by
   rw[<-S.pre,List.getElem?_take_of_lt (by lia)];exact h1
  have ndP:ps.Nodup:=by rw[<-S.pre];exact S.nd.sublist (List.take_sublist _ _)
  refine⟨u,rv,?_⟩;rcases S.par y (Ze hp) with k |k
  ·exact .inl ⟨k,l5 ndP hp hu k⟩
  ·obtain⟨c,e⟩:=o7 (n:=s.heap.objs.size+1) k;refine .inr ⟨.inl k,c,e,?_⟩;have q:=x.cell y c e;rw[l6 ndP hp hu (by show scope.names.lookup y ≠ _;rw[k];decide)] at q;exact q
 ·exact e0.hok.fresh (YU (x.above y c (VO h)))
 ·unfold fW;show _=N.length;rw[Zh,Za,Xn]
  lia
theorem Lj{CX:CXT}{P:Program}{w:World}{K:W7}{mg:Str->Option Value}{base:Heap}{k:Nat}{f:Addr}{name qual:Str}{params:Arguments}{body:List Stmt}{scope:Scope}{dV kV doc pm cdv ct oc:Value}{an od:Option Addr}
  {osl:Array (Option Value)} {N ps:List Str} {sp:Sp} (lk:K.lookup f=some ⟨oc,od,.func (Vb name qual params body scope dV kV doc pm an cdv ct),osl⟩) (hcd:W9 K cdv qual=true) (S:FnScope N ps scope)
  (len:∀vs H Q E,sp vs H Q E->vs.length=ps.length)
  (hbody:∀ (A:Around) (outer:List Env) (s:Shared) (H:Hp) (vs:List V) (Q:VK) (E:XK),Room k (A.deeper (envOfC qual scope s.heap.objs.size f cdv))->sp vs H Q E ->
   ∃t,PSs (qY CX P w K mg base N qual scope f cdv A outer s H E) body t/\t { nx:=λ_ H'=>Q .non H',rt:=Q } (fW N vs) H) :
  FnOk P w K mg base CX (k+1) f (Vb name qual params body scope dV kV doc pm an cdv ct) ps sp:=by
 refine⟨len,λA outer s H args us vs Q E hr e0 hb r hsp=>?_⟩;have hl:=len _ _ _ _ hsp;have KX:K.In s.heap:=e0.mod.kin.keeps λb o e=>(e0.bs b o e).1;have lim:s.heap.NoLimit:=e0.mod.nolimit.keeps λb o e=>(e0.bs b o e).1
 have hkind:∀y ∈ ps.zip us,scope.names.lookup y.1=some .local\/(scope.names.lookup y.1=some .cell/\((Vx (s.heap.objs.size+1) scope.names []).lookup y.1).isSome=true):=λ⟨n,v⟩ hy=>by
  rcases S.par n (Xk hy).1 with q |q
  ·exact .inl q
  ·exact .inr ⟨q,W8 _ _ _ (.inl q)⟩
 refine codeAny_call_function hr.depth (KX _ _ lk) rfl S.co S.gen rfl (PySem.W.codeRec_of KX hcd) (hb _ _ _ _ ?_);refine wpAny_newFunctionEnv_cells S.kind hkind λenv he s1 x=>?_;subst he;refine⟨lim.keeps x.toInCall.keep,codeAny_func ?_⟩;obtain⟨t,ht,hq⟩:=hbody A outer s H vs Q E (hr.deeper _) hsp;have I:Inv (qY CX P w K mg base N qual scope f cdv A outer s H E) [] (fW N vs) H s1:=uY S hr.hd e0 hl r x;refine Us (ht [] s1 (fW N vs) H _ I hq) (λfl s' hs=>?_) λe s' hs=>hs
 have fin:∀ {σ':St} {H':Hp} {v:V} {u:Value},Inv (qY CX P w K mg base N qual scope f cdv A outer s H E) [] σ' H' s'->aB v u->Q v H'->CE outer P w H s Q u s':=
  λ{σ' H' v u} J rv q=>⟨v,H',J.os,J.bare,J.base,J.hok,rv,q⟩
 cases fl with
 |ret u=>
  obtain⟨v,σ',H',J,rv,q⟩:=hs;exact fin J rv q
 |next=>
  obtain⟨σ',H',J,q⟩:=hs;exact fin (v:=V.non) (u:=Value.none) J rfl q
 |brk=>
  obtain⟨_,_,_,q⟩:=hs;exact False.elim q
 |cont=>
  obtain⟨_,_,_,q⟩:=hs;exact False.elim q
section
variable {X:Cx} {x:Str} {p pos:Pos} {e:Expr} {es:List Expr} {t:TA} {id T:String} {r:List V->Hp->VK->Prop}
def tCB(r:List V->Hp->VK->Prop)(t:TA):TE:=λσ H Q=>t σ H λvs H1=>r vs H1 Q
theorem gN(hc:aV X (.builtin id) r)(hg:Gl X x)(hm:X.mg x=none)(hv:Vt x=some (.builtin id))(ha:PA X (e::es) t)(hn:x ≠ "__name__" := by decide)(hdb:(x == ("__debug__" : Str))=false:=by decide)
  (he:V6 (e::es) X.env=(false,eval e X.env)::V6 es X.env:=by rfl) (hpl:(backTo pos (V6 es X.env)).any (·.1)=false:=by rfl):PE X (.Call (.Name x p) (e::es) [] pos) (tCB r t):=by
 intro pins s σ H Q I h;refine Ue (cV I hg hm hv ?_ hn hdb);exact PyProof.Rows.callWith_builtin1 (thn (ha pos pins s σ H _ I h) λus s1 ⟨vs,H1,I1,r1,q1⟩=>hc pins s1 σ H1 vs us Q I1 r1 q1) he hpl
theorem ik(hc:aV X (.type T) r)(hg:Gl X x)(hm:X.mg x=none)(hv:Vt x=some (.type T))(ha:PA X (e::es) t)(hn:x ≠ "__name__" := by decide)(hdb:(x == ("__debug__" : Str))=false:=by decide)
  (he:V6 (e::es) X.env=(false,eval e X.env)::V6 es X.env:=by rfl) (hpl:(backTo pos (V6 es X.env)).any (·.1)=false:=by rfl):PE X (.Call (.Name x p) (e::es) [] pos) (tCB r t):=by
 intro pins s σ H Q I h;refine Ue (cV I hg hm hv ?_ hn hdb);exact Wr (thn (ha pos pins s σ H _ I h) λus s1 ⟨vs,H1,I1,r1,q1⟩=>hc pins s1 σ H1 vs us Q I1 r1 q1) he hpl
end
end L2
namespace HT
open PySem PyProof.Rows
abbrev cz:List Int->List Int->Bool
 |[],[]=>false
 |[],_::_=>true
 |_::_,[]=>false
 |x::xs,y::ys=>if x=y then cz xs ys else decide (x < y)
theorem jH(x y:Int)(xs ys:List Int):cz (x::xs) (y::ys)=if x=y then cz xs ys else decide (x < y):=rfl
theorem lv:cz [] []=false:=rfl
theorem jI(y:Int)(ys:List Int):cz [] (y::ys)=true:=rfl
theorem jJ(x:Int)(xs:List Int):cz (x::xs) []=false:=rfl
theorem o8(A:Around)(s:Shared)(a:Int)(t:Tok)(c:Int)(u:Tok):∃e,WZ A s (.int a t) (.int c u) e/\(e=true ↔ a=c):=
 ⟨(a == c),SeqAt.EqAt.int_int a t c u,by simp⟩
theorem jK(A:Around)(s:Shared)(a:Int)(t:Tok)(c:Int)(u:Tok)(prog:Program)(w:World)(E:Value->Shared->Prop)(Q:Value->Shared->Prop)(h:Q (.bool (decide (a < c))) s) :
  wpAny (model prog w) A (VY .Lt (.int a t) (.int c u)) Q E s:=
 (PyProof.Rows.lt_int h:wpAny (model prog w) A (VA .Lt (.int a t) (.int c u)) Q E s)
section
open PySem.SeqAt
open PySem.AutoSeq1 (wpAny_loadPart')
open PySem.MeetsSeq PySem.MeetsSeq2 PySem.MeetsSeq3
theorem lw(l b:Addr)(items items2:Array Value)(n n2:Nat)(dd dd2:Option Addr)(sl sl2:Array (Option Value))(ns ms:List Int)(hi:IntsAre items.toList ns)(hj:IntsAre items2.toList ms) :
  Meets (Builtin.«tuple.__lt__» ⟨[.ref l,.ref b],[]⟩)
   (λ_ R s=>s.heap.get? l=some { cls:=.type "tuple", dict:=dd,data:=.seq items n,slots:=sl }/\s.heap.get? b=some { cls:=.type "tuple", dict:=dd2,data:=.seq items2 n2,slots:=sl2 } ∧
    R (.ok (.ret (.bool (cz ns ms)))) s):=
 .of_wp λprog w A R s h=>by
  obtain⟨hp,g,d,tk,os⟩:=s;obtain⟨hl,hb,h⟩:=h;have f2:=AutoSeq1.sub_tuple_tuple;have z1:items.size=ns.length:=by rw[<-hi.length];simp
  have z2:items2.size=ms.length:=by rw[<-hj.length];simp
  wp_walk using Ur hl,Ur hb,Ul _ (λrest b s'=>b.1=none/\s'=⟨hp,g,d,tk,os⟩/\∃ (vs ws:List Value) (ns' ms':List Int),rest=vs.zip ws ∧
   IntsAre vs ns'/\IntsAre ws ms'/\ns'.length+items2.size=ms'.length+items.size/\R (.ok (.ret (.bool (cz ns' ms')))) ⟨hp,g,d,tk,os⟩) _
  case turn=>
   rintro⟨y,x⟩ rest b s' ⟨hb',rfl,vs,ws,ns',ms',hz,hvi,hwi,hlen,hR⟩;cases hvi with
   |nil=>rw[List.zip_nil_left] at hz;cases hz
   |cons a t hvi'=>
    cases hwi with
    |nil=>rw[List.zip_nil_right] at hz;cases hz
    |cons c u hwi'=>
     rw[Z4] at hz;injection hz with hyx hrest;injection hyx with hy hx;subst hy hx;rw[jH] at hR;simp only[Zv] at hlen;obtain⟨e,he,hiff⟩:=o8 A.in1 ⟨hp,g,d,tk,os⟩ a t c u;refine Uf (he prog w _ _ ?_);cases e with
     |true=>
      rw[if_pos (hiff.mp rfl)] at hR
      wp_walk
      exact⟨rfl,rfl,_,_,_,_,hrest,hvi',hwi',by lia,hR⟩
     |false=>
      rw[if_neg (λq=>absurd (hiff.mpr q) Zd)] at hR;have hri:=jK A.in1 ⟨hp,g,d,tk,os⟩ a t c u prog w
      wp_walk using hri
      exact⟨_,rfl,by simpa using hR⟩
  case fin=>
   rintro⟨b1,b2⟩ s' ⟨hb',rfl,vs,ws,ns',ms',hz,hvi,hwi,hlen,hR⟩;simp only at hb';subst hb'
   have hv:cz ns' ms'=decide (items.size < items2.size):=by
    cases hvi with
    |nil=>
     cases hwi with
     |nil=>
      simp only[Z3] at hlen;rw[lv];exact(decide_eq_false (by lia)).symm
     |cons c u hw=>
      simp only[Z3,Zv] at hlen;rw[jI];exact(decide_eq_true (by lia)).symm
    |cons a t hv=>
     cases hwi with
     |nil=>
      simp only[Z3,Zv] at hlen;rw[jJ];exact(decide_eq_false (by lia)).symm
     |cons c u hw=>
      rw[Z4] at hz;cases hz
   rw[hv] at hR
   wp_walk
   exact⟨_,rfl,by simpa[Builtin.Tuple.tupleCompareSizes] using hR⟩
  case h=>
   exact⟨rfl,rfl,items.toList,items2.toList,ns,ms,rfl,hi,hj,by lia,h⟩
end
section
variable {prog:Program} {w:World} {A:Around} {E:Value->Shared->Prop} {s:Shared}
theorem qZ(hl:IsTup s.heap l items)(hb:IsTup s.heap b items2)(hi:IntsAre items.toList ns)(hj:IntsAre items2.toList ms)
  (hu:A.units < cLine) (h:Q (.bool (cz ns ms)) s):wpAny (model prog w) A (VA .Lt (.ref l) (.ref b)) Q E s:=by
 obtain⟨⟨cls,dd,data,sl⟩,ho,hc,n,hd⟩:=id hl;obtain⟨⟨cls2,dd2,data2,sl2⟩,ho2,hc2,n2,hd2⟩:=id hb;simp only at hc hd hc2 hd2;subst hc hd hc2 hd2
 exact VZ (op:=.Lt) ⟨_,ho,rfl⟩ ⟨_,ho2,rfl⟩ WN WC (Wx _ _) (lw l b items items2 n n2 dd dd2 sl sl2 ns ms hi hj)
  ⟨ho,ho2,show Value.bool (cz ns ms) ≠ Value.notImplemented/\Q (.bool (cz ns ms)) s from ⟨(λx=>nomatch x),h⟩⟩ hu
theorem Bk(ht:IsTup s.heap t vs.toArray)(hb:IsTup s.heap b ws.toArray)(hv:vs ≠ [])
  (h1:ws=[]->Q (.ref t) s) (h2:ws ≠ []->Q (.ref s.heap.objs.size) { s with heap:=s.heap.push { cls:=.type "tuple", data:=.seq (vs++ws).toArray } })
  (hsz:vs.length+ws.length<=sizeLine):wpAny (model prog w) A (Vr .Add (.ref t) (.ref b)) Q E s:=by
 obtain⟨⟨cls,dd,data,sl⟩,ho,hc,n,hd⟩:=id ht;obtain⟨⟨cls2,dd2,data2,sl2⟩,ho2,hc2,n2,hd2⟩:=id hb;simp only at hc hd hc2 hd2;subst hc hd hc2 hd2;have e:vs.toArray++ws.toArray=(vs++ws).toArray:=by simp
 by_cases hw:ws=[]
 ·exact VB ⟨_,ho,rfl⟩ ⟨_,ho2,rfl⟩ VQ V3 WK WA (Wv _ _)
   (tuple_addW1 t b vs.toArray ws.toArray n n2 dd dd2 sl sl2 (by simpa using hv) (by simp[hw])) ⟨ho,ho2,h1 hw⟩
 ·refine VB ⟨_,ho,rfl⟩ ⟨_,ho2,rfl⟩ VQ V3 WK WA (Wv _ _)
   (tuple_addW2 t b vs.toArray ws.toArray n n2 dd dd2 sl sl2 (by simpa using hv) (by simpa using hw) (by rw[Zk,Zk];exact hsz)) ⟨ho,ho2,?_⟩
  rw[e];exact h2 hw
abbrev sIx(n d:Nat):Option Int->Nat
 |none=>d
 |some v=>if v < 0 then (v+(n:Int)).toNat else min v.toNat n
theorem xq(n d:Nat):sIx n d none=d:=rfl
theorem Gr(n d:Nat)(hd:d<=n)(o:Option Int):sIx n d o<=n:=by
 cases o with
 |none=>exact hd
 |some v=>
  show(if v < 0 then (v+(n:Int)).toNat else min v.toNat n)<=n;by_cases hv:v < 0
  ·rw[if_pos hv];lia
  ·rw[if_neg hv];exact Nat.min_le_right _ _
theorem sX(v:Int)(n d:Nat):(if v < 0 then max (v+(n:Int)) 0 else min v (n:Int))=((sIx n d (some v):Nat):Int):=by
 show(if v < 0 then max (v+(n:Int)) 0 else min v (n:Int))=(((if v < 0 then (v+(n:Int)).toNat else min v.toNat n):Nat):Int);by_cases hv:v < 0
 ·simp only[if_pos hv];lia
 ·simp only[if_neg hv];lia
theorem q8(lo hi:Option Int)(n:Nat):Builtin.Slice.sliceAdjust lo hi 1 (n:Int)=(((sIx n 0 lo:Nat):Int),((sIx n n hi:Nat):Int)):=by
 have h1:¬ ((1:Int) < 0):=by lia
 unfold Builtin.Slice.sliceAdjust;simp only[h1,if_false];refine Prod.ext ?_ ?_
 ·cases lo with
  |none=>rfl
  |some v=>exact sX v n 0
 ·cases hi with
  |none=>rfl
  |some v=>exact sX v n n
theorem ra(i j:Nat):Builtin.Slice.slicePlaces (i:Int) (j:Int) 1=j - i:=by
 unfold Builtin.Slice.slicePlaces;have h1:(1:Int) > 0:=by lia
 simp only[h1,if_true,Wg];split <;> lia
theorem jL(p:IsPart v o)(h:Q o s):wpAny (model prog w) A (Builtin.Slice.slicePartIndex v) Q E s:=by
 cases p with
 |none=>exact slicePart_none h
 |int i t=>exact slicePart_int h
theorem dh{sl:Addr}{vl vu:Value}{lo hi:Option Int}{n:Nat}{Q:Int × Int × Nat->Shared->Prop}(hs:s.heap.IsSliceOf sl vl vu .none)(pl:IsPart vl lo)(pu:IsPart vu hi)
  (h:Q (((sIx n 0 lo:Nat):Int),1,sIx n n hi - sIx n 0 lo) s):wpAny (model prog w) A (Builtin.Slice.sliceApplied (.ref sl) (pure (n:Int))) Q E s:=by
 obtain⟨os,hos,hcs,hds⟩:=id hs;unfold Builtin.Slice.sliceApplied Builtin.Slice.sliceFields;refine Uf (Uf (Uk hos hds (x:=vl) rfl (Uf (Uk hos hds (x:=vu) rfl (Uf (Uk hos hds (x:=.none) rfl (Uw ?_)))))));refine Uf (slicePart_none ?_);show wpAny _ _ (if ((1:Int) == 0)=true then _ else _) _ _ s;rw[if_neg (by decide)];refine Uf (jL pl (Uf (jL pu (Uf (Uw ?_)))));show wpAny _ _ (match Builtin.Slice.sliceAdjust lo hi 1 (n:Int) with |(lo,hi)=>pure (lo,(1:Int),Builtin.Slice.slicePlaces lo hi 1)) _ _ s;rw[q8 lo hi n];show wpAny _ _ (pure (((sIx n 0 lo:Nat):Int),(1:Int),Builtin.Slice.slicePlaces ((sIx n 0 lo:Nat):Int) ((sIx n n hi:Nat):Int) 1)) _ _ s;rw[ra];exact Uw h
theorem xr(xs:Array Value)(i k:Nat):((Zl k).filterMap λ(m:Nat)=>xs[((i:Int)+(m:Int) * 1).toNat]?).toArray=((xs.toList.drop i).take k).toArray:=by
 have e:(λ(m:Nat)=>xs[((i:Int)+(m:Int) * 1).toNat]?)=λm=>xs[i+m]?:=by
  funext m
  have:((i:Int)+(m:Int) * 1).toNat=i+m:=by lia
  rw[this]
 rw[e];have:=pick_run xs i k;rw[Yu] at this;have e2:((λx=>xs[x]?) ∘ λx=>i+x)=λm=>xs[i+m]?:=rfl;rw[e2] at this;rw[this]
theorem gO{t sl:Addr}{items:Array Value}{vl vu:Value}{lo hi:Option Int}{Q:Value->Shared->Prop}(ht:IsTup s.heap t items)(hs:s.heap.IsSliceOf sl vl vu .none)(pl:IsPart vl lo)(pu:IsPart vu hi)
  (hw:¬ (sIx items.size 0 lo=0/\sIx items.size items.size hi=items.size))
  (h:Q (.ref s.heap.objs.size) { s with heap:=s.heap.push { cls:=.type "tuple", data:=.seq ((items.toList.drop (sIx items.size 0 lo)).take (sIx items.size items.size hi - sIx items.size 0 lo)).toArray } })
  (hsz:items.size<=sizeLine):wpAny (model prog w) A (getItem (.ref t) (.ref sl)) Q E s:=by
 have htake:sizeOk (.seq ((items.toList.drop (sIx items.size 0 lo)).take (sIx items.size items.size hi - sIx items.size 0 lo)).toArray):=by
  show((items.toList.drop (sIx items.size 0 lo)).take (sIx items.size items.size hi - sIx items.size 0 lo)).toArray.size<=sizeLine;rw[Zk,Yq,Y8,Zy]
  lia
 have hj:sIx items.size items.size hi<=items.size:=Gr _ _ (Zf _) hi;obtain⟨os,hos,hcs,hds⟩:=id hs;have hTs:s.TypeIs (.ref sl) "slice" := ⟨os,hos,hcs⟩;unfold getItem
 try with_reducible refine Uo ?_
 first |refine Uf (Uw ?_) |skip
 refine Uf (UG ht.typeIs (by decide) ?_)
 refine Uf (wpAny_callSpecial?_slot (name:=Str.ofString "__getitem__") ht.typeIs Ws
  (Uh Ws ht.typeIs entry_tuple_getitem ?_ (args_tuple_getitem _ _)))
 show wpAny _ _ (Builtin.Tuple.tupleItemsOf (.ref t) >>= _) _ _ s;refine Uf (tupleItemsOf_ ht ?_);refine Uf (UL hTs ?_);rw[if_pos (by decide)];refine Uf (dh hs pl pu ?_)
 have hno:¬ ((((sIx items.size 0 lo:Nat):Int) == 0 && (1:Int) == 1 && (sIx items.size items.size hi - sIx items.size 0 lo) == items.size)=true):=by
  intro q;rw[bAE,bAE] at q;have q1:((sIx items.size 0 lo:Nat):Int)=0:=eq_of_beq q.1.1;have q2:sIx items.size items.size hi - sIx items.size 0 lo=items.size:=eq_of_beq q.2;exact hw ⟨by lia,by lia⟩
 show wpAny _ _ (if (((sIx items.size 0 lo:Nat):Int) == 0 && (1:Int) == 1 && (sIx items.size items.size hi - sIx items.size 0 lo) == items.size)=true then _ else _) _ _ s;rw[if_neg hno,xr]
 first
  |exact Uf (m:=Builtin.Tuple.tupleExact _) (Ut (Uw ⟨_,rfl,Uw h⟩) htake)
  |exact Uf (m:=Builtin.Tuple.tupleExact _) (Ut (Uf (Uw (Uw ⟨_,rfl,Uw h⟩))) htake)
  |exact Uf (Uf (m:=Builtin.Tuple.tupleExact _) (Ut (Uw (Uw ⟨_,rfl,Uw h⟩)) htake))
  |exact Uf (Uf (m:=Builtin.Tuple.tupleExact _) (Ut (Uw ⟨_,rfl,Uw h⟩) htake))
end
end HT
namespace L2
open PySem PySem.Spec PyProof.Rows
@[inline]abbrev TO:=St->Hp->(Option Int->Hp->Prop)->Prop
def PO(X:Cx)(e:Option Expr)(t:TO):Prop:=
 ∀ (pins:List (Addr × Obj)) (s:Shared) (σ:St) (H:Hp) (Q:Option Int->Hp->Prop),Inv X pins σ H s->t σ H Q ->
  wpAny (model X.prog X.w) X.A (evalPart e X.env) (λu s'=>∃o H',Inv X pins σ H' s'/\IsPart u o/\Q o H') X.xe s
def sY:TO:=λ_ H Q=>Q none H
def EZ(t:TE):TO:=λσ H Q=>t σ H λx H1=>∃i,x = .int i/\Q (some i) H1
section
variable {X:Cx} {e:Expr} {te:TE} {lo hi:Option Expr} {tl th:TO} {pos p2:Pos}
theorem Bl:PO X none sY:=by
 intro pins s σ H Q I h;rw[VF];exact Uw ⟨none,H,I,.none,h⟩
theorem sZ(h:PE X e te):PO X (some e) (EZ te):=by
 intro pins s σ H Q I hw;rw[evalPart_some];refine thn (h pins s σ H _ I hw) λu s1 ⟨x,H1,I1,r1,q1⟩=>?_;obtain⟨i,rfl,q⟩:=q1;obtain⟨t,rfl⟩:=r1;exact⟨some i,H1,I1,.int i t,q⟩
def SlR(X:Cx)(r:V->Option Int->Option Int->Hp->VK->Prop):Prop:=
 ∀ (pins:List (Addr × Obj)) (s:Shared) (σ:St) (H:Hp) (x:V) (v vl vu:Value) (lo hi:Option Int) (sl:Addr) (Q:VK),Inv X pins σ H s->aB x v->s.heap.IsSliceOf sl vl vu .none->IsPart vl lo->IsPart vu hi->r x lo hi H Q ->
  ∃T id,typeLookup (.type T) "__getitem__" = pure (some (.builtin id))/\s.TypeIs v T/\wpAny (model X.prog X.w) X.A (getItem v (.ref sl)) (EP X pins σ Q) X.xe s
theorem SlR.or{r r':V->Option Int->Option Int->Hp->VK->Prop}(h:SlR X r)(h':SlR X r'):SlR X (λx lo hi H Q=>r x lo hi H Q\/r' x lo hi H Q):=by
 intro pins s σ H x v vl vu lo hi sl Q I rx hs pl pu q;rcases q with q |q
 ·exact h pins s σ H x v vl vu lo hi sl Q I rx hs pl pu q
 ·exact h' pins s σ H x v vl vu lo hi sl Q I rx hs pl pu q
def tSl(r:V->Option Int->Option Int->Hp->VK->Prop)(te:TE)(tl th:TO):TE:=λσ H Q=>te σ H λx H1=>tl σ H1 λl H2=>th σ H2 λu H3=>r x l u H3 Q
theorem xt(hr:SlR X r)(he:PE X e te)(hl:PO X lo tl)(hu:PO X hi th):PE X (.Subscript e (.Slice lo hi none p2) pos) (tSl r te tl th):=by
 intro pins s σ H Q I h;refine Subscript_ (thn (he pins s σ H _ I h) λv s1 ⟨x,H1,I1,r1,q1⟩=>?_);refine wpAny_Slice (thn (hl pins s1 σ H1 _ I1 q1) λvl s2 ⟨l,H2,I2,pl,q2⟩=>thn (hu pins s2 σ H2 _ I2 q2) λvu s3 ⟨u,H3,I3,pu,q3⟩=>?_);rw[VF];refine Uw ?_;have I4:Inv X pins σ H3 { s3 with heap:=s3.heap.push { cls:=.type "slice", data:=.fields #[vl,vu,.none] } }:=I3.kept (t':=s3.toks) λb ob q=>Zc _ q;obtain⟨T,id,hT,ht,hg⟩:=hr pins { s3 with heap:=s3.heap.push { cls:=.type "slice", data:=.fields #[vl,vu,.none] } } σ H3 x v vl vu l u s3.heap.objs.size Q I4 r1 (Heap.IsSliceOf.new ..) pl pu q3;show wpAny (model X.prog X.w) X.A (subscriptTail e (.Slice lo hi none p2) v (.ref s3.heap.objs.size)) (EP X pins σ Q) X.xe { s3 with heap:=s3.heap.push { cls:=.type "slice", data:=.fields #[vl,vu,.none] } };exact tail_any (ops:=[.ref s3.heap.objs.size,v]) ht hT hg (by with_unfolding_all rfl)
abbrev jM(xs:List V)(lo hi:Option Int):List V:=(xs.drop (HT.sIx xs.length 0 lo)).take (HT.sIx xs.length xs.length hi - HT.sIx xs.length 0 lo)
theorem iP(xs:List V)(lo hi:Option Int):(jM xs lo hi).length<=xs.length:=by
 unfold jM;rw[Yq,Y8]
 lia
def N6(K:W7):V->Option Int->Option Int->Hp->VK->Prop:=λx lo hi H Q=>∃a xs,x = .ref a/\SqT K H a xs ∧
 ¬ (HT.sIx xs.length 0 lo=0/\HT.sIx xs.length xs.length hi=xs.length)/\∀p,H p=none->Q (.ref p) (upd H p (.tup (jM xs lo hi)))
theorem Gu:SlR X (N6 X.K):=by
 intro pins s σ H x v vl vu lo hi sl Q I rx hs pl pu h;obtain⟨a,xs,rfl,hx,hw,q⟩:=h;cases rx;obtain⟨its,r,ht,hz⟩:=I.tuple hx;have hlen:its.toArray.size=xs.length:=by rw[Zk];exact r.length.symm
 refine⟨"tuple", _,PyProof.Rows.slot_tuple_getitem.lookup,ht.typeIs,?_⟩;refine HT.gO ht hs pl pu (by rw[hlen];exact hw) ?_ (by rw[hlen];exact hz);rw[hlen];refine⟨.ref s.heap.objs.size,_,I.laid (t':=s.toks) (o:=.tup (jM xs lo hi)) (λb ob q=>Zc _ q) (Zf _) ?_,rfl,q _ (I.hok.fresh (Zf _))⟩;exact⟨ZI (iP xs lo hi) hz,_,(r.drop (HT.sIx xs.length 0 lo)).take (HT.sIx xs.length xs.length hi - HT.sIx xs.length 0 lo),m9.new _ _⟩
def Lk(K:W7):R2:=λx y H Q=>∃a b xs ys,x = .ref a/\y = .ref b/\SqT K H a xs/\SqT K H b ys/\xs ≠ []/\xs.length+ys.length<=sizeLine ∧
 (ys=[]->Q (.ref a) H)/\(ys ≠ []->∀p,H p=none->Q (.ref p) (upd H p (.tup (xs++ys))))
theorem aP.nil_iff(r:aP xs us):us=[] ↔ xs=[]:=by
 cases r with
 |nil=>simp
 |cons _ _=>simp
theorem Bm:OpR X (Vr .Add) (Lk X.K):=by
 intro pins s σ H x y v u Q I rx ry h;obtain⟨a,b,xs,ys,rfl,rfl,ha,hb,hx,hz,q1,q2⟩:=h;cases rx;cases ry;obtain⟨its,r1,p1,_⟩:=I.tuple ha;obtain⟨its2,r2,p2,_⟩:=I.tuple hb;refine HT.Bk p1 p2 (λz=>hx (r1.nil_iff.mp z)) (λz=>⟨.ref a,H,I,rfl,q1 (r2.nil_iff.mp z)⟩) (λz=>?_) (by rw[<-r1.length,<-r2.length];exact hz);refine⟨.ref s.heap.objs.size,_,I.laid (t':=s.toks) (o:=.tup (xs++ys)) (λb ob q=>Zc _ q) (Zf _) ?_,rfl,q2 (λw=>z (r2.nil_iff.mpr w)) _ (I.hok.fresh (Zf _))⟩;exact⟨by rw[Zh];exact hz,_,r1.append r2,m9.new _ _⟩
end
abbrev ixN(n:Nat)(i:Int):Option Nat:=if 0<=i then (if i < n then some i.toNat else none) else if -(n:Int)<=i then some (i+n).toNat else none
abbrev atI{α:Type}(xs:List α)(i:Int):Option α:=(ixN xs.length i).bind λj=>xs[j]?
theorem ni{n:Nat}{i:Int}{j:Nat}(h:ixN n i=some j):seqIndex? i n=some j/\j < n/\-(n:Int)<=i/\i < n:=by
 unfold ixN at h;by_cases h0:0<=i
 ·rw[if_pos h0] at h;by_cases h1:i < n
  ·rw[if_pos h1] at h;have e:i.toNat=j:=Option.some.inj h;exact⟨by rw[V1 h0 h1,e],by lia,by lia,h1⟩
  ·rw[if_neg h1] at h;cases h
 ·rw[if_neg h0] at h;by_cases h1:-(n:Int)<=i
  ·rw[if_pos h1] at h;have e:(i+n).toNat=j:=Option.some.inj h;exact⟨by rw[V0 (by lia) h1,e],by lia,h1,by lia⟩
  ·rw[if_neg h1] at h;cases h
theorem nj{α:Type}{xs:List α}{i:Int}{v:α}(h:atI xs i=some v):∃j,seqIndex? i xs.length=some j/\xs[j]?=some v/\j < xs.length/\-(xs.length:Int)<=i/\i < xs.length:=by
 unfold atI at h;cases e:ixN xs.length i with
 |none=>rw[e] at h;cases h
 |some j=>
  rw[e] at h;obtain⟨h1,h2,h3,h4⟩:=ni e;exact⟨j,h1,h,h2,h3,h4⟩
theorem td{α:Type}{xs:List α}{j:Nat}{v:α}(h:xs[j]?=some v):atI xs (j:Int)=some v:=by
 have hj:j < xs.length:=(Zb.mp h).1
 have e:ixN xs.length (j:Int)=some j:=by
  unfold ixN;rw[if_pos (by lia),if_pos (by lia)];simp
 unfold atI;rw[e];exact h
def tf(b:Expr):Prop:=∀o i,subscripted b false o i=operate [o,i] (getItem o i)
def IxR(X:Cx)(r:R2):Prop:=
 ∀ (value slice:Expr) (pins:List (Addr × Obj)) (s:Shared) (σ:St) (H:Hp) (x y:V) (v u:Value) (Q:VK),Inv X pins σ H s->aB x v->aB y u->r x y H Q ->
  subscripted slice false v u=operate [v,u] (getItem v u)->wpAny (model X.prog X.w) X.A (subscriptTail value slice v u) (EP X pins σ Q) X.xe s
def MtR(X:Cx)(id:String)(r:V->List V->Hp->VK->Prop):Prop:=
 ∀ (pins:List (Addr × Obj)) (s:Shared) (σ:St) (H:Hp) (x:V) (xs:List V) (v:Value) (us:List Value) (Q:VK),Inv X pins σ H s->aB x v->aP xs us->r x xs H Q ->
  wpAny (model X.prog X.w) X.A (call (.builtin id) (v::us)) (EP X pins σ Q) X.xe s
section
variable {X:Cx} {a b:Expr} {ta tb:TE} {pos:Pos}
theorem IxR.or{r r':R2}(h:IxR X r)(h':IxR X r'):IxR X (λx y H Q=>r x y H Q\/r' x y H Q):=by
 intro value slice pins s σ H x y v u Q I rx ry q hs;rcases q with q |q
 ·exact h value slice pins s σ H x y v u Q I rx ry q hs
 ·exact h' value slice pins s σ H x y v u Q I rx ry q hs
theorem E5(hr:IxR X r)(ha:PE X a ta)(hb:PE X b tb)(hs:tf b):PE X (.Subscript a b pos) (tOp r ta tb):=by
 intro pins s σ H Q I h;exact Subscript_ (Gf ha hb I h λv u s2 x y H2 I2 rx ry q=>hr a b pins s2 σ H2 x y v u Q I2 rx ry q (hs _ _))
def Ll(K:W7):R2:=λx y H Q=>∃p xs i v,x = .ref p/\y = .int i/\SqL K H p xs/\atI xs i=some v/\Q v H
def Lm(K:W7):R2:=λx y H Q=>∃p xs i v,x = .ref p/\y = .int i/\SqT K H p xs/\atI xs i=some v/\Q v H
def Ln:R2:=λx y H Q=>∃z i c,x = .str z/\y = .int i/\z.length<=sizeLine/\atI z.cps.toList i=some c/\Q (.str ⟨#[c]⟩) H
theorem NV:IxR X (Ll X.K):=by
 intro value slice pins s σ H x y v u Q I rx ry h hs;obtain⟨p,xs,i,z,rfl,rfl,hq,he,q⟩:=h;cases rx;obtain⟨t,rfl⟩:=ry;obtain⟨its,r,pl,hz⟩:=I.list hq;obtain⟨j,h1,h2,h3,h4,h5⟩:=nj he;obtain⟨w,ew,rw'⟩:=r.get h2;have hl:=r.length;have hn:=ig;have fin:EP X pins σ Q w s:=⟨z,H,I,rw',q⟩;by_cases h0:0<=i
 ·have hj:i.toNat=j:=by
   rw[V1 h0 h5] at h1;exact Option.some.inj h1
  exact item_listR pl.isList h0 (by lia) (by rw[hj];simpa using ew) fin hs
 ·have hj:(i+(its.toArray.size:Int)).toNat=j:=by
   rw[V0 (by lia) h4] at h1;rw[Zk,<-hl];exact Option.some.inj h1
  exact subscriptTail_builtinR (x:=w) pl.isList.typeIs slot_list_getitem.lookup
   (wpAny_getItem_list_neg (Q:=λr s'=>r=w/\EP X pins σ Q r s') pl.isList (by lia) (by rw[Zk] <;> lia) (by lia) (by rw[hj];simpa using ew) ⟨rfl,fin⟩) hs
theorem xu:IxR X (Lm X.K):=by
 intro value slice pins s σ H x y v u Q I rx ry h hs;obtain⟨p,xs,i,z,rfl,rfl,hq,he,q⟩:=h;cases rx;obtain⟨t,rfl⟩:=ry;obtain⟨its,r,pl,hz⟩:=I.tuple hq;obtain⟨j,h1,h2,h3,h4,h5⟩:=nj he;obtain⟨w,ew,rw'⟩:=r.get h2;have hl:=r.length;have hn:=ig;have fin:EP X pins σ Q w s:=⟨z,H,I,rw',q⟩
 exact subscriptTail_builtinR (x:=w) pl.typeIs slot_tuple_getitem.lookup
  (getItem_tuple (j:=j) (Q:=λr s'=>r=w/\EP X pins σ Q r s') pl (by lia) (by lia) (by rw[Zk,<-hl];exact h1) (by simpa using ew) ⟨rfl,fin⟩) hs
theorem Gv:IxR X Ln:=by
 intro value slice pins s σ H x y v u Q I rx ry h hs;obtain⟨z,i,c,rfl,rfl,hz,he,q⟩:=h;obtain⟨t,rfl⟩:=rx;obtain⟨t',rfl⟩:=ry;obtain⟨j,h1,h2,h3,h4,h5⟩:=nj he;have hl:z.cps.toList.length=z.length:=by simp[Str.length]
 rw[hl] at h1 h4 h5;have hn:=ig
 exact tail_any (typeIs_str s z t) slot_str_getitem.lookup (getItem_str (c:=c) (by
  have e1:decide (i < -(2 ^ 63:Int))=false:=decide_eq_false (by lia);have e2:decide (i ≥ 2 ^ 63)=false:=decide_eq_false (by lia);rw[e1,e2,Wd]) (by rw[h1];simpa using h2) ⟨.str ⟨#[c]⟩,H,I.tok _,⟨_,rfl⟩,q⟩) hs
def rIx(K:W7):R2:=λx y H Q=>Ll K x y H Q\/Lm K x y H Q\/Ln x y H Q
theorem xv:IxR X (rIx X.K):=NV.or (xu.or Gv)
theorem rb(its:List Value)(n j:Nat)(u:Value):Obj.mapSeq (·.setIfInBounds j u) { cls:=.type "list", data:=.seq its.toArray n }={ cls:=.type "list", data:=.seq (its.set j u).toArray n }:=by
 simp[Obj.mapSeq]
theorem Inv.lst{pins:List (Addr × Obj)}{σ:St}{H:Hp}{s:Shared}{p:Addr}{xs:List V}(I:Inv X pins σ H s)(h:H p=some (.lst xs)) :
  ∃ (its:List Value) (n:Nat),aP xs its/\s.heap.get? p=some { cls:=.type "list", data:=.seq its.toArray n }/\xs.length<=sizeLine:=by
 obtain⟨z,its,n,r,e⟩:=I.hok p _ h;exact⟨its,n,r,e,z⟩
theorem Inv.lstUpd{pins:List (Addr × Obj)}{σ:St}{H:Hp}{s:Shared}{p:Addr}{xs ys:List V}{its its':List Value}{n n':Nat}{f:Obj->Obj}(I:Inv X pins σ H s)(h:H p=some (.lst xs))
  (ho:s.heap.get? p=some { cls:=.type "list", data:=.seq its.toArray n }) (hf:f { cls:=.type "list", data:=.seq its.toArray n }={ cls:=.type "list", data:=.seq its'.toArray n' }) (r:aP ys its') (hz:ys.length<=sizeLine) (t:Nat) :
  Inv X pins σ (upd H p (.lst ys)) { s with heap:=s.heap.update p f,toks:=t }:=by
 have e:(s.heap.update p f).get? p=some { cls:=.type "list", data:=.seq its'.toArray n' }:=by
  rw[Z8 f ho (by rw[hf] <;> rfl),hf]
 refine I.write (x:=p) (e:=p) (by rw[h];trivial) (.inl rfl) (λb u hb q=>(ZH _ _ (Ne.symm hb)).trans q) ⟨_,e⟩ ?_;exact⟨hz,its',n',r,e⟩
def Lp:V->V->V->Hp->(Hp->Prop)->Prop:=λo i v H Q=>∃p xs k j,o = .ref p/\i = .int k/\H p=some (.lst xs)/\ixN xs.length k=some j/\Q (upd H p (.lst (xs.set j v)))
theorem xw:F7 X Lp:=by
 intro pins s σ H o i v ov iv u Q I ro ri rv h;obtain⟨p,xs,k,j,rfl,rfl,hp,hj,q⟩:=h;cases ro;obtain⟨t,rfl⟩:=ri;obtain⟨its,n,r,ho,hz⟩:=I.lst hp;obtain⟨h1,h2,h3,h4⟩:=ni hj;have hl:=r.length;have hn:=ig
 have I':Inv X pins σ (upd H p (.lst (xs.set j v))) { s with heap:=s.heap.update p (Obj.mapSeq (·.setIfInBounds j u)) }:=
  I.lstUpd hp ho (rb its n j u) (r.set rv j) (by rw[ZY];exact hz) s.toks
 by_cases h0:0<=k
 ·have hk:k.toNat=j:=by
   rw[V1 h0 h4] at h1;exact Option.some.inj h1
  exact PySem.W.ki_setAt ho h0 (by lia) (by rw[Zk,<-hl];exact h4) (by rw[hk];exact⟨_,I',q⟩)
 ·have hk:(k+(its.toArray.size:Int)).toNat=j:=by
   rw[V0 (by lia) h3] at h1;rw[Zk,<-hl];exact Option.some.inj h1
  exact PySem.W.ki_setBack ho (by lia) (by rw[Zk,<-hl];exact h3) (by lia) (by rw[hk];exact⟨_,I',q⟩)
theorem nk(lo hi:Option Int)(n:Nat):(V5 lo hi none n).1=((HT.sIx n 0 lo:Nat):Int)/\(V5 lo hi none n).2.1=((HT.sIx n n hi:Nat):Int)/\(V5 lo hi none n).2.2=1:=by
 refine⟨?_,?_,rfl⟩
 ·cases lo with
  |none=>simp[V5,HT.sIx]
  |some i=>
   simp only[V5,HT.sIx,XM,show(1:Int) > 0 by decide,if_true];by_cases h:i < 0
   ·simp only[h,if_true] <;> lia
   ·simp only[h,if_false] <;> lia
 ·cases hi with
  |none=>simp[V5,HT.sIx]
  |some i=>
   simp only[V5,HT.sIx,XM,show(1:Int) > 0 by decide,if_true];by_cases h:i < 0
   ·simp only[h,if_true] <;> lia
   ·simp only[h,if_false] <;> lia
theorem lx(its:List Value)(lo hi:Option Int):slicePick its.toArray lo hi none=((its.drop (HT.sIx its.length 0 lo)).take (HT.sIx its.length its.length hi - HT.sIx its.length 0 lo)).toArray:=by
 obtain⟨h1,h2,h3⟩:=nk lo hi its.toArray.size;unfold slicePick;rw[h1,h2,h3];simp only[sliceRange_one,pick_run,Zk] <;> rfl
def N7(K:W7):V->Option Int->Option Int->Hp->VK->Prop:=λx lo hi H Q=>∃a xs,x = .ref a/\SqL K H a xs/\∀p,H p=none->Q (.ref p) (upd H p (.lst (jM xs lo hi)))
theorem Bn:SlR X (N7 X.K):=by
 intro pins s σ H x v vl vu lo hi sl Q I rx hs pl pu h;obtain⟨a,xs,rfl,hx,q⟩:=h;cases rx;obtain⟨its,r,ht,hz⟩:=I.list hx;have hlen:=r.length;refine⟨"list", _,slot_list_getitem.lookup,ht.isList.typeIs,?_⟩;refine Um ht.isList hs pl pu .none (by simp) ?_ (by rw[Zk] <;> lia);rw[lx,<-hlen];refine⟨.ref s.heap.objs.size,_,I.laid (t':=s.toks) (o:=.lst (jM xs lo hi)) (λb ob q=>Zc _ q) (Zf _) ?_,rfl,q _ (I.hok.fresh (Zf _))⟩;exact⟨ZI (iP xs lo hi) hz,_,0,(r.drop (HT.sIx xs.length 0 lo)).take (HT.sIx xs.length xs.length hi - HT.sIx xs.length 0 lo),Zz _ rfl⟩
abbrev dj:V->Bool
 |.non=>true
 |.bl _=>true
 |.int _=>true
 |.str _=>true
 |_=>false
abbrev eqV:V->V->Bool
 |.non,.non=>true
 |.bl a,.bl b=>a == b
 |.bl a,.int b=>(if a then 1 else 0) == b
 |.int a,.bl b=>a == (if b then 1 else 0)
 |.int a,.int b=>a == b
 |.str a,.str b=>a == b
 |_,_=>false
theorem Gw(ry:aB y u)(rx:aB x v)(fy:dj y=true)(fx:dj x=true):WZ A s u v (eqV y x):=by
 cases y with
 |non=>
  cases ry;cases x with
  |non=>cases rx;exact SeqAt.EqAt.same _
  |bl b=>cases rx;exact SeqAt.EqAt.none_bool b
  |int b=>obtain⟨t,rfl⟩:=rx;exact SeqAt.EqAt.none_int b t
  |str b=>obtain⟨t,rfl⟩:=rx;exact SeqAt.EqAt.none_str b t
  |_=>exact absurd (show false=true from fx) Zd
 |bl a=>
  cases ry;cases x with
  |non=>cases rx;exact SeqAt.EqAt.bool_none a
  |bl b=>cases rx;exact SeqAt.EqAt.bool_bool a b
  |int b=>obtain⟨t,rfl⟩:=rx;exact SeqAt.EqAt.bool_int a b t
  |str b=>obtain⟨t,rfl⟩:=rx;exact SeqAt.EqAt.bool_str a b t
  |_=>exact absurd (show false=true from fx) Zd
 |int a=>
  obtain⟨t',rfl⟩:=ry;cases x with
  |non=>cases rx;exact SeqAt.EqAt.int_none a t'
  |bl b=>cases rx;exact SeqAt.EqAt.int_bool a t' b
  |int b=>obtain⟨t,rfl⟩:=rx;exact SeqAt.EqAt.int_int a t' b t
  |str b=>obtain⟨t,rfl⟩:=rx;exact SeqAt.EqAt.int_str a t' b t
  |_=>exact absurd (show false=true from fx) Zd
 |str a=>
  obtain⟨t',rfl⟩:=ry;cases x with
  |non=>cases rx;exact SeqAt.EqAt.str_none a t'
  |bl b=>cases rx;exact SeqAt.EqAt.str_bool a t' b
  |int b=>obtain⟨t,rfl⟩:=rx;exact SeqAt.EqAt.str_int a t' b t
  |str b=>obtain⟨t,rfl⟩:=rx;exact SeqAt.EqAt.str_str a t' b t
  |_=>exact absurd (show false=true from fx) Zd
 |_=>exact absurd (show false=true from fy) Zd
abbrev eqU(x:V)(u:Value):Bool:=match u with
 |.none=>eqV .non x
 |.bool b=>eqV (.bl b) x
 |.int i _=>eqV (.int i) x
 |.str z _=>eqV (.str z) x
 |_=>false
theorem rc(r:aB y u)(f:dj y=true):eqU x u=eqV y x:=by
 cases y with
 |non=>cases r;rfl
 |bl b=>cases r;rfl
 |int i=>obtain⟨t,rfl⟩:=r;rfl
 |str z=>obtain⟨t,rfl⟩:=r;rfl
 |_=>exact absurd (show false=true from f) Zd
theorem gP:∀ {xs:List V} {us:List Value},aP xs us->xs.all dj=true->us.any (eqU x)=xs.any λy=>eqV y x
 |_,_,.nil,_=>rfl
 |y::xs,u::us,.cons r t,f=>by
  rw[Ye,bAE] at f;rw[Yy,Yy,rc r f.1,gP t f.2]
theorem dk(rx:aB x v)(fx:dj x=true):∀ {xs:List V} {us:List Value},aP xs us->xs.all dj=true->∀u ∈ us,WZ A s u v (eqU x u)
 |_,_,.nil,_=>λu hu=>by cases hu
 |y::xs,u::us,.cons r t,f=>λu' hu=>by
  rw[Ye,bAE] at f;rcases Zn.mp hu with rfl |hu
  ·rw[rc r f.1];exact Gw r rx f.1 fx
  ·exact dk rx fx t f.2 u' hu
abbrev inV(x:V)(xs:List V):Bool:=xs.any λy=>eqV y x
def rIn(K:W7)(neg:Bool):R2:=λx y H Q=>∃p xs,y = .ref p/\(SqL K H p xs\/SqT K H p xs)/\dj x=true/\xs.all dj=true/\Q (.bl (if neg then !inV x xs else inV x xs)) H
theorem uZ:OpR X (VA .In) (rIn X.K false):=by
 intro pins s σ H x y v u Q I rx ry h;obtain⟨p,xs,rfl,hq,fx,fs,q⟩:=h;cases ry;rcases hq with hq |hq
 ·obtain⟨its,r,pl,hz⟩:=I.list hq;refine W2 (eqU x) pl.isList (λw hw=>dk rx fx r fs w (by simpa using hw)) ⟨.bl _,H,I,rfl,?_⟩;rw[show its.toArray.any (eqU x)=its.any (eqU x) by simp,gP r fs];exact q
 ·obtain⟨its,r,pl,hz⟩:=I.tuple hq;refine W3 (eqU x) pl (λw hw=>dk rx fx r fs w (by simpa using hw)) ⟨.bl _,H,I,rfl,?_⟩;rw[show its.toArray.any (eqU x)=its.any (eqU x) by simp,gP r fs];exact q
theorem np:OpR X (VA .NotIn) (rIn X.K true):=by
 intro pins s σ H x y v u Q I rx ry h;obtain⟨p,xs,rfl,hq,fx,fs,q⟩:=h;cases ry;rcases hq with hq |hq
 ·obtain⟨its,r,pl,hz⟩:=I.list hq;refine W4 (eqU x) pl.isList (λw hw=>dk rx fx r fs w (by simpa using hw)) ⟨.bl _,H,I,rfl,?_⟩;rw[show its.toArray.any (eqU x)=its.any (eqU x) by simp,gP r fs];exact q
 ·obtain⟨its,r,pl,hz⟩:=I.tuple hq;refine W5 (eqU x) pl (λw hw=>dk rx fx r fs w (by simpa using hw)) ⟨.bl _,H,I,rfl,?_⟩;rw[show its.toArray.any (eqU x)=its.any (eqU x) by simp,gP r fs];exact q
theorem nq:aV X (.builtin "len") (λxs H Q=>∃p ys,xs=[.ref p]/\(SqL X.K H p ys\/SqT X.K H p ys)/\Q (.int ys.length) H):=by
 intro pins s σ H xs us Q I r h;obtain⟨p,ys,rfl,hq,q⟩:=h;obtain⟨u,rfl,rx⟩:=b9 r;cases rx;have hn:=ig;rcases hq with hq |hq
 ·obtain⟨its,r',pl,hz⟩:=I.list hq;have hlen:=r'.length;exact Calls.call_len_list pl.isList (by simp only[Zk] <;> lia) ⟨.int ys.length,H,I.tok _,⟨s.toks+1,by rw[Zk,hlen]⟩,q⟩
 ·obtain⟨its,r',pl,hz⟩:=I.tuple hq;have hlen:=r'.length;exact len_tuple pl (by simp only[Zk] <;> lia) ⟨.int ys.length,H,I.tok _,⟨s.toks+1,by rw[Zk,hlen]⟩,q⟩
theorem ly:aV X (.type "tuple") (λxs H Q=>∃p ys,xs=[.ref p]/\((SqL X.K H p ys/\∀l,H l=none->Q (.ref l) (upd H l (.tup ys)))\/(SqT X.K H p ys/\Q (.ref p) H))):=by
 intro pins s σ H xs us Q I r h;obtain⟨p,ys,rfl,h⟩:=h;obtain⟨u,rfl,rx⟩:=b9 r;cases rx;rcases h with ⟨hq,q⟩ |⟨hq,q⟩
 ·obtain⟨its,r',pl,hz⟩:=I.list hq;have hlen:=r'.length;refine call_tuple_list pl.isList (λh' kp=>?_) (by simp only[Zk] <;> lia);have I1:Inv X pins σ H { s with heap:=h' }:=I.kept (t':=s.toks) kp
  have I2:Inv X pins σ (upd H h'.objs.size (.tup ys)) { s with heap:=h'.push { cls:=.type "tuple", data:=.seq its.toArray } }:=
   I1.laid (t':=s.toks) (λb o e=>Zc _ e) (Zf _) (show bg X.prog X.w _ _ _ (.tup ys) from ⟨hz,its,r',m9.new _ _⟩)
  exact⟨.ref h'.objs.size,_,I2,rfl,q _ (I1.hok.fresh (Zf _))⟩
 ·obtain⟨its,r',pl,hz⟩:=I.tuple hq;exact call_tuple_same pl ⟨.ref p,H,I,rfl,q⟩
def tyV(K:W7)(T:String)(x:V)(H:Hp):Prop:=match x with
 |.str _=>T = "str"
 |.int _=>T = "int"
 |.ref p=>(T = "list"/\∃xs,SqL K H p xs)\/(T = "tuple"/\((∃o,K.lookup p=some o/\o.cls = .type "tuple"/\o.dict=none)\/∃xs,H p=some (.tup xs))) ∨
   (T = "dict"/\((∃kvs,H p=some (.dK kvs))\/∃kvs,H p=some (.dT kvs)))\/(T = "set"/\∃S n,H p=some (.set S n))
 |_=>False
theorem Gx(I:Inv X pins σ H s)(r:aB x v)(ty:tyV X.K T x H) :
  s.TypeIs v T/\∀a,v = .ref a->∃ob,s.heap.get? a=some ob/\ob.dict=none:=by
 cases x with
 |str z=>
  obtain⟨t,rfl⟩:=r;cases (show T = "str" from ty);exact⟨typeIs_str s z t,λ_ e=>nomatch e⟩
 |int i=>
  obtain⟨t,rfl⟩:=r;cases (show T = "int" from ty);exact⟨typeIs_int s i t,λ_ e=>nomatch e⟩
 |ref p=>
  cases r;rcases ty with ⟨rfl,xs,hq⟩ |⟨rfl,⟨o,hk,hc,hd⟩ |⟨xs,hk⟩⟩ |⟨rfl,hk⟩ |⟨rfl,S,n,hk⟩
  ·obtain⟨its,_,pl,_⟩:=I.list hq;refine⟨pl.isList.typeIs,λa e=>?_⟩;cases e;obtain⟨o,n,e,c,hd,_⟩:=pl;exact⟨o,e,hd⟩
  ·refine⟨⟨o,I.kIn p o hk,hc⟩,λa e=>?_⟩;cases e;exact⟨o,I.kIn _ o hk,hd⟩
  ·obtain⟨_,its,_,o,e,hc,_,_,hd⟩:=I.hok p _ hk;refine⟨⟨o,e,hc⟩,λa e2=>?_⟩;cases e2;exact⟨o,e,hd⟩
  ·have z:∃o,s.heap.get? p=some o/\o.ExactDict:=by
    rcases hk with ⟨kvs,hk⟩ |⟨kvs,hk⟩
    ·obtain⟨_,_,_,_,o,_,_,e,ex,_⟩:=I.hok p _ hk;exact⟨o,e,ex⟩
    ·obtain⟨_,_,_,_,o,_,_,e,ex,_⟩:=I.hok p _ hk;exact⟨o,e,ex⟩
   obtain⟨o,e,ex⟩:=z;refine⟨⟨o,e,ex.1⟩,λa e2=>?_⟩;cases e2;exact⟨o,e,ex.2.1⟩
  ·obtain⟨o,_,_,_,e,ex,_⟩:=I.hok p _ hk;refine⟨⟨o,e,ex.1⟩,λa e2=>?_⟩;cases e2;exact⟨o,e,ex.2.1⟩
 |_=>exact False.elim ty
def tBM(K:W7)(T:String)(r:V->List V->Hp->VK->Prop)(to:TE)(t:TA):TE:=λσ H Q=>to σ H λx H1=>tyV K T x H1/\t σ H1 λxs H2=>r x xs H2 Q
variable {o e:Expr} {es:List Expr} {to:TE} {t:TA} {name:Str} {apos cpos:Pos} {T id:String} {r:V->List V->Hp->VK->Prop}
theorem tj(pa:PlainAttrs T)(slot:Slot T name id)(hty:typeOf (.builtin id)=pure (.type "method_descriptor"))(hm:MtR X id r)(ho:PE X o to)(ha:PA X (e::es) t)
  (hbase:attributeBase o name X.env (eval o X.env)=eval o X.env:=by rfl)
  (hfew:((backTo cpos (V6 (e::es) X.env)).all (λx=>!x.1) && (Vp cpos (VL [] X.env)).all (λx=>x.1.isSome)
   && decide ((e::es).length+([]:List Keyword).length+(if ([]:List Keyword).isEmpty then 0 else 1) < 30))=true:=by rfl)
  (hline:(apos.endLine == cpos.line)=true:=by rfl) (hs:V6 (e::es) X.env=(false,eval e X.env)::V6 es X.env:=by rfl) (hplain:(backTo cpos (V6 es X.env)).any (·.1)=false:=by rfl) :
  PE X (.Call (.Attribute o name apos) (e::es) [] cpos) (tBM X.K T r to t):=by
 intro pins s σ H Q I h;refine wpAny_Call_method_late hbase hfew hline rfl (thn (ho pins s σ H _ I h) λv s1 ⟨x,H1,I1,r1,ty,q1⟩=>?_);obtain⟨h1,h2⟩:=Gx I1 r1 ty;refine⟨T,id,pa,slot,hty,h1,h2,?_⟩;have hA:=ha cpos pins s1 σ H1 _ I1 q1;rw[hs] at hA ⊢;refine Calls.callWith_builtin (by show(false || (backTo cpos (V6 es X.env)).any (·.1))=false;rw[hplain] <;> rfl) (Calls.evalArgs_plain ?_);exact thn hA λus s2 ⟨vs,H2,I2,r2,q2⟩=>hm pins s2 σ H2 x vs v us Q I2 r1 r2 q2
end
def MtM(X:Cx)(id:String)(r:V->List V->Hp->VK->Prop):Prop:=
 ∀ (pins:List (Addr × Obj)) (s:Shared) (σ:St) (H:Hp) (x:V) (xs:List V) (v:Value) (us:List Value) (Q:VK),Inv X pins σ H s->aB x v->aP xs us->r x xs H Q ->
  wpAny (model X.prog X.w) X.A (call (.builtin id) (v::us)) (EP X pins σ Q) X.xe s
theorem aP.one:∀ {x:V} {us:List Value},aP [x] us->∃u,us=[u]/\aB x u
 |_,_,.cons r .nil=>⟨_,rfl,r⟩
theorem aP.eraseIdx:∀ {xs:List V} {us:List Value} (i:Nat),aP xs us->aP (xs.eraseIdx i) (us.eraseIdx i)
 |_,_,_,.nil=>.nil
 |_,_,0,.cons _ t=>t
 |_,_,i+1,.cons r t=>.cons r (aP.eraseIdx i t)
theorem aP.rep(h:aP xs us):∀k:Nat,aP (Zw k xs).flatten (Zw k us).flatten
 |0=>.nil
 |k+1=>by
  rw[Z6,Z6,Yl,Yl];exact aP.append h (aP.rep h k)
theorem l8{α:Type}:∀ (l:List α) (i:Nat),(l.eraseIdx i).length<=l.length
 |[],_=>Zf _
 |_::_,0=>Ym _
 |_::r,i+1=>XN (l8 r i)
theorem l9(its:List Value):∀ (k:Nat) (acc:List Value),
  X8 (λx1 x2=>x1++x2) acc.toArray (Zw k its.toArray)=(acc++(Zw k its).flatten).toArray
 |0,acc=>by simp
 |k+1,acc=>by
  have e:acc.toArray++its.toArray=(acc++its).toArray:=by simp
  have e2:(acc++its)++(Zw k its).flatten=acc++(Zw (k+1) its).flatten:=by
   rw[Z6,Yl,Yz]
  rw[<-e2,<-l9 its k (acc++its),<-e,Z6,X1]
section
variable {X:Cx} {pins:List (Addr × Obj)} {σ:St} {H:Hp} {s:Shared} {l b:Addr} {xs ys zs:List V}
theorem Inv.lset{its its':List Value}{n:Nat}{f:Array Value->Array Value}{t':Nat}(I:Inv X pins σ H s)(hH:H l=some (.lst xs))
  (e:s.heap.get? l=some { cls:=.type "list", data:=.seq its.toArray n }) (hf:f its.toArray=its'.toArray) (hv:aP ys its') (hz:ys.length<=sizeLine) :
  Inv X pins σ (upd H l (.lst ys)) { s with heap:=s.heap.update l (Obj.mapSeq f),toks:=t' }:=by
 have q:=PySem.IsL.update e f;rw[hf] at q;refine I.write (x:=l) (e:=l) (by rw[hH];exact trivial) (.inl rfl) (λb' u hb hu=>(ZH s.heap (Obj.mapSeq f) (Ne.symm hb)).trans hu) ⟨_,q⟩ ?_;exact⟨hz,its',_,hv,q⟩
theorem Inv.lnew{t':Nat}(I:Inv X pins σ H s)(hv:aP ys its)(hz:ys.length<=sizeLine) :
  Inv X pins σ (upd H s.heap.objs.size (.lst ys)) { s with heap:=s.heap.push { cls:=.type "list", data:=.seq its.toArray },toks:=t' }:=
 I.laid (λ_ _ q=>Zc _ q) (Zf _) ⟨hz,its,0,hv,Zz _ rfl⟩
theorem Inv.fresh(I:Inv X pins σ H s):H s.heap.objs.size=none:=I.hok.fresh (Zf _)
theorem Inv.lstM(I:Inv X pins σ H s)(hH:H l=some (.lst xs)):xs.length<=sizeLine/\∃ (its:List Value) (n:Nat),aP xs its/\xs.length=its.length/\s.heap.get? l=some { cls:=.type "list", data:=.seq its.toArray n }:=by
 obtain⟨z,its,n,r,e⟩:=I.hok l _ hH;exact⟨z,its,n,r,r.length,e⟩
theorem o9{n:Nat}(h:n<=sizeLine):Builtin.List.listTooLong n=false:=by
 unfold Builtin.List.listTooLong;exact decide_eq_false (by lia)
end
section
variable {X:Cx}
def Bo:V->List V->Hp->VK->Prop:=λx vs H Q=>∃l xs y,x = .ref l/\vs=[y]/\H l=some (.lst xs)/\xs.length < sizeLine/\Q .non (upd H l (.lst (xs++[y])))
theorem ma:MtM X "list.append" Bo:=by
 intro pins s σ H x vs v us Q I rx rv h;obtain⟨l,xs,y,rfl,rfl,hH,hz,q⟩:=h;cases rx;obtain⟨u,rfl,ru⟩:=rv.one;obtain⟨z,its,n,r,hl,e⟩:=I.lstM hH;refine Vw WH ⟨_,e,rfl⟩ F.entry_list_append (F.args_list_append_2 _ _) (PySem.list_append l its.toArray n u (by rw[Zk];lia)) ⟨e,?_⟩;refine⟨.non,_,I.lset (its':=its++[u]) hH e (by simp) (r.append (.cons ru .nil)) ?_,rfl,q⟩;rw[Zh,Zm]
 lia
def Bp:V->List V->Hp->VK->Prop:=λx vs H Q=>∃l b xs zs,x = .ref l/\vs=[.ref b]/\H l=some (.lst xs)/\H b=some (.lst zs)/\xs.length+zs.length<=sizeLine/\Q .non (upd H l (.lst (xs++zs)))
theorem u0:MtM X "list.extend" Bp:=by
 intro pins s σ H x vs v us Q I rx rv h;obtain⟨l,b,xs,zs,rfl,rfl,hH,hB,hz,q⟩:=h;cases rx;obtain⟨u,rfl,ru⟩:=rv.one;cases ru;obtain⟨z,its,n,r,hl,e⟩:=I.lstM hH;obtain⟨z2,its2,n2,r2,hl2,e2⟩:=I.lstM hB;have hsz:its.toArray.size+its2.toArray.size<=sizeLine:=by rw[Zk,Zk];lia
 have hlong:¬ (!its.toArray.isEmpty && Builtin.List.listTooLong (its.toArray.size+its2.toArray.size))=true:=by
  rw[o9 hsz,X9];exact Zd
 refine Vw WI ⟨_,e,rfl⟩ F.entry_list_extend (F.args_list_extend_2 _ _)
  (AutoSeq1.list_extend_list_list_0 l its.toArray n b its2.toArray n2 hlong (by rw[Zk];lia) (by lia)) ⟨e,e2,?_⟩
 refine⟨.non,_,I.lset (its':=its++its2) hH e (by simp) (r.append r2) ?_,rfl,q⟩;rw[Zh]
 lia
def Gy:V->List V->Hp->VK->Prop:=λx vs H Q=>∃l xs i k y,x = .ref l/\vs=[.int i]/\H l=some (.lst xs)/\-(2 ^ 63)<=i/\i < 2 ^ 63/\seqIndex? i xs.length=some k/\xs[k]?=some y/\Q y (upd H l (.lst (xs.eraseIdx k)))
theorem xy:MtM X "list.pop" Gy:=by
 intro pins s σ H x vs v us Q I rx rv h;obtain⟨l,xs,i,k,y,rfl,rfl,hH,h1,h2,hk,hy,q⟩:=h;cases rx;obtain⟨u,rfl,ru⟩:=rv.one;obtain⟨t,rfl⟩:=ru;obtain⟨z,its,n,r,hl,e⟩:=I.lstM hH;obtain⟨w,hw,rw'⟩:=r.get hy
 refine Vw WJ ⟨_,e,rfl⟩ F.entry_list_pop (F.args_list_pop_2 _ _)
  (MeetsSeq.list_pop_at l its.toArray n i t k w (fitsIndex_both h1 h2) (by rw[Zk,<-hl];exact hk) (by rw[<-Array.getElem?_toList];exact hw) (by rw[Zk];lia)) ⟨e,?_⟩
 refine⟨y,_,I.lset (its':=its.eraseIdx k) hH e ?_ (r.eraseIdx k) ?_,rw',q⟩
 ·show its.toArray.eraseIdxIfInBounds k=(its.eraseIdx k).toArray;rw[List.eraseIdxIfInBounds_toArray]
 ·have:=l8 xs k
  lia
def N8:R2:=λx y H Q=>∃l b xs zs,x = .ref l/\y = .ref b/\H l=some (.lst xs)/\H b=some (.lst zs)/\xs.length+zs.length<=sizeLine/\∀p,H p=none->Q (.ref p) (upd H p (.lst (xs++zs)))
theorem Gz:OpR X (Vr .Add) N8:=by
 intro pins s σ H x y v u Q I rx ry h;obtain⟨l,b,xs,zs,rfl,rfl,hH,hB,hz,q⟩:=h;cases rx;cases ry;obtain⟨z,its,n,r,hl,e⟩:=I.lstM hH;obtain⟨z2,its2,n2,r2,hl2,e2⟩:=I.lstM hB;refine PySem.P.add_list e e2 ?_ (by rw[Zk,Zk];lia);have ea:its.toArray++its2.toArray=(its++its2).toArray:=by simp
 rw[ea];exact⟨.ref _,_,I.lnew (t':=s.toks) (r.append r2) (by rw[Zh];lia),rfl,q _ I.fresh⟩
def Oa:R2:=λx y H Q=>∃l k xs,x = .ref l/\y = .int k/\H l=some (.lst xs)/\-(2 ^ 63)<=k/\k < 2 ^ 63/\xs.length * k.toNat<=sizeLine ∧
 ∀p,H p=none->Q (.ref p) (upd H p (.lst (Zw k.toNat xs).flatten))
theorem Bq{α:Type}(xs:List α)(k:Nat):(Zw k xs).flatten.length=k * xs.length:=by
 induction k with
 |zero=>simp
 |succ k ih=>rw[Z6,Yl,Zh,ih,YV,Nat.add_comm]
theorem GA:OpR X (Vr .Mult) Oa:=by
 intro pins s σ H x y v u Q I rx ry h;obtain⟨l,k,xs,rfl,rfl,hH,h1,h2,hz,q⟩:=h;cases rx;obtain⟨t,rfl⟩:=ry;obtain⟨z,its,n,r,hl,e⟩:=I.lstM hH;have hlen:its.toArray.size * k.toNat<=sizeLine:=by rw[Zk,<-hl];exact hz
 have hcap:¬ its.toArray.size * k.toNat > (2 ^ 63 - 1) / 8:=by
  have:(sizeLine:Nat)<=(2 ^ 63 - 1) / 8:=by decide
  lia
 have hfit:¬ (!Builtin.List.listFitsIndex k)=true:=by
  rw[fitsIndex_both h1 h2];exact Zd
 have hlong:¬ Builtin.List.listTooLong (its.toArray.size * k.toNat)=true:=by
  rw[o9 hlen];exact Zd
 have hnew:X8 (λx1 x2=>x1++x2) #[] (Zw (if its.toArray.isEmpty=true then 0 else k.toNat) its.toArray)=(Zw k.toNat its).flatten.toArray:=by
  have f0:∀m:Nat,X8 (λx1 x2=>x1++x2) #[] (Zw m its.toArray)=(Zw m its).flatten.toArray:=λm=>by
   have:=l9 its m [];rw[Xl] at this;exact this
  rw[f0];cases its with
  |nil=>simp
  |cons a r'=>rw[if_neg (by simp)]
 refine wpAny_binaryOp_repeat_ref (T := "list") (U := "int") (by decide) ⟨_,e,rfl⟩ (λs'=>typeIs_int s' k t) noFill_list_mul F.fills_int_mul F.slot_int_rmul repeat_list F.slot_int_index.lookup
  (Vw F.slot_int_rmul (typeIs_int s k t) F.entry_int_rmul (F.args_int_rmul_2 _ _) (int___rmul___int_list k t l its.toArray n)
   ⟨e,rfl,⟨_,e,rfl⟩,Vw F.slot_list_mul ⟨_,e,rfl⟩ F.entry_list_mul (F.args_list_mul_2 _ _) (AutoListH.list___mul___list_int_3 l its.toArray n k t hfit hcap hlong) ⟨e,?_⟩⟩)
 rw[hnew];exact⟨.ref _,_,I.lnew (t':=s.toks) (r.rep k.toNat) (by rw[Bq,Nat.mul_comm];exact hz),rfl,q _ I.fresh⟩
end
end L2
namespace Att
open PySem PySem.W PySem.Calls PyProof.Rows
theorem jb:∀ (ns:List Int) (vs:List Value),WellAll P h vs (ns.map WData.int)->IntsAre vs ns:=by
 intro ns
 induction ns with
 |nil=>
  intro vs w;rw[Yb] at w;cases w;exact .nil
 |cons n ns ih=>
  intro vs w;rw[ZC] at w;cases w with
  |cons a b=>
   cases a;exact .cons _ _ (ih _ b)
theorem ve{l:OpenLaw}{n:Nat}(hn:l.most=some n){P:Params}{h:Heap}{args:List WData}{vals:List Value}
  (hpre:l.row.toRowW.claim.pre args=true) (hwl:WellAll P h vals args) :
  ∃a vs ns,vals=[Value.ref a]/\args=[WData.list (ns.map WData.int)]/\h.get? a=some { cls:=.type "list", data:=.seq vs.toArray }/\IntsAre vs ns/\ns.length<=n:=by
 have hsh:WShape.hasAll [] args [.list .int]=true:=(pre_splitW hpre).1;have hc:l.pre.holds [] { args:=args }=true:=(pre_splitW hpre).2;obtain⟨d,r,rfl,h1,h2⟩:=hasAllW_cons hsh;obtain rfl:=hasAllW_nil h2;obtain⟨xs,rfl,h3⟩:=hasW_list h1;obtain⟨ns,rfl⟩:=items_int h3
 have hlen:ns.length<=n:=by
  unfold OpenLaw.pre at hc
  have h4:(WTm.not (.lt (.lit (.int (n:Int))) (.len (.arg 0)))).holds [] { args:=[.list (ns.map .int)] }=true:=by
   have h4:=(holds_andW hc).1;rw[hn] at h4;exact h4
  have h5:=condW_of h4 (w_not (w_lt w_lit (w_len_list (w_arg rfl))));rw[Za] at h5;refine XQ λq=>?_;have q':(n:Int) < ((ns.length:Nat):Int):=by lia
  first
   |(rw[decide_eq_true q'] at h5;exact absurd h5 (by decide))
   |(simp at h5;lia)
 cases hwl with
 |cons w1 w2=>
  cases w2;cases w1 with
  |list ho hall=>exact⟨_,_,ns,rfl,rfl,ho,jb ns _ hall,hlen⟩
theorem vf(l:OpenLaw)(args:List WData):l.row.toRowW.claim.post args (.bool true) args=true:=
 postW_of (r:=l.row.toRowW) (X:=(true == true))
  (show WShape.has [] (.bool true) .bool=true by first |rfl |decide |simp[WShape.has,WShape.arms,WShape.armsAll])
  (show(WTm.eq .res (.lit (.bool true))).value [] { args:=args,res:=some (.bool true),after:=args }=some (.bool (true == true)) from w_eq_bool (w_res rfl) w_lit) rfl
theorem attach_call{l:OpenLaw}{n:Nat}{q:Program}{loose:List Str}{XP:(Str->Option Value)->Heap->Prop}{YP:World->Heap->Prop}{d:DefRec}
  (hn:l.most=some n) (hdf:d.params.defaults=[])
  (call:∀ (w:World) (s₀ s₁:Shared) (mg mb:Str->Option Value) (fa:Addr) (o:Obj) (pm cd doc:Value) (a:Addr) (vs:List Value) (ns:List Int),
   Ground q loose [] XP w s₀ mg mb s₁.heap->YP w s₁.heap ->
   s₁.heap.get? fa=some o->o.data = .func (docDef d.name d.params d.body d.scope pm cd doc)->s₁.heap.CodeRec cd d.name->mg d.name=some (.ref fa) ->
   s₁.heap.get? a=some { cls:=.type "list", data:=.seq vs.toArray }->IntsAre vs ns->ns.length<=n->s₁.gens=#[] ->
   codeAny (model l.prog w) callerA (.call (.ref fa) ⟨[.ref a],[]⟩) (λr s'=>r = .ok (.ret (.bool true))/\OldK s₁.heap s'.heap/\s'.os=s₁.os/\AllBare s'.gens) s₁) :
  WalkO q loose XP YP l.row.toRowW d [] (λf vs=>PySem.call f vs):=by
 intro w s₀ s₁ mg mb G Y fa o pm cd doc dV kV ho hd hcd hD hmg hg args vals as hpre hlay hrd hwl hlo;obtain rfl:dV = .none:=Dflts.none hD hdf;obtain rfl:kV = .none:=Dflts.noKw hD;obtain⟨a,vs,ns,rfl,rfl,hobj,hints,hlen⟩:=ve hn hpre hwl;refine enter_call (Vz (call w s₀ s₁ mg mb fa o pm cd doc a vs ns G Y ho (fd_plain hd) hcd hmg hobj hints hlen hg) λr s' hq=>?_);obtain⟨rfl,h2,h3,h4⟩:=hq;exact⟨.inl ⟨.bool true,.bool true,[],rfl,λ_=>rfl,.bool true,vf l _,λ_=>⟨List.Pairwise.nil,λ_ hm=>(nomatch hm)⟩⟩,h2,h3,h4⟩
end Att
namespace L2
open PySem PySem.Spec PyProof.Rows
theorem il:∀ {vs:List Value} {ns:List Int},IntsAre vs ns->aP (ns.map V.int) vs
 |_,_,.nil=>.nil
 |_,_,.cons n t h=>.cons ⟨t,rfl⟩ (il h)
def Lq(H:Hp):Prop:=∀b,H b=none\/∃o xs,H b=some (.frz o (.lst xs))
theorem xz{P:Program}{w:World}{K:W7}{mg mb:Str->Option Value}{CX:CXT}{k:Nat}{fa a:Addr}{fd:WO}{x:Str}{sp:Sp}{s₁:Shared}{vs:List Value}{ns:List Int}
  (KX:K.In s₁.heap) (hns:s₁.heap.Ns VN mg) (hb:s₁.heap.Ns Vu mb) (hbb:∀x:Str,x ≠ "__name__"->mb x=Vt x) (hlim:s₁.heap.NoLimit) (hg:s₁.gens=#[])
  (ha:s₁.heap.get? a=some { cls:=.type "list", data:=.seq vs.toArray }) (hi:IntsAre vs ns) (hl:ns.length<=sizeLine) (hr:Room k callerA)
  (F:∀base:Heap,K.In base->base.Ns VN mg->FnOk P w K mg base CX k fa fd [x] sp) (hbind:∀ (s:Shared) (u:Value),BindsTo s fd ⟨[u],[]⟩ [(x,u)])
  (hsp:∀H:Hp,Lq H->SqL K H a (ns.map V.int)->sp [.ref a] H (λv _=>v = .bl true) λ_ _ _=>False)
  (hCX:∀H e s',CX [] H s₁ (λ_ _ _=>False) e s'->False) :
  codeAny (model P w) callerA (.call (.ref fa) ⟨[.ref a],[]⟩) (λr s'=>r = .ok (.ret (.bool true))/\OldK s₁.heap s'.heap/\s'.os=s₁.os/\AllBare s'.gens) s₁:=by
 have rv:=il hi;have lenV:=hi.length
 have core:∀H:Hp,Lq H->SqL K H a (ns.map V.int)->HOk P w H s₁.heap->(∀b,H b ≠ none->b=a)->(H a ≠ none->K.lookup a=none) ->
   codeAny (model P w) callerA (.call (.ref fa) ⟨[.ref a],[]⟩) (λr s'=>r = .ok (.ret (.bool true))/\OldK s₁.heap s'.heap/\s'.os=s₁.os/\AllBare s'.gens) s₁:=by
  intro H hO hS hok hA hK;have base_of:∀ {b:Addr} {o:Obj},s₁.heap.get? b=some o->H b=none->(ng s₁.heap H).get? b=some o:=λe n=>wY e n
  have noA:∀ {b:Addr} {o:Obj} {es:Array DictEntry} {ep:Nat},s₁.heap.get? b=some o->o.data = .dict es ep->H b=none:=λ{b o es ep} e d=>by
   cases q:H b with
   |none=>rfl
   |some u=>
    have e':b=a:=hA b (by rw[q];simp);subst e';rw[ha] at e;cases e;have d':Data.seq vs.toArray _=Data.dict es ep:=d;cases d'
  have nsK:∀ {b:Addr} {m:Str->Option Value},s₁.heap.Ns b m->(ng s₁.heap H).Ns b m:=λ{b m} ⟨o,es,ep,e,d,r⟩=>⟨o,es,ep,base_of e (noA e d),d,r⟩
  have hKb:K.In (ng s₁.heap H):=λb o e=>base_of (KX b o e) (by
   cases q:H b with
   |none=>rfl
   |some u=>
    have e':b=a:=hA b (by rw[q];simp);subst e';rw[hK (by rw[q];simp)] at e;cases e)
  have hM:Mod K mg (ng s₁.heap H):=⟨hKb,nsK hns,⟨mb,nsK hb,hbb⟩,let ⟨mc,h1,h2⟩:=hlim;⟨mc,nsK h1,h2⟩⟩;have e0:Env0 P w K mg (ng s₁.heap H) callerA [] s₁ H:=⟨rfl,hM,λb o e=>AY e,Nat.le_of_eq (uO _ _),trivial,λb hb=>absurd (show b ∈ ([]:List Addr) from hb) (by simp),hok,.of_eq hg⟩;refine Vz ((F _ hKb (nsK hns)).run callerA [] s₁ H ⟨[.ref a],[]⟩ [.ref a] [.ref a] _ _ hr e0 (hbind s₁ (.ref a)) (.cons rfl .nil) (hsp H hO hS)) λr s' h=>?_;cases r with
  |error e=>exact(hCX H e s' h).elim
  |ok fl=>
   cases fl with
   |next=>exact False.elim h
   |brk=>exact False.elim h
   |cont=>exact False.elim h
   |ret u=>
    obtain⟨v,H',os,bare,un,hok',r',q⟩:=h;have q':v = .bl true:=q;subst q';obtain rfl:u=Value.bool true:=r';refine⟨rfl,OldK.of_keep λb o e=>?_,os,bare⟩;cases q:H b with
    |none=>exact un.keep b o e q (by intro z;exact absurd (show b ∈ ([]:List Addr) from z) (by simp)) (by simp)
    |some u=>
     rcases hO b with z |⟨ob,xs,z⟩
     ·rw[q] at z;cases z
     ·have z2:=un.frzs b ob _ z;obtain⟨e1,_⟩:=hok b _ z;obtain⟨e2,_⟩:=hok' b _ z2;rw[e] at e1;cases e1;exact e2
 cases hk:K.lookup a with
 |some o=>
  have e:=KX a o hk;rw[ha] at e;cases e;refine core (λ_=>none) (λ_=>.inl rfl) (.inr ⟨_,vs.toArray,_,hk,rfl,rfl,rfl,by rw[Zk,lenV];exact hl,by simpa using rv⟩) (λb u z=>by have z':(none:Option HO)=some u:=z;cases z') (λb z=>absurd rfl z) λz=>absurd rfl z
 |none=>
  refine core (λb=>if b=a then some (.frz { cls:=.type "list", data:=.seq vs.toArray } (.lst (ns.map V.int))) else none) (λb=>?_) (.inl (.inr ⟨{ cls:=.type "list", data:=.seq vs.toArray },if_pos rfl⟩)) (λb u z=>?_) (λb z=>?_) λ_=>hk
  ·by_cases hb:b=a
   ·exact .inr ⟨_,_,if_pos hb⟩
   ·exact .inl (if_neg hb)
  ·by_cases hb:b=a
   ·have z':=(if_pos hb).symm.trans z;cases z';subst hb;exact⟨ha,by rw[Za];exact hl,vs,_,rv,ha⟩
   ·have z':=(if_neg hb).symm.trans z;cases z'
  ·by_cases hb:b=a
   ·exact hb
   ·exact absurd (if_neg hb) z
abbrev dF(s:Stmt):Arguments:=match s with
 |.FunctionDef _ a _ _ _ _ _ _ _ _=>a
 |_=>{ posonlyargs:=[],args:=[],vararg:=none,kwonlyargs:=[],kw_defaults:=[],kwarg:=none,defaults:=[] }
abbrev b6(s:Stmt):List Stmt:=match s with
 |.FunctionDef _ _ b _ _ _ _ _ _ _=>b
 |_=>[]
abbrev ba(s:Stmt):Scope:=match s with
 |.FunctionDef _ _ _ _ _ _ sc _ _ _=>sc
 |_=>{ kind:=.function,names:=[],isGenerator:=false,isCoroutine:=false }
@[inline]abbrev CX0:CXT:=λ_ _ _ _ _ _=>False
@[inline]abbrev E0:XK:=λ_ _ _=>False
theorem Lr:qX CX0 X E0:=λ_ _ _ _ _ _ _ h=>h.elim
structure Fun(K:W7)(x qual:Str)(st:Stmt)(f:Addr)(fd:WO):Prop where
 ex:∃ (oc:Value) (od:Option Addr) (kV doc pm:Value) (an:Option Addr) (cdv ct:Value) (osl:Array (Option Value)),
  fd=Vb x qual (dF st) (b6 st) (ba st) .none kV doc pm an cdv ct/\K.lookup f=some ⟨oc,od,.func fd,osl⟩/\W9 K cdv qual=true
 kp:Ve K (.ref f)=true
section
variable {P:Program} {w:World} {K:W7} {mg:Str->Option Value} {base:Heap}
theorem Fun.ok{x qual:Str}{st:Stmt}{f:Addr}{fd:WO}{N ps:List Str}{k:Nat}{sp:Sp}(F:Fun K x qual st f fd)(S:FnScope N ps (ba st))(len:∀vs H Q E,sp vs H Q E->vs.length=ps.length)
  (hbody:∀ (cdv:Value) (A:Around) (outer:List Env) (s:Shared) (H:Hp) (vs:List V) (Q:VK) (E:XK),Room k (A.deeper (envOfC qual (ba st) s.heap.objs.size f cdv))->sp vs H Q E ->
   ∃t,PSs (qY CX0 P w K mg base N qual (ba st) f cdv A outer s H E).nox (b6 st) t/\t { nx:=λ_ H'=>Q .non H',rt:=Q } (fW N vs) H):FnOk P w K mg base CX0 (k+1) f fd ps sp:=by
 obtain⟨oc,od,kV,doc,pm,an,cdv,ct,osl,rfl,lk,hcd⟩:=F.ex;refine Lj lk hcd S len λA outer s H vs Q E hr hsp=>?_;obtain⟨t,h,q⟩:=hbody cdv A outer s H vs Q E hr hsp;exact⟨t,h.nox,q⟩
theorem Fun.binds{x qual:Str}{st:Stmt}{f:Addr}{fd:WO}{ps:List Str}(F:Fun K x qual st f fd)
  (h:∀ (kV doc pm:Value) (an:Option Addr) (cdv ct:Value) (us:List Value),us.length=ps.length->bindArgs (Vb x qual (dF st) (b6 st) (ba st) .none kV doc pm an cdv ct) ⟨us,[]⟩=pure (ps.zip us)):lX K fd ps []:=by
 obtain⟨oc,od,kV,doc,pm,an,cdv,ct,osl,rfl,lk,hcd⟩:=F.ex;exact .all (h kV doc pm an cdv ct)
theorem GC{x qual:Str}{st:Stmt}{f:Addr}{oc:Value}{od an:Option Addr}{osl:Array (Option Value)}{kV doc pm cdv ct:Value}(l:K.lookup f=some ⟨oc,od,.func (Vb x qual (dF st) (b6 st) (ba st) .none kV doc pm an cdv ct),osl⟩)
  (c:W9 K cdv qual=true) (k:Ve K (.ref f)=true):Fun K x qual st f (Vb x qual (dF st) (b6 st) (ba st) .none kV doc pm an cdv ct):=⟨⟨oc,od,kV,doc,pm,an,cdv,ct,osl,rfl,l,c⟩,k⟩
end
theorem vg{n:Nat}(h:n<=1000):n < sizeLine:=Nat.lt_of_le_of_lt h (by decide)
abbrev nu(ifs:List Expr)(env:Env):Sem Bool:=
 forIn ifs true λc r=>if r=true then do let ok <-isTrue c env (eval c env);pure (ForInStep.yield ok) else pure (ForInStep.yield r)
theorem Bs{d:Nat}
  (hg:gens[d]?=some ⟨tg,iter,ifs,0⟩)
  (h:wpAny M A (pyNext it) (λr s1=>match r with
   |none=>Q (.done .next) s1
   | some v=>wpAny M A (VM tg it v) (λ_ s2=>wpAny M A (assign tg env v) (λ_ s3=>wpAny M A (nu ifs env) (λok s4=>if ok=true then (match gens[d+1]? with
     |none=>wpAny M A (eval elt env) (λx s5=>wpAny M A (call (.builtin "list.append") [acc,x]) (λ_ s6=>Q (.again (.compLoop (.ListComp elt gens scope pos) d it acc env)) s6) E s5) E s4
     | some g'=>g'.is_async=0/\wpAny M A (eval g'.iter env) (λx s5=>wpAny M A (VG g'.iter env x) (λx' s6=>wpAny M A (pyIter x') (λit' s7=>
       wpAny M A (runOwn (.compStart (.ListComp elt gens scope pos) (d+1) it' acc env) env) (λ_ s8=>Q (.again (.compLoop (.ListComp elt gens scope pos) d it acc env)) s8) E s7) E s6) E s5) E s4)
    else Q (.again (.compLoop (.ListComp elt gens scope pos) d it acc env)) s4) E s3) E s2) E s1) E s) :
  wpAny M A (compTurn (.ListComp elt gens scope pos) d it acc env) Q E s:=by
 unfold compTurn;simp only[hg];refine Uf (UI ?_);show wpAny M A (pyNext it >>= _) Q E s;refine Uf (Us h (λr s1 h1=>?_) λ_ _ x=>x);cases r with
 |none=>exact Uw h1
 |some v=>
  refine Uf (Us h1 (λ_ s2 h2=>?_) λ_ _ x=>x);refine Uf (Us h2 (λ_ s3 h3=>?_) λ_ _ x=>x);refine Uf (Us h3 (λok s4 h4=>?_) λ_ _ x=>x);cases ok with
  |false=>exact Uw h4
  |true=>
   simp only[if_true] at h4 ⊢;cases hn:gens[d+1]? with
   |none=>
    rw[hn] at h4;refine Uf (Uf (Us h4 (λx s5 h5=>?_) λ_ _ x=>x));exact Uf (Us h5 (λ_ s6 h6=>Uw (Uw h6)) λ_ _ x=>x)
   |some g'=>
    rw[hn] at h4;obtain⟨ha,h4⟩:=h4;refine Uf (Us h4 (λx s5 h5=>Uf (UI ?_)) λ_ _ x=>x);rw[ha];show wpAny M A (VG g'.iter env x >>= _) Q E s5;refine Uf (Us h5 (λx' s6 h6=>?_) λ_ _ x=>x);refine Uf (Uo (Us h6 (λit' s7 h7=>?_) λ_ _ x=>x));exact Uf (Us h7 (λ_ s8 h8=>Uw h8) λ_ _ x=>x)
abbrev bN(cells:List (Str × Addr)):List (Str × WR)->List (Str × Addr)->List (Str × Addr)
 |[],acc=>acc
 |(n,k)::r,acc=>if k == .free then bN cells r ((n,(cells.lookup n).getD 0)::acc) else bN cells r acc
theorem gh:∀ (names:List (Str × WR)) (acc:List (Str × Addr)),(∀y ∈ names,y.2 = .free->∃c,env.cells.lookup y.1=some c) ->
  (forIn names acc λ(x:Str × WR) (cs:List (Str × Addr))=>(match x with |(name,kind)=>if kind == .free then (do let a <-cellOf env name;pure (ForInStep.yield ((name,a)::cs))) else pure (ForInStep.yield cs):Sem (ForInStep (List (Str × Addr)))))
   = (pure (bN env.cells names acc):Sem (List (Str × Addr)))
 |[],acc,_=>by rw[Y0];rfl
 |(n,k)::r,acc,h=>by
  rw[X2];have hr:∀y ∈ r,y.2 = .free->∃c,env.cells.lookup y.1=some c:=λy hy=>h y (Zg _ hy);cases hk:(k == NameKind.free) with
  |true=>
   obtain⟨c,hc⟩:=h (n,k) Zi (by simpa using hk);have e:cellOf env n=pure c:=by unfold cellOf;rw[show env.cells.lookup n=some c from hc]
   simp only[hk,if_true,e,pure_bind];rw[gh r _ hr]
   conv=>rhs;rw[bN]
   simp only[hk,if_true];rw[show env.cells.lookup n=some c from hc];rfl
  |false=>
   simp only[hk,ZK,if_false,pure_bind];rw[gh r _ hr]
   conv=>rhs;rw[bN]
   simp only[hk,ZK,if_false]
theorem tw(h:∀y ∈ scope.names,y.2 = .free->∃c,env.cells.lookup y.1=some c):closureFor scope env=pure (bN env.cells scope.names []):=by
 have e:=gh (env:=env) scope.names [] h;unfold closureFor;refine Eq.trans ?_ e
 first
  |rfl
  |(rw[bind_pure])
  |(simp only[bind_pure])
theorem im:∀ {names:List (Str × WR)} {acc:List (Str × Addr)} {x:Str} {c:Addr},(x,c) ∈ bN cells names acc->(x,c) ∈ acc\/((x,NameKind.free) ∈ names/\c=(cells.lookup x).getD 0)
 |[],_,_,_,h=>.inl h
 |(n,k)::r,acc,x,c,h=>by
  unfold bN at h;split at h
  ·rename_i hk;have hk':k = .free:=by simpa using hk
   rcases im h with e |⟨e,q⟩
   ·rcases Zn.mp e with e |e
    ·cases e;exact .inr ⟨by rw[hk'];exact Zi,rfl⟩
    ·exact .inl e
   ·exact .inr ⟨Zg _ e,q⟩
  ·rcases im h with e |⟨e,q⟩
   ·exact .inl e
   ·exact .inr ⟨Zg _ e,q⟩
theorem eO:∀ {l:List (Str × Addr)},(∃c,(x,c) ∈ l)->∃c,l.lookup x=some c
 |[],⟨_,h⟩=>nomatch h
 |(n,c)::r,⟨c',h⟩=>by
  rw[Ys];cases hb:x == n with
  |true=>exact⟨c,rfl⟩
  |false=>
   rcases Zn.mp h with e |e
   ·cases e;simp at hb
   ·exact eO ⟨c',e⟩
theorem fE:∀ {names:List (Str × WR)} {acc:List (Str × Addr)},(x,NameKind.free) ∈ names\/(∃c,(x,c) ∈ acc)->∃c,(x,c) ∈ bN cells names acc
 |[],_,h=>h.elim (λe=>nomatch e) id
 |(n,k)::r,acc,h=>by
  unfold bN;split
  ·rename_i hk;refine fE ?_;rcases h with h |⟨c,h⟩
   ·rcases Zn.mp h with e |e
    ·cases e;exact .inr ⟨_,Zi⟩
    ·exact .inl e
   ·exact .inr ⟨c,Zg _ h⟩
  ·rename_i hk;refine fE ?_;rcases h with h |⟨c,h⟩
   ·rcases Zn.mp h with e |e
    ·cases e;exact absurd rfl hk
    ·exact .inl e
   ·exact .inr ⟨c,h⟩
theorem b7:∀ (names:List (Str × WR)) (n:Nat) (acc:List (Str × Addr)),Vx n names acc=Vx n names []++acc
 |[],_,_=>rfl
 |(y,k)::r,n,acc=>by
  unfold Vx;split
  ·rw[b7 r (n+1) ((y,n)::acc),b7 r (n+1) [(y,n)],Yz];rfl
  ·exact b7 r n acc
theorem cW:∀ (names:List (Str × WR)) (n:Nat) (acc:List (Str × Addr)) (x:Str) (c:Addr),(x,c) ∈ Vx n names acc->(x,c) ∈ acc\/(x,NameKind.cell) ∈ names
 |[],_,_,_,_,h=>.inl h
 |(y,k)::r,n,acc,x,c,h=>by
  unfold Vx at h;split at h
  ·rename_i hk;have hk':k = .cell:=by simpa using hk
   rcases cW r _ _ x c h with e |e
   ·rcases Zn.mp e with e |e
    ·cases e;exact .inr (by rw[hk'];exact Zi)
    ·exact .inl e
   ·exact .inr (Zg _ e)
  ·rcases cW r _ _ x c h with e |e
   ·exact .inl e
   ·exact .inr (Zg _ e)
abbrev lA(sc:Scope)(n:Str)(k:WR):WR:=if (k == .free && sc.kind == .function && sc.names.lookup n == some .cell) then .cell else k
abbrev eP(scope sc:Scope):Scope:={ scope with names:=scope.names.map λy=>(y.1,lA sc y.1 y.2) }
theorem Bt(scope:Scope)(env:Env):relabel scope env=eP scope env.scope:=by
 unfold relabel eP
 congr 1
 refine YF λy _=>?_;obtain⟨n,k⟩:=y;unfold lA;dsimp only;show(if (k == NameKind.free && env.scope.kind == ScopeKind.function && List.lookup n env.scope.names == some NameKind.cell)=true then (n,NameKind.cell) else (n,k))=_;split <;> rfl
theorem eR(sc:Scope)(x:Str):∀names:List (Str × WR),(names.map λy=>(y.1,lA sc y.1 y.2)).lookup x=(names.lookup x).map (lA sc x)
 |[]=>rfl
 |(n,k)::r=>by
  rw[ZC,Ys,Ys];dsimp only;cases hb:x == n with
  |true=>
   have q:x=n:=by simpa using hb
   subst q;rfl
  |false=>exact eR sc x r
abbrev rd(scope:Scope)(C:Addr)(env:Env):Env:=
 { scope:=eP scope env.scope,locals:=C,globals:=env.globals,cells:=Vx (C+1) scope.names (bN env.cells scope.names []),qual:=env.qual,func:=none,code:=env.code,frame:=env.frame,builtins:=env.builtins }
theorem vh
  (h:Q { scope:=scope,locals:=s.heap.objs.size,globals:=env.globals,cells:=Vx (s.heap.objs.size+1) scope.names cl,qual:=env.qual,func:=none,code:=env.code,frame:=env.frame,builtins:=env.builtins }
   { s with heap:=VW (s.heap.push { cls:=.type "dict", data:=.dict #[] }) scope.names }) :
  wpAny M A (VP scope env.globals cl [] env.qual none .none (some env)) Q E s:=by
 simp only[VP,XD,if_true];refine Uf (wpAny_alloc ?_);refine Uf (wpAny_layCells _ (λname kind cells=>by cases hkc:kind == NameKind.cell <;> simp[hkc]) _ _ _ _ ?_);rw[show({ s with heap:=s.heap.push { cls:=.type "dict", data:=.dict #[] } }:Shared).heap.objs.size=s.heap.objs.size+1 from Yi ..];simp only[Y0]
 first
  |exact Uf (Uw (Uw h))
  |exact Uw h
abbrev xD(i:Nat):Str:=⟨#[i]⟩
abbrev cA:List Nat->List Str->List Str
 |[],N=>N
 |i::hs,N=>cA hs (N.set i (xD i))
theorem io:∀ (hs:List Nat) (N:List Str),(cA hs N).length=N.length
 |[],_=>rfl
 |i::hs,N=>by rw[cA,io hs,ZY]
theorem md:∀ (hs:List Nat) (N:List Str) {i:Nat} {x:Str},(cA hs N)[i]?=some x->N[i]?=some x\/∃j ∈ hs,x=xD j
 |[],_,_,_,h=>.inl h
 |k::hs,N,i,x,h=>by
  rw[cA] at h;rcases md hs (N.set k (xD k)) h with e |⟨j,hj,e⟩
  ·rw[Yn] at e;split at e
   ·split at e
    ·exact .inr ⟨k,Zi,(Option.some.inj e).symm⟩
    ·cases e
   ·exact .inl e
  ·exact .inr ⟨j,Zg _ hj,e⟩
structure CmScope(own:List Str)(hs:List Nat)(N:List Str)(scope sc:Scope):Prop where
 kind:scope.kind = .function
 nd:(cA hs N++own).Nodup
 uniq:(scope.names.map (·.1)).Nodup
 dis:∀x ∈ cA hs N,scope.names.lookup x ≠ some .local/\scope.names.lookup x ≠ some .cell
 fr:∀y ∈ scope.names,y.2 = .free->sc.names.lookup y.1=some .cell\/sc.names.lookup y.1=some .free
 hd:∀i ∈ hs,scope.names.lookup (xD i)=none
theorem cv:∀ {l:List (Str × WR)} {x:Str} {k:WR},(l.map (·.1)).Nodup->(x,k) ∈ l->l.lookup x=some k
 |(n,k')::r,x,k,nd,h=>by
  rw[ZC,Yj] at nd;rw[Ys];rcases Zn.mp h with e |e
  ·cases e;simp
  ·have ne:(x == n)=false:=by
    cases hb:x == n with
    |false=>rfl
    |true=>
     have q:x=n:=by simpa using hb
     subst q;exact absurd (ZD.mpr ⟨(x,k),e,rfl⟩) nd.1
   rw[ne];exact cv nd.2 e
abbrev cxC(X:Cx)(own:List Str)(hs:List Nat)(scope:Scope)(C:Addr)(ex:List Addr)(s:Shared)(H:Hp):Cx where
 prog:=X.prog
 w:=X.w
 K:=X.K
 mg:=X.mg
 base:=X.base
 A:=X.A
 N:=cA hs X.N++own
 s₀:=s
 H₀:=H
 env:=rd scope C X.env
 outer:=X.stack
 stack:=X.stack
 ex:=ex
 fn:=λx=>scope.names.lookup x == some .cell
 calm:=X.calm
 pn:=[]
 xe:=λ_ _=>False
section
variable {X:Cx} {pins:List (Addr × Obj)} {σ:St} {H:Hp} {s:Shared} {own:List Str} {hs:List Nat} {scope:Scope} {fp:List Addr}
theorem Inv.compStart(I:Inv X pins σ H s)(S:CmScope own hs X.N scope X.env.scope)(hf:∀b ∈ fp,fQ X pins H b)(hfo:∀b ∈ fp,b < s.heap.objs.size) :
  Inv (cxC X own hs scope s.heap.objs.size fp s H) [] (σ++Zw own.length none) H { s with heap:=VW (s.heap.push { cls:=.type "dict", data:=.dict #[] }) scope.names }:=by
 have keep:∀b o,s.heap.get? b=some o->(VW (s.heap.push { cls:=.type "dict", data:=.dict #[] }) scope.names).get? b=some o:=λb o e=>VX _ _ b o (Zc _ e);have ok:=cellsFrom_ok scope.names (s.heap.push { cls:=.type "dict", data:=.dict #[] }) (s.heap.objs.size+1) [] ⟨λ_ _ hm=>(nomatch hm),List.Pairwise.nil⟩ (by rw[Yi];exact Zf _);rw[Yi] at ok;have cells:(rd scope s.heap.objs.size X.env).cells=Vx (s.heap.objs.size+1) scope.names []++bN X.env.cells scope.names []:=b7 _ _ _;have hasX:∀x,(x,NameKind.free) ∈ scope.names->∃c,X.env.cells.lookup x=some c:=λx h=>I.ok.has x (S.fr (x,.free) h rfl)
 have old:∀x c,(x,c) ∈ bN X.env.cells scope.names []->X.env.cells.lookup x=some c/\(x,NameKind.free) ∈ scope.names:=λx c h=>by
  rcases im h with e |⟨e,q⟩
  ·exact nomatch e
  ·obtain⟨c',hc⟩:=hasX x e;rw[hc] at q;exact⟨by rw[hc,q];rfl,e⟩
 have oldlt:∀x c,X.env.cells.lookup x=some c->c < s.heap.objs.size:=λx c h=>let ⟨_,z⟩:=I.cell x c h;z.lt
 have which:∀x c,(rd scope s.heap.objs.size X.env).cells.lookup x=some c->((x,c) ∈ Vx (s.heap.objs.size+1) scope.names [])\/(X.env.cells.lookup x=some c/\(x,NameKind.free) ∈ scope.names):=λx c h=>by
  have m:=VO h;rw[cells] at m;rcases ZQ.mp m with e |e
  ·exact .inl e
  ·exact .inr (old x c e)
 have neu:∀x c,(x,c) ∈ Vx (s.heap.objs.size+1) scope.names []->s.heap.objs.size+1<=c:=λx c h=>(ok.empty x c h).2
 have noFs:∀b ∈ fp,b ∉ frs X.stack:=λb hb z=>by
  rcases Zn.mp (I.stkSub b z) with e |e
  ·exact(hf b hb).2.1 e
  ·exact(hf b hb).2.2.1 e
 have xok:(cxC X own hs scope s.heap.objs.size fp s H).Ok:=by
  refine⟨I.ok.mod,S.kind,I.ok.glob,I.ok.blt,Zf _,?_,?_,?_,I.ok.hd,I.ok.frames,.inl rfl,?_,I.bs,ZI I.ok.bsz I.sz,?_,noFs,I.stack,I.stkFree⟩
  ·intro x y c h1 h2;rcases which x c h1 with a |⟨a,_⟩ <;> rcases which y c h2 with b |⟨b,_⟩
   ·exact name_of_addr ok.apart a b
   ·exact absurd (ZB (oldlt y c b) (Y2 (neu x c a))) (ZN _)
   ·exact absurd (ZB (oldlt x c a) (Y2 (neu y c b))) (ZN _)
   ·exact I.ok.inj x y c a b
  ·intro x hx;have hx':(eP scope X.env.scope).names.lookup x=some .cell\/(eP scope X.env.scope).names.lookup x=some .free:=hx;have e:=eR X.env.scope x scope.names
   have key:(x,NameKind.cell) ∈ scope.names\/(x,NameKind.free) ∈ scope.names:=by
    cases hl:scope.names.lookup x with
    |none=>rw[hl] at e;rcases hx' with z |z <;> (rw[show(eP scope X.env.scope).names.lookup x=none from e] at z;cases z)
    |some k=>
     have m:=VO hl;rw[hl] at e;cases k with
     |cell=>exact .inl m
     |free=>exact .inr m
     |_=>rcases hx' with z |z <;> (rw[show(eP scope X.env.scope).names.lookup x=_ from e] at z;simp[lA] at z)
   rcases key with h |h
   ·have q:=W8 scope.names (s.heap.objs.size+1) (bN X.env.cells scope.names []) (x:=x) (.inl (cv S.uniq h));exact Z2.mp q
   ·obtain⟨c,hc⟩:=fE (cells:=X.env.cells) (acc:=[]) (.inl h);have q:∃c,(x,c) ∈ (rd scope s.heap.objs.size X.env).cells:=⟨c,by rw[cells];exact ZG _ hc⟩;exact eO q
  ·intro x c hfn hl
   have hfn':scope.names.lookup x=some .cell:=by
    have z:(scope.names.lookup x == some NameKind.cell)=true:=hfn
    simpa using z
   rcases which x c hl with a |⟨_,b⟩
   ·exact ZI (Ym _) (neu x c a)
   ·rw[cv S.uniq b] at hfn';cases hfn'
  ·intro b hb;refine⟨ZF (hfo b hb),λx c h z=>?_⟩;rcases which x c h with a |⟨a,_⟩
   ·exact absurd (ZB (z ▸ hfo b hb) (Y2 (neu x c a))) (ZN _)
   ·exact(hf b hb).2.2.2.2.1 x c a z
  ·intro b o e hb;rcases (hf b hb).2.2.2.1 with z |z
   ·exact I.ok.noex b o e z
   ·have h1:=Zr e;exact absurd (ZB h1 (ZI I.ok.bsz z)) (ZN _)
 have m0:(VW (s.heap.push { cls:=.type "dict", data:=.dict #[] }) scope.names).Ns s.heap.objs.size (λ_=>none):=(Heap.Ns.new s.heap (.type "dict")).keeps (VX _ _);refine⟨xok,rfl,I.bare,Un.kept keep,⟨_,m0,?_⟩,?_,I.hok.fresh (Zf _),?_,λp hp=>absurd (show p ∈ ([]:List (Addr × Obj)) from hp) (by simp),I.hok.kept keep,?_⟩
 ·intro i x v h1 h2 h3
  have hi:i < σ.length:=by
   by_cases hi:i < σ.length
   ·exact hi
   ·rw[Zp (by lia),Yr] at h2;split at h2 <;> cases h2
  rw[Zu hi] at h2;have hN:i < X.N.length:=by rw[<-I.len];exact hi
  have h1h:(cA hs X.N)[i]?=some x:=by
   have h1:(cA hs X.N++own)[i]?=some x:=h1
   rwa [Zu (by rw[io];exact hN)] at h1
  have dx:=S.dis x (Ze h1h);have e:=eR X.env.scope x scope.names;have h3':(eP scope X.env.scope).names.lookup x=some .local\/(eP scope X.env.scope).names.lookup x=some .cell\/(eP scope X.env.scope).names.lookup x=some .free:=h3
  have hfree:scope.names.lookup x=some .free:=by
   cases hl:scope.names.lookup x with
   |none=>rw[hl] at e;rcases h3' with z |z |z <;> (rw[show(eP scope X.env.scope).names.lookup x=none from e] at z;cases z)
   |some k=>
    rw[hl] at e dx;cases k with
    |free=>rfl
    |«local»=>exact absurd rfl dx.1
    |cell=>exact absurd rfl dx.2
    |_=>rcases h3' with z |z |z <;> (rw[show(eP scope X.env.scope).names.lookup x=_ from e] at z;simp[lA] at z)
  have h1':X.N[i]?=some x:=by
   rcases md hs X.N h1h with z |⟨j,hj,z⟩
   ·exact z
   ·rw[z,S.hd j hj] at hfree;cases hfree
  have mfree:=VO hfree;have kX:=S.fr (x,.free) mfree rfl;obtain⟨m,hn,hl⟩:=I.loc;obtain⟨u,r,l⟩:=hl i x v h1' h2 (kX.elim (λz=>.inr (.inl z)) λz=>.inr (.inr z));refine⟨u,r,.inr ⟨?_,?_⟩⟩
  ·have k3:(eP scope X.env.scope).names.lookup x=some (lA X.env.scope x .free):=by rw[hfree] at e;exact e
   have k4:lA X.env.scope x .free = .cell\/lA X.env.scope x .free = .free:=by unfold lA;split <;> simp
   rcases k4 with z |z
   ·exact .inl (by show(eP scope X.env.scope).names.lookup x=_;rw[k3,z])
   ·exact .inr (by show(eP scope X.env.scope).names.lookup x=_;rw[k3,z])
  ·rcases l with ⟨lk,_⟩ |⟨_,c,hc,z⟩
   ·have lk':X.env.scope.names.lookup x=some .local:=lk;rcases kX with q |q <;> (rw[q] at lk';cases lk')
   ·refine⟨c,?_,z.keeps keep⟩;obtain⟨c',hc'⟩:=fE (cells:=X.env.cells) (acc:=[]) (.inl mfree);obtain⟨c2,hl2⟩:=eO (l:=(rd scope s.heap.objs.size X.env).cells) ⟨c',by rw[cells];exact ZG _ hc'⟩;rcases which x c2 hl2 with a |⟨a,_⟩
    ·rcases cW _ _ _ _ _ a with q |q
     ·exact nomatch q
     ·rw[cv S.uniq q] at hfree;cases hfree
    ·rw[hc] at a;cases a;exact hl2
 ·intro x c h;rcases which x c h with a |⟨a,_⟩
  ·exact⟨_,(ok.empty x c a).1⟩
  ·obtain⟨v,z⟩:=I.cell x c a;exact⟨v,z.keeps keep⟩
 ·intro x c h;rcases which x c h with a |⟨a,_⟩
  ·exact I.hok.fresh (ZI (Ym _) (neu x c a))
  ·exact I.freeC x c a
 ·show(σ++Zw own.length none).length=(cA hs X.N++own).length;rw[Zh,Zh,Xn,io,I.len]
end
def pc(J:It)(g:TG)(tb:TS)(D:Ends)(σ:St)(H:Hp):Prop:=∃W:Nat->Nat->St->Hp->Prop,(∃m,W 0 m σ H)/\∀i m σ H,W i m σ H ->
 (J.stop i H/\D.nx σ H)\/(J.go i H/\∃N:St->Hp->Prop,(∀σ' H',N σ' H'->∃m',m' < m/\W (i+1) m' σ' H')/\∀x H',J.yld i H x H'->g x σ H' λσ2 H2=>tb { D with nx:=N,ct:=N,bk:=D.nx } σ2 H2)
def PTs(Y:Cx)(ifs:List Expr)(t:TT):Prop:=
 ∀ (pins:List (Addr × Obj)) (s:Shared) (σ:St) (H:Hp) (Q:Bool->Hp->Prop),Inv Y pins σ H s->t σ H Q->wpAny (model Y.prog Y.w) Y.A (nu ifs Y.env) (TP Y pins σ Q) Y.xe s
def Bu:TT:=λ_ H Q=>Q true H
theorem Bv:PTs Y [] Bu:=λ_ _ _ H _ I h=>by
 unfold nu;rw[Y0];exact Uw ⟨H,I,h⟩
theorem Bw(hc:PT Y c t):PTs Y [c] t:=λpins s σ H Q I h=>by
 unfold nu;rw[X2];simp only[if_true,Y0];refine Uf (Uf (thn (hc pins s σ H Q I h) λb s1 q=>Uw ?_));exact Uw q
def PTl(Y:Cx)(elt:Expr)(gens:List Wu)(scope:Scope)(pos:Pos)(acc:Addr)(d:Nat)(t:TS):Prop:=
 ∀ (pins:List (Addr × Obj)) (s:Shared) (σ:St) (H:Hp) (D:Ends),Inv Y pins σ H s->t D σ H ->
  match gens[d+1]? with
  |none=>wpAny (model Y.prog Y.w) Y.A (eval elt Y.env) (λx s5=>wpAny (model Y.prog Y.w) Y.A (call (.builtin "list.append") [.ref acc,x]) (λ_ s6=>∃σ' H',Inv Y pins σ' H' s6/\D.nx σ' H') (λ_ _=>False) s5) (λ_ _=>False) s
  | some g'=>g'.is_async=0/\wpAny (model Y.prog Y.w) Y.A (eval g'.iter Y.env) (λx s5=>wpAny (model Y.prog Y.w) Y.A (VG g'.iter Y.env x) (λx' s6=>wpAny (model Y.prog Y.w) Y.A (pyIter x') (λit' s7=>
    wpAny (model Y.prog Y.w) Y.A (runOwn (.compStart (.ListComp elt gens scope pos) (d+1) it' (.ref acc) Y.env) Y.env) (λ_ s8=>∃σ' H',Inv Y pins σ' H' s8/\D.nx σ' H') (λ_ _=>False) s7) (λ_ _=>False) s6) (λ_ _=>False) s5) (λ_ _=>False) s
def eA(ti:TT)(t:TS):TS:=λD σ H=>ti σ H λc H'=>if c=true then t D σ H' else D.nx σ H'
def E6(acc:Addr)(te:TE):TS:=λD σ H=>te σ H λx H1=>∃xs,H1 acc=some (.lst xs)/\xs.length < sizeLine/\D.nx σ (upd H1 acc (.lst (xs++[x])))
section
variable {Y:Cx} {elt:Expr} {gens:List Wu} {scope:Scope} {pos:Pos} {acc:Addr} {d:Nat}
theorem xE(hx:Y.xe=λ_ _=>False)(hn:gens[d+1]?=none)(he:PE Y elt te):PTl Y elt gens scope pos acc d (E6 acc te):=by
 intro pins s σ H D I h;rw[hn];have hE:=he pins s σ H _ I h;rw[hx] at hE;refine thn hE λx s5 ⟨v,H5,I5,r5,xs,h1,h2,q⟩=>?_;have z:=ma pins s5 σ H5 (.ref acc) [v] (.ref acc) [x] (λy H'=>y = .non/\D.nx σ H') I5 rfl (.cons r5 .nil) ⟨acc,xs,v,rfl,rfl,h1,h2,rfl,q⟩;rw[hx] at z;exact thn z λy s6 ⟨v6,H6,I6,r6,e6,q6⟩=>⟨σ,H6,I6,q6⟩
theorem jN{A:Around}{R:Result->Shared->Prop}{prog:Program}{w:World}{s:Shared}{tg iter:Expr}{ifs:List Expr}{it acc:Value}{env:Env}(hg:gens[d]?=some ⟨tg,iter,ifs,0⟩)
  (h0:codeAny (model prog w) A (.compLoop (.ListComp elt gens scope pos) d it acc env) R s)
  (h:wpAny (model prog w) A (pyIter it) (λit' s'=>codeAny (model prog w) A (.compLoop (.ListComp elt gens scope pos) d it' acc env) R s') (notedBy (model prog w) A env λx s'=>R (.error x) s') s) :
  codeAny (model prog w) A (.compStart (.ListComp elt gens scope pos) d it acc env) R s:=by
 refine codeAny_of_tree ?_;show wpAny _ _ ((compStart (.ListComp elt gens scope pos) d it acc env).onRaise (λx=>do noteFrame x env;standAt theWindowsPlace)) _ _ s;refine wpAny_notedAt ?_;unfold compStart;have hcl:(clausesOf (.ListComp elt gens scope pos))[d]?=some ⟨tg,iter,ifs,0⟩:=hg;simp only[hcl,Option.elim];show wpAny _ _ (ask >>= _) _ _ s;refine Uf (wpAny_askSetting (wpAny_ite ?_));split
 ·first
   |exact Uf (Uw (Uw (And.intro rfl h0)))
   |exact Uw (And.intro rfl h0)
 ·first
   |exact Uf (UE (Uf (UI (Uf (Us h (λit' s' h'=>Uw (And.intro rfl h')) λ_ _ x=>x)))))
   |(refine Uf (UE ?_);show wpAny _ _ (standAt iter.pos >>= _) _ _ s;exact Uf (UI (Uf (Us h (λit' s' h'=>Uw (And.intro rfl h')) λ_ _ x=>x))))
theorem mf
  (hx:Y.xe=λ_ _=>False) (hc:Y.calm=true) (hg:gens[d]?=some ⟨tg,iter,ifs,0⟩) (T:Turn Y.prog Y.w Y.K tg J fp it tn) (I2:Inv Y pins σ H s) (st2:tn 0 s.heap) (f2:∀b ∈ fp,fQ Y pins H b)
  (hgt:PG Y tg g) (hts:PTs Y ifs ti) (htl:PTl Y elt gens scope pos acc d t) (hW:pc J g (eA ti t) D σ H) :
  codeAny (model Y.prog Y.w) Y.A (.compLoop (.ListComp elt gens scope pos) d (.ref it) (.ref acc) Y.env) (λr s'=>r = .ok .next/\∃σ' H',Inv Y pins σ' H' s'/\D.nx σ' H') s:=by
 obtain⟨W,⟨m0,w0⟩,turn⟩:=hW;have stat:∀ {H':Hp},(∀b ∈ fp,H' b=none)->∀b ∈ fp,fQ Y pins H' b:=λhn b hb=>⟨hn b hb,(f2 b hb).2⟩;refine codeAny_loop rfl (λn s'=>∃i σ' H',Inv Y pins σ' H' s'/\tn i s'.heap/\(∀b ∈ fp,H' b=none)/\W i n σ' H') (λn s3 hI=>?_) m0 ⟨0,σ,H,I2,st2,λb hb=>(f2 b hb).1,w0⟩;obtain⟨i,σ3,H3,I3,st3,fr3,w3⟩:=hI;show wpAny _ _ ((compTurn (.ListComp elt gens scope pos) d (.ref it) (.ref acc) Y.env).onRaise (λx=>do noteFrame x Y.env;theTreesLotGoes x)) _ _ s3;refine wpAny_noted (Us (E:=λ_ _=>False) ?_ (λ_ _ q=>q) λ_ _ z=>z.elim);refine Bs hg ?_;rcases turn i n σ3 H3 w3 with ⟨stop,qn⟩ |⟨go,N,hN,step⟩
 ·refine thn (T.done Y rfl rfl rfl hc i pins s3 σ3 H3 _ I3 (stat fr3) st3 stop) λr s4 ⟨hr,I4⟩=>?_;subst hr;exact⟨rfl,σ3,H3,I4,qn⟩
 ·refine thn (T.item Y rfl rfl rfl hc i pins s3 σ3 H3 _ I3 (stat fr3) st3 go) λr s4 ⟨u,hr,h4⟩=>?_;subst hr;refine thn h4 λ_ s5 ⟨x,H5,I5,r5,y5,st5,fr5⟩=>?_;have I5':=I5.pinned (stat fr5) (T.obj _ _ st5)
  have again:∀ {σ7:St} {H7:Hp} {s7:Shared},Inv Y (pins++jF fp s5.heap) σ7 H7 s7->N σ7 H7->∃m,m < n/\∃i σ' H',Inv Y pins σ' H' s7/\tn i s7.heap/\(∀b ∈ fp,H' b=none)/\W i m σ' H':=λ{σ7 H7 s7} I7 n7=>by
   obtain⟨m',hm,w7⟩:=hN σ7 H7 n7;refine⟨m',hm,i+1,σ7,H7,I7.unpinned,T.keep _ _ _ st5 λb hb o e=>(I7.pin (b,o) (ZG _ (ZG _ (dE hb e)))).1,λb hb=>?_,w7⟩;obtain⟨o,e,dd⟩:=T.obj _ _ st5 b hb;exact(I7.pin (b,o) (ZG _ (ZG _ (dE hb e)))).2.1
  have hG:=hgt _ s5 σ3 H5 x u _ I5' r5 (step x H5 y5);rw[hx] at hG;refine thn hG λ_ s6 ⟨σ6,H6,I6,q6⟩=>?_;have hT:=hts _ s6 σ6 H6 _ I6 q6;rw[hx] at hT;refine thn hT λok s7 ⟨H7,I7,q7⟩=>?_;cases ok with
  |false=>
   simp only[ZK,if_false] at q7 ⊢;exact⟨by trivial,again I7 q7⟩
  |true=>
   simp only[if_true] at q7 ⊢;have hL:=htl _ s7 σ6 H7 _ I7 q7;cases hn:gens[d+1]? with
   |none=>
    rw[hn] at hL;exact thn hL λx s8 h8=>thn h8 λ_ s9 ⟨σ9,H9,I9,q9⟩=>⟨by trivial,again I9 q9⟩
   |some g'=>
    rw[hn] at hL;obtain⟨ha,hL⟩:=hL;exact⟨ha,thn hL λx s8 h8=>thn h8 λx' s9 h9=>thn h9 λit' s10 h10=>thn h10 λ_ s11 ⟨σ9,H9,I9,q9⟩=>⟨by trivial,again I9 q9⟩⟩
def xF(wi:TI)(g:TG)(ti:TT)(t:TS):TS:=λD σ H=>wi σ H λJ H1=>pc J g (eA ti t) D σ H1
theorem Bx(hn:gens[d+1]?=some ⟨tg,iter,ifs,0⟩)
  (hi:PI Y tg iter wi) (hgt:PG Y tg g) (hts:PTs Y ifs ti) (htl:PTl Y elt gens scope pos acc (d+1) t) (hx:Y.xe=λ_ _=>False:=by rfl) (hc:Y.calm=true:=by rfl) (hs:∀x,VG iter Y.env x=pure x:=by intro _;rfl) :
  PTl Y elt gens scope pos acc d (xF wi g ti t):=by
 intro pins s σ H D I h;rw[hn];refine⟨rfl,?_⟩;have hI:=hi pins s σ H _ I h;rw[hx] at hI;refine thn hI λv s5 h5=>Uu (hs v) (thn h5 λitv s6 h6=>?_);obtain⟨it,fp,tn,J,H6,e,I6,T,st6,f6,W⟩:=h6;subst e;have L:=mf (elt:=elt) (gens:=gens) (scope:=scope) (pos:=pos) (acc:=acc) hx hc hn T I6 st6 f6 hgt hts htl W;refine wpAny_runOwn (Vz (jN hn L (T.self _ 0 s6 _ _ st6 L)) λr s8 hr=>?_);obtain⟨rfl,q⟩:=hr;exact q
end
def xG(own:Nat)(wi:TI)(g:TG)(tb:Addr->TS):TE:=λσ H Q=>wi σ H λJ H1=>∀acc,H1 acc=none ->
 pc J g (tb acc) { nx:=λ_ H'=>Q (.ref acc) H',rt:=λ_ _=>False } (σ++Zw own none) (upd H1 acc (.lst []))
section
variable {X:Cx} {elt tg iter:Expr} {ifs:List Expr} {rest:List Wu} {scope:Scope} {pos:Pos} {own:List Str} {hs:List Nat} {wi:TI} {g:TG} {ti:TT} {t:Addr->TS}
theorem jO{pins:List (Addr × Obj)}{σ:St}{Q:VK}{itv:Value}{s2:Shared}{E:Value->Shared->Prop}(hc:X.calm=true)(S:CmScope own hs X.N scope X.env.scope)
  (hgt:∀C ex s H,PG (cxC X own hs scope C ex s H) tg g) (hts:∀C ex s H,PTs (cxC X own hs scope C ex s H) ifs ti)
  (htl:∀C ex s H acc,PTl (cxC X own hs scope C ex s H) elt (⟨tg,iter,ifs,0⟩::rest) scope pos acc 0 (t acc))
  (h2:PIE X pins σ tg (λJ H1=>∀acc,H1 acc=none->pc J g (eA ti (t acc)) { nx:=λ_ H'=>Q (.ref acc) H',rt:=λ_ _=>False } (σ++Zw own.length none) (upd H1 acc (.lst []))) itv s2)
  {RR:Value->Addr->Result->Shared->Prop} (hRR:∀acc C H' s',Inv X pins σ H' s'->fQ X pins H' C->(∃m,s'.heap.Ns C m)->Q (.ref acc) H'->RR (.ref acc) C (.ok .next) s') :
  wpAny (model X.prog X.w) X.A (newList []) (λacc s3=>wpAny (model X.prog X.w) X.A (VP scope X.env.globals (bN X.env.cells scope.names []) [] X.env.qual none .none (some X.env)) (λcenv s4=>
   codeAny (model X.prog X.w) X.A (.compStart (.ListComp elt (⟨tg,iter,ifs,0⟩::rest) scope pos) 0 itv acc { cenv with scope:=relabel scope X.env }) (RR acc cenv.locals) s4) E s3) E s2:=by
 obtain⟨it,fp,tn,J,H2,e,I2,T,st2,f2,R⟩:=h2;subst e;refine Ut ?_;have I3:Inv X pins σ (upd H2 s2.heap.objs.size (.lst [])) { s2 with heap:=s2.heap.push { cls:=.type "list", dict:=none,data:=.seq ([]:List Value).toArray } }:=I2.lnew (its:=[]) (t':=s2.toks) .nil (Xq _);have W:=R s2.heap.objs.size (I2.hok.fresh (Zf _));generalize hs3:({ s2 with heap:=s2.heap.push { cls:=.type "list", dict:=none,data:=.seq ([]:List Value).toArray } }:Shared)=s3 at I3 ⊢;have e3:s3.heap=s2.heap.push { cls:=.type "list", dict:=none,data:=.seq ([]:List Value).toArray }:=by rw[<-hs3]
 have k3:∀b o,s2.heap.get? b=some o->s3.heap.get? b=some o:=λb o e=>by rw[e3];exact Zc _ e
 have st3:tn 0 s3.heap:=T.keep _ _ _ st2 λb _ o e=>k3 b o e;have fne:∀b ∈ fp,b < s2.heap.objs.size:=λb hb=>let ⟨o,e,_⟩:=T.obj _ _ st2 b hb;Zr e;have f3:∀b ∈ fp,fQ X pins (upd H2 s2.heap.objs.size (.lst [])) b:=λb hb=>⟨by rw[av (ZF (fne b hb))];exact(f2 b hb).1,(f2 b hb).2⟩;have fo3:∀b ∈ fp,b < s3.heap.objs.size:=λb hb=>let ⟨o,e,_⟩:=T.obj _ _ st3 b hb;Zr e;refine vh ?_;have I4:=I3.compStart S f3 fo3;generalize hH3:upd H2 s2.heap.objs.size (.lst [])=H3 at I3 I4 f3 W
 have eE:({ scope:=relabel scope X.env,locals:=s3.heap.objs.size,globals:=X.env.globals,cells:=Vx (s3.heap.objs.size+1) scope.names (bN X.env.cells scope.names []),qual:=X.env.qual,func:=none,code:=X.env.code,frame:=X.env.frame,builtins:=X.env.builtins }:Env)=rd scope s3.heap.objs.size X.env:=by
  unfold rd;rw[Bt]
 generalize hs4:({ s3 with heap:=VW (s3.heap.push { cls:=.type "dict", data:=.dict #[] }) scope.names }:Shared)=s4 at I4 ⊢;have k4:∀b o,s3.heap.get? b=some o->s4.heap.get? b=some o:=λb o e=>by rw[<-hs4];exact VX _ _ b o (Zc _ e)
 have st4:tn 0 s4.heap:=T.keep _ _ _ st3 λb _ o e=>k4 b o e
 have f4:∀b ∈ fp,fQ (cxC X own hs scope s3.heap.objs.size fp s3 H3) [] H3 b:=λb hb=>by
  refine⟨(f3 b hb).1,ZF (fo3 b hb),I4.ok.exfs b hb,.inl hb,λx c hl=>(I4.ok.exf b hb).2 x c hl,λp hp=>absurd (show p ∈ ([]:List (Addr × Obj)) from hp) (by simp)⟩
 have L:=mf (Y:=cxC X own hs scope s3.heap.objs.size fp s3 H3) (elt:=elt) (gens:=⟨tg,iter,ifs,0⟩::rest) (d:=0) (scope:=scope) (pos:=pos) (acc:=s2.heap.objs.size) rfl hc rfl T I4 st4 f4 (hgt _ _ _ _) (hts _ _ _ _) (htl _ _ _ _ _) W;have C:=jN (elt:=elt) (gens:=⟨tg,iter,ifs,0⟩::rest) (d:=0) (scope:=scope) (pos:=pos) rfl L (T.self _ 0 s4 _ _ st4 L);show codeAny (model X.prog X.w) X.A (.compStart (.ListComp elt (⟨tg,iter,ifs,0⟩::rest) scope pos) 0 (.ref it) (.ref s2.heap.objs.size) { scope:=relabel scope X.env,locals:=s3.heap.objs.size,globals:=X.env.globals,cells:=Vx (s3.heap.objs.size+1) scope.names (bN X.env.cells scope.names []),qual:=X.env.qual,func:=none,code:=X.env.code,frame:=X.env.frame,builtins:=X.env.builtins }) (RR (.ref s2.heap.objs.size) s3.heap.objs.size) s4;rw[eE];refine Vz C λr s' hr=>?_;obtain⟨rfl,σ',H',I',q⟩:=hr;obtain⟨mC,nC,_⟩:=id I'.loc;have freeC:H' s3.heap.objs.size=none:=I'.free;refine hRR _ _ H' s' ?_ (I3.fpOk (Zf _) freeC) ⟨mC,nC⟩ q;exact I3.call' (ch:=fp) I'.os I'.base I'.hok I'.bare λb hb=>⟨(f3 b hb).2.2.2.1,(f3 b hb).2.1,(f3 b hb).2.2.2.2.1,(f3 b hb).2.2.2.2.2⟩
theorem Bz(hc:X.calm=true)(S:CmScope own hs X.N scope X.env.scope)(hi:PI X tg iter wi)
  (hgt:∀C ex s H,PG (cxC X own hs scope C ex s H) tg g) (hts:∀C ex s H,PTs (cxC X own hs scope C ex s H) ifs ti)
  (htl:∀C ex s H acc,PTl (cxC X own hs scope C ex s H) elt (⟨tg,iter,ifs,0⟩::rest) scope pos acc 0 (t acc))
  (hs:∀x,VG iter X.env x=pure x:=by intro _;rfl) :
  PE X (.ListComp elt (⟨tg,iter,ifs,0⟩::rest) scope pos) (xG own.length wi g λacc=>eA ti (t acc)):=by
 intro pins s σ H Q I h;rw[eval_ListComp];refine Ui (use:=none) (cl:=bN X.env.cells scope.names []) rfl hs (tw λy hy hk=>I.ok.has y.1 (S.fr y hy hk)) S.kind (λy hy hk=>cv S.uniq (by rw[<-hk];exact hy)) ?_;refine thn (hi pins s σ H _ I h) λv s1 h1=>thn h1 λitv s2 h2=>?_;refine jO hc S hgt hts htl h2 (RR:=λacc C=>compPost (model X.prog X.w) X.A X.xe none (EP X pins σ Q) acc C) λacc C H' s' I' f' m' q=>?_;obtain⟨m,nm⟩:=m';refine⟨m,nm,λh' sb=>⟨.ref acc,H',?_,rfl,q⟩⟩;exact I'.turned (t':=s'.toks) (λb o hb e=>(sb.2 b hb).trans e) f'.1 f'.2.1 f'.2.2.2.1 f'.2.2.2.2.1 f'.2.2.2.2.2
theorem BA{i:Nat}(hc:X.calm=true)(S:CmScope own hs X.N scope X.env.scope)(hN:X.N.Nodup)(hix:X.N[i]?=some x)(hx:X.env.scope.names.lookup x=some .local)(hi:PI X tg iter wi)
  (hgt:∀C ex s H,PG (cxC X own hs scope C ex s H) tg g) (hts:∀C ex s H,PTs (cxC X own hs scope C ex s H) ifs ti)
  (htl:∀C ex s H acc,PTl (cxC X own hs scope C ex s H) elt (⟨tg,iter,ifs,0⟩::rest) scope pos acc 0 (t acc))
  (hsw:V9 (.ListComp elt (⟨tg,iter,ifs,0⟩::rest) scope pos) (some (.Name x pos')) spos.line X.env=pure true:=by rfl)
  (hs:∀x,VG iter X.env x=pure x:=by intro _;rfl) :
  PS X (.Assign [.Name x pos'] (.ListComp elt (⟨tg,iter,ifs,0⟩::rest) scope pos) spos) (xf (xG own.length wi g λacc=>eA ti (t acc)) (o4 i)):=by
 intro pins s σ H D I h;rw[exec_Assign_Name_used _ _ _ _ hsw];refine Uf (UI (Uf ?_));show wpAny _ X.A (do let _ <-comprehension (.ListComp elt (⟨tg,iter,ifs,0⟩::rest) scope pos) scope X.env _ (newList []) false (eval iter X.env) (some (assign (.Name x pos') X.env))) _ _ s
 refine Uf (Us (Ui (use:=some (assign (.Name x pos') X.env)) (Q:=λ_ s'=>SP X pins D .next s') (cl:=bN X.env.cells scope.names []) rfl hs (tw λy hy hk=>I.ok.has y.1 (S.fr y hy hk)) S.kind (λy hy hk=>cv S.uniq (by rw[<-hk];exact hy))
  ?_) (λ_ s' hq=>Uw (Uw hq)) λ_ _ e=>e)
 refine thn (hi pins s σ H _ I h) λv s1 h1=>thn h1 λitv s2 h2=>?_;refine jO (Q:=λy H'=>o4 i y σ H' D.nx) hc S hgt hts htl h2 (RR:=λacc C=>compPost (model X.prog X.w) X.A X.xe (some (assign (.Name x pos') X.env)) (λ_ s'=>SP X pins D .next s') acc C) λacc C H' s' I' f' m' q=>?_;obtain⟨m,nm⟩:=m';show wpAny _ X.A (assign (.Name x pos') X.env (.ref acc)) _ _ _;refine wpAny_assign_Name (lW (v:=.ref acc) I' hN hix (.inl hx) rfl (λs'' I'' hch=>?_) (.inr hx));obtain⟨a,sb1,ha⟩:=hch
 have ne:C ≠ a:=by
  rcases ha with e |e
  ·rw[e];exact f'.2.1
  ·exactλz=>f'.2.2.2.2.1 x a e z.symm
 refine⟨m,nm.sameBut sb1 ne,λh' sb=>⟨_,H',?_,q⟩⟩;exact I''.turned (t':=s''.toks) (λb o hb e=>(sb.2 b hb).trans e) f'.1 f'.2.1 f'.2.2.2.1 f'.2.2.2.2.1 f'.2.2.2.2.2
end
end L2
namespace HT
open PySem PyProof.Rows
section
variable {prog:Program} {w:World} {A:Around} {E:Value->Shared->Prop} {s:Shared}
theorem xH{t b:Addr}{ws:List Value}{Q:Value->Shared->Prop}(ht:IsTup s.heap t ([]:List Value).toArray)(hb:IsTup s.heap b ws.toArray)(h:Q (.ref b) s):wpAny (model prog w) A (Vr .Add (.ref t) (.ref b)) Q E s:=by
 obtain⟨⟨cls,dd,data,sl⟩,ho,hc,n,hd⟩:=id ht;obtain⟨⟨cls2,dd2,data2,sl2⟩,ho2,hc2,n2,hd2⟩:=id hb;simp only at hc hd hc2 hd2;subst hc hd hc2 hd2
 exact VB ⟨_,ho,rfl⟩ ⟨_,ho2,rfl⟩ VQ V3 WK WA (Wv _ _)
   (tuple_addW0 t b _ ws.toArray n n2 dd dd2 sl sl2 (by simp)) ⟨ho,ho2,h⟩
theorem fR{t sl:Addr}{items:Array Value}{vl vu:Value}{lo hi:Option Int}{Q:Value->Shared->Prop}(ht:IsTup s.heap t items)(hs:s.heap.IsSliceOf sl vl vu .none)(pl:IsPart vl lo)(pu:IsPart vu hi)
  (hw:sIx items.size 0 lo=0/\sIx items.size items.size hi=items.size) (h:Q (.ref t) s):wpAny (model prog w) A (getItem (.ref t) (.ref sl)) Q E s:=by
 obtain⟨os,hos,hcs,hds⟩:=id hs;have hTs:s.TypeIs (.ref sl) "slice" := ⟨os,hos,hcs⟩;obtain⟨o,ho,hc,n,hd⟩:=id ht;unfold getItem
 try with_reducible refine Uo ?_
 first |refine Uf (Uw ?_) |skip
 refine Uf (UG ht.typeIs (by decide) ?_)
 refine Uf (wpAny_callSpecial?_slot (name:=Str.ofString "__getitem__") ht.typeIs Ws
  (Uh Ws ht.typeIs entry_tuple_getitem ?_ (args_tuple_getitem _ _)))
 show wpAny _ _ (Builtin.Tuple.tupleItemsOf (.ref t) >>= _) _ _ s;refine Uf (tupleItemsOf_ ht ?_);refine Uf (UL hTs ?_);rw[if_pos (by decide)];refine Uf (dh hs pl pu ?_)
 have hyes:((((sIx items.size 0 lo:Nat):Int) == 0 && (1:Int) == 1 && (sIx items.size items.size hi - sIx items.size 0 lo) == items.size)=true):=by
  rw[hw.1,hw.2];simp
 show wpAny _ _ (if (((sIx items.size 0 lo:Nat):Int) == 0 && (1:Int) == 1 && (sIx items.size items.size hi - sIx items.size 0 lo) == items.size)=true then _ else _) _ _ s;rw[if_pos hyes];have hT:s.TypeIs (.ref t) "tuple" := ht.typeIs
 first
  | (refine Uf (m:=Builtin.Tuple.tupleIsExact _) ?_
     unfold Builtin.Tuple.tupleIsExact;refine Uf (UL hT (Uw ?_));rw[if_pos (by decide)];exact Uf (UE (Uw ⟨_,rfl,Uw h⟩)))
end
end HT
namespace L2
open PySem PySem.Spec PyProof.Rows
theorem xI{s:Shared}{h':Heap}{o:Obj}(hk:∀b x,b ∉ [s.heap.objs.size]->(s.heap.push o).get? b=some x->h'.get? b=some x):∀b x,s.heap.get? b=some x->h'.get? b=some x:=
 λb x e=>hk b x (λhm=>by rw[Zx.mp hm] at e;exact ZN _ (Zr e)) (Zc _ e)
section
variable {X:Cx}
def Ls(K:W7):R2:=λx y H Q=>∃a b xs ys,x = .ref a/\y = .ref b/\SqT K H a xs/\SqT K H b ys/\xs.length+ys.length<=sizeLine ∧
 (xs=[]->Q (.ref b) H)/\(xs ≠ []->ys=[]->Q (.ref a) H)/\(xs ≠ []->ys ≠ []->∀p,H p=none->Q (.ref p) (upd H p (.tup (xs++ys))))
theorem BC:OpR X (Vr .Add) (Ls X.K):=by
 intro pins s σ H x y v u Q I rx ry h;obtain⟨a,b,xs,ys,rfl,rfl,ha,hb,hz,q0,q1,q2⟩:=h;by_cases hx:xs=[]
 ·subst hx;cases rx;cases ry;obtain⟨its,r1,p1,_⟩:=I.tuple ha;obtain⟨its2,r2,p2,_⟩:=I.tuple hb;cases r1;exact HT.xH p1 p2 ⟨.ref b,H,I,rfl,q0 rfl⟩
 ·exact Bm pins s σ H _ _ v u Q I rx ry ⟨a,b,xs,ys,rfl,rfl,ha,hb,hx,hz,q1 hx,q2 hx⟩
def Oc(K:W7):V->Option Int->Option Int->Hp->VK->Prop:=λx lo hi H Q=>∃a xs,x = .ref a/\SqT K H a xs ∧
 ((HT.sIx xs.length 0 lo=0/\HT.sIx xs.length xs.length hi=xs.length)->Q (.ref a) H) ∧
 (¬ (HT.sIx xs.length 0 lo=0/\HT.sIx xs.length xs.length hi=xs.length)->∀p,H p=none->Q (.ref p) (upd H p (.tup (jM xs lo hi))))
theorem BD:SlR X (Oc X.K):=by
 intro pins s σ H x v vl vu lo hi sl Q I rx hs pl pu h;obtain⟨a,xs,rfl,hx,q1,q2⟩:=h;by_cases hw:(HT.sIx xs.length 0 lo=0/\HT.sIx xs.length xs.length hi=xs.length)
 ·cases rx;obtain⟨its,r,ht,hz⟩:=I.tuple hx;have hlen:its.toArray.size=xs.length:=by rw[Zk];exact r.length.symm
  refine⟨"tuple", _,PyProof.Rows.slot_tuple_getitem.lookup,ht.typeIs,?_⟩;exact HT.fR ht hs pl pu (by rw[hlen];exact hw) ⟨.ref a,H,I,rfl,q1 hw⟩
 ·exact Gu pins s σ H _ v vl vu lo hi sl Q I rx hs pl pu ⟨a,xs,rfl,hx,hw,q2 hw⟩
theorem pd:aV X (.builtin "isinstance") (λxs H Q=>∃x n t b,xs=[x,.ty n]/\TyOf X.K H x t/\Vg X.K t (.type n)=some b/\Q (.bl b) H):=by
 intro pins s σ H xs us Q I r h;obtain⟨x,n,t,b,rfl,ty,e,q⟩:=h;obtain⟨u,w',rfl,rx,ry⟩:=o6 r;cases ry;exact uX I rx ty e λtk=>⟨.bl b,H,I.tok tk,rfl,q⟩
theorem jP:∀ {bs:List Bool} {us:List Value},aP (bs.map V.bl) us->us=bs.map Value.bool
 |[],_,.nil=>rfl
 |_::_,_,.cons r t=>by rw[ZC,jP t];cases r;rfl
theorem vm(hc:X.calm=true):aV X (.builtin "all") (λxs H Q=>∃ (l:Addr) (bs:List Bool),xs=[.ref l]/\SqL X.K H l (bs.map V.bl)/\Q (.bl (bs.all id)) H):=by
 intro pins s σ H xs us Q I r h;obtain⟨l,bs,rfl,hl,q⟩:=h;obtain⟨u,rfl,ru⟩:=b9 r;cases ru;obtain⟨its,rv,p,hz⟩:=I.list hl;have e:=jP rv;subst e;have hL:=p.isList;have hlt:l < s.heap.objs.size:=by obtain⟨_,e,_⟩:=hL;exact Zr e
 refine call_all_walk (Uy hL ?_)
 refine⟨s.heap.objs.size,[s.heap.objs.size,l],[s.heap.objs.size],_,_,_,λi=>(bs[i]?).getD true,rfl,Walks.list (A:=X.A.in1) (I.ok.hd hc) _ l (ZF hlt) _,
  ⟨⟨_,Zz _ rfl,rfl,rfl⟩,hL.push _⟩,λi v s' Q' E' hP hQ=>?_,λh' tk hk=>?_⟩
 ·have hP':(bs.map Value.bool)[i]?=some v:=by simpa using hP
  rw[Zo] at hP';cases hb:bs[i]? with
  |none=>rw[hb] at hP';cases hP'
  |some b=>
   rw[hb] at hP';have ev:Value.bool b=v:=Option.some.inj hP';subst ev;simp only[hb,ZZ] at hQ;exact UJ hQ
 ·have e:((Zl (bs.map Value.bool).toArray.size).all λi=>(bs[i]?).getD true)=bs.all id:=by
   rw[Zk,Za,YT];simp only[Yg,Z1,id];constructor
   ·intro h b hb;obtain⟨i,hi,rfl⟩:=List.mem_iff_getElem.mp hb;have:=h i hi
    rwa [gEG hi,ZZ] at this
   ·intro h i hi;rw[gEG hi,ZZ];exact h _ (ZM hi)
  rw[e];exact⟨.bl (bs.all id),H,I.kept (t':=tk) (xI hk),rfl,q⟩
theorem GD:OpR X (VA .Is) (λx y H Q=>∃b c,x = .bl b/\y = .bl c/\Q (.bl (b == c)) H):=by
 intro pins s σ H x y v u Q I rx ry h;obtain⟨b,c,rfl,rfl,q⟩:=h;cases rx;cases ry;exact is_bool ⟨.bl _,H,I,rfl,q⟩
theorem vn:OpR X (VA .IsNot) (λx y H Q=>∃b c,x = .bl b/\y = .bl c/\Q (.bl (b != c)) H):=by
 intro pins s σ H x y v u Q I rx ry h;obtain⟨b,c,rfl,rfl,q⟩:=h;cases rx;cases ry;exact isnot_bool ⟨.bl _,H,I,rfl,q⟩
theorem jQ(hc:X.calm=true):∀ {pins:List (Addr × Obj)} {s:Shared} {σ:St} {H:Hp} {Q:VK} {r:Addr} {n:Nat} {t u v:Tok},Inv X pins σ H s->IsRange s.heap r 0 n 1 t u v->n<=1000->(∀l,H l=none->Q (.ref l) (upd H l (.lst ((Zl n).map λ(i:Nat)=>V.int i)))) ->
  wpAny (model X.prog X.w) X.A (call (.type "list") [.ref r]) (EP X pins σ Q) X.xe s:=by
 intro pins s σ H Q r n t u v I hr hn q;have hsm:Builtin.Range.small 0 n 1=true:=small_one (by lia) (by lia) (by lia) (by lia);refine call_list_range (n:=n) (I.ok.hd hc) hr hsm (by rw[rangeSize_one];split <;> lia) (by lia) λh' tk acc' c' hk hS' hacc=>?_;refine⟨.ref s.heap.objs.size,_,I.laid (t':=tk) (o:=.lst ((Zl n).map λ(i:Nat)=>V.int i)) hk (Zf _) ?_,rfl,q _ (I.hok.fresh (Zf _))⟩;have hsz:acc'.size=n:=hacc.1;refine⟨by rw[Za,ZJ];exact YU (vg hn),acc'.toList,c',?_,by simpa using hS'⟩
 have go:∀ (m:Nat) (k:Nat) (l:List Value),l.length=m->(∀j x,l[j]?=some x->∃tk,x=Value.int (((k+j:Nat):Nat):Int) tk)->aP ((List.range' k m).map λ(i:Nat)=>V.int i) l:=by
  intro m
  induction m with
  |zero=>intro k l hl _;cases l with |nil=>exact .nil |cons _ _=>cases hl
  |succ m ih=>
   intro k l hl hx;cases l with
   |nil=>cases hl
   |cons x l=>
    rw[List.range'_succ,ZC];obtain⟨t,e⟩:=hx 0 x rfl;refine .cons ⟨t,by simpa using e⟩ (ih (k+1) l (by simpa using hl) λj y hy=>?_);obtain⟨t',e'⟩:=hx (j+1) y (by simpa using hy);exact⟨t',by rw[e',show((k+(j+1):Nat):Int)=((k+1+j:Nat):Int) from by lia]⟩
 rw[List.range_eq_range'];refine go n 0 acc'.toList (by simpa using hsz) λj x hx=>?_;obtain⟨tk',e⟩:=hacc.2 j x (by simpa using hx);exact⟨tk',by rw[e,show(0:Int)+(j:Nat) * 1=((0+j:Nat):Int) from by lia]⟩
end
section
variable {κ:Type} [DecidableEq κ]
abbrev ip(kvs:List (κ × V))(k:κ):Option V:=(kvs.find? λkv=>decide (kv.1=k)).map (·.2)
abbrev jR(kvs:List (κ × V))(k:κ)(v:V):List (κ × V):=
 if (kvs.any λkv=>decide (kv.1=k))=true then kvs.map (λkv=>if kv.1=k then (kv.1,v) else kv) else kvs++[(k,v)]
theorem gQ{p:κ × V}{r:List (κ × V)}{k:κ}(e:p.1=k):ip (p::r) k=some p.2:=by simp[ip,Yx,e]
theorem eS{p:κ × V}{r:List (κ × V)}{k:κ}(e:¬ p.1=k):ip (p::r) k=ip r k:=by simp[ip,Yx,e]
theorem jS(k:κ):∀kvs:List (κ × V),(kvs.any λkv=>decide (kv.1=k))=(ip kvs k).isSome
 |[]=>rfl
 |p::r=>by
  rw[Yy];by_cases e:p.1=k
  ·simp only[gQ e,decide_eq_true e,Bool.true_or,XD]
  ·rw[eS e,decide_eq_false e,YS];exact jS k r
theorem iQ(kvs:List (κ × V))(k:κ)(v:V):(jR kvs k v).length<=kvs.length+1:=by
 unfold jR;split
 ·rw[Za];omega
 ·rw[Zh,Zv,Z3];omega
theorem qQ.isSome_eq(r:qQ o u):o.isSome=u.isSome:=by
 cases o with
 |none=>cases u with
  |none=>rfl
  |some _=>exact(show False from r).elim
 |some _=>cases u with
  |none=>exact(show False from r).elim
  |some _=>rfl
theorem KV.val{kvs:List (κ × V)}{vs:List (κ × Value)}(r:KV kvs vs)(k:κ):qQ (ip kvs k) (valueAt vs k):=by
 unfold KV at r
 induction r with
 |nil=>exact True.intro
 |@cons p q ps qs h t ih=>
  obtain⟨h1,h2⟩:=h;by_cases e:p.1=k
  ·have e':q.1=k:=h1.symm.trans e;have b:valueAt (q::qs) k=some q.2:=by simp[valueAt,Yx,e']
   rw[gQ e,b];exact h2
  ·have e':¬ q.1=k:=λz=>e (h1.trans z);have b:valueAt (q::qs) k=valueAt qs k:=by simp[valueAt,Yx,e']
   rw[eS e,b];exact ih
theorem KV.any{kvs:List (κ × V)}{vs:List (κ × Value)}(r:KV kvs vs)(k:κ):(kvs.any λkv=>decide (kv.1=k))=vs.any λkv=>decide (kv.1=k):=by
 unfold KV at r
 induction r with
 |nil=>rfl
 |cons h t ih=>rw[Yy,Yy,ih,h.1]
theorem KV.repl(r:KV kvs vs)(k:κ)(ry:aB y u) :
  KV (kvs.map λkv=>if kv.1=k then (kv.1,y) else kv) (vs.map λkv=>if kv.1=k then (kv.1,u) else kv):=by
 unfold KV at r ⊢
 induction r with
 |nil=>exact .nil
 |@cons p q ps qs h t ih=>
  rw[ZC,ZC];refine .cons ?_ ih;obtain⟨h1,h2⟩:=h;by_cases e:p.1=k
  ·rw[if_pos e,if_pos (h1.symm.trans e)];exact⟨h1,ry⟩
  ·rw[if_neg e,if_neg (λz=>e (h1.trans z))];exact⟨h1,h2⟩
theorem KV.put(r:KV kvs vs)(k:κ)(ry:aB y u):KV (jR kvs k y) (stored vs k u):=by
 unfold jR stored;rw[r.any k];by_cases e:(vs.any λkv=>decide (kv.1=k))=true
 ·rw[if_pos e,if_pos e];exact r.repl k ry
 ·rw[if_neg e,if_neg e];exact Paired.snoc r ⟨rfl,ry⟩
theorem KV.length(r:KV kvs vs):kvs.length=vs.length:=Paired.length r
end
theorem mh(r:aB (kV k) u):(aW P w).is k u=true:=by
 cases k with
 |inl i=>obtain⟨t,e⟩:=(show ∃t,u=Value.int i t from r);subst e;exact oW P w i t
 |inr x=>obtain⟨t,e⟩:=(show ∃t,u=Value.str x t from r);subst e;exact oX P w x t
theorem mi:∀ {ks:List Key} {us:List Value},aP (ks.map kV) us->ItemsAre (aW P w) ks us
 |[],_,r=>by rw[Yb] at r;cases r;exact .nil
 |k::ks,_,r=>by
  rw[ZC] at r;cases r with
  |cons h t=>exact .cons (mh h) (mi t)
@[inline]abbrev KT(H:Hp):List (List NK × V)->List (List NK × Addr × Value)->Prop:=Paired λp q=>p.1=q.1/\nc H p.1 q.2.1/\aB p.2 q.2.2
theorem KT.val{H:Hp}{kvs:List (List NK × V)}{xs:List (List NK × Addr × Value)}(r:KT H kvs xs)(k:List NK):qQ (ip kvs k) ((atKey xs k).map (·.2)):=by
 induction r with
 |nil=>exact True.intro
 |@cons p q ps qs h t ih=>
  obtain⟨h1,_,h2⟩:=h;by_cases e:p.1=k
  ·have e':q.1=k:=h1.symm.trans e;have b:atKey (q::qs) k=some q.2:=by simp[atKey,Yx,e']
   rw[gQ e,b];exact h2
  ·have e':¬ q.1=k:=λz=>e (h1.trans z);have b:atKey (q::qs) k=atKey qs k:=by simp[atKey,Yx,e']
   rw[eS e,b];exact ih
theorem KT.repl(r:KT H kvs xs)(k:List NK)(ry:aB y u) :
  KT H (kvs.map λkv=>if kv.1=k then (kv.1,y) else kv) (xs.map (putAt k u)):=by
 induction r with
 |nil=>exact .nil
 |@cons p q ps qs h t ih=>
  rw[ZC,ZC];refine .cons ?_ ih;obtain⟨h1,h2,h3⟩:=h;unfold putAt;by_cases e:p.1=k
  ·rw[if_pos e,if_pos (h1.symm.trans e)];exact⟨h1,h2,ry⟩
  ·rw[if_neg e,if_neg (λz=>e (h1.trans z))];exact⟨h1,h2,h3⟩
theorem KT.put(r:KT H kvs xs)(k:List NK)(hb:nc H k b)(ry:aB y u) :
  KT H (jR kvs k y) (storedH xs k b u):=by
 have e:(kvs.any λkv=>decide (kv.1=k))=(atKey xs k).isSome:=by
  rw[jS,(r.val k).isSome_eq,Y3]
 unfold jR storedH;rw[e];by_cases q:(atKey xs k).isSome=true
 ·rw[if_pos q,if_pos q];exact r.repl k ry
 ·rw[if_neg q,if_neg q];exact Paired.snoc r ⟨rfl,hb,ry⟩
theorem KT.keeps(r:KT H kvs xs)(ht:∀b ys,H b=some (.tup ys)->H' b=some (.tup ys)):KT H' kvs xs:=
 Paired.mapP r λ_ _ z=>⟨z.1,z.2.1.mono ht,z.2.2⟩
section
variable {P:Program} {w:World} {H:Hp} {h:Heap} {a:Addr}
theorem E7(ok:HOk P w H h)(e:Rd H a u):bg P w H h a u:=e.ok ok
theorem pf(ok:HOk P w H h)(e:Rd H a (.dK kvs)):kvs.length<=sizeLine/\(a == Ub)=false/\∃vs,KV kvs vs/\h.DictOf (aW P w) a vs:=
 show bg P w H h a (.dK kvs) from E7 ok e
theorem Lu(ok:HOk P w H h)(e:H a=some (.dK kvs)):kvs.length<=sizeLine/\(a == Ub)=false/\∃vs,KV kvs vs/\h.DictOf (aW P w) a vs:=pf ok (.inl e)
theorem xJ(ok:HOk P w H h)(e:H a=some (.tup (ks.map kV))):IsTupleKey (aW P w) h ks a:=by
 obtain⟨_,its,r,o,h1,h2,n,h3,_⟩:=(show bg P w H h a (.tup (ks.map kV)) from ok a _ e);exact⟨o,its.toArray,n,h1,h2,h3,by simpa using mi r⟩
theorem dG{ks:List NK}(ok:HOk P w H h)(e:nc H ks a):(eN P w).is h ks a:=by
 obtain⟨xs,ea,rk⟩:=e;obtain⟨_,its,r,o,h1,h2,n,h3,_⟩:=(show bg P w H h a (.tup xs) from ok a _ ea);refine⟨o,its.toArray,n,h1,h2,h3,?_⟩
 have all:∀ {ks:List NK} {xs:List V} {us:List Value},Paired (uN H) ks xs->aP xs us->Paired (NIs P w h) ks us:=by
  intro ks xs us p
  induction p generalizing us with
  |nil=>intro q;cases q;exact .nil
  |@cons k x ks xs hk _ ih=>
   intro q;cases q with
   |cons q1 q2=>
    refine .cons ?_ (ih q2);cases k with
    |non=>cases hk;exact q1
    |one k=>cases hk;exact mh (P:=P) (w:=w) q1
    |tup ks'=>obtain⟨b,rfl,hb⟩:=hk;cases q1;exact⟨b,rfl,xJ ok hb⟩
 simpa using all rk r
theorem pq(ok:HOk P w H h)(e:Rd H a (.dT kvs)):kvs.length<=sizeLine/\(a == Ub)=false ∧
  ∃xs,KT H kvs xs/\h.DictOfH (eN P w) a xs:=by
 obtain⟨z,y,xs,r,o,es,ep,h1,h2,h3,h4,h5⟩:=(show bg P w H h a (.dT kvs) from E7 ok e);refine⟨z,y,xs,r,o,es,ep,h1,h2,h3,h4,λx hx=>?_,h5⟩
 have all:∀ {l:List (List NK × V)} {m:List (List NK × Addr × Value)},KT H l m->∀x ∈ m,(eN P w).is h x.1 x.2.1:=by
  intro l m q
  induction q with
  |nil=>intro x hx;exact nomatch hx
  |@cons p q ps qs hq t ih=>
   intro x hx;rcases Zn.mp hx with e |hx
   ·subst e;exact dG ok (by rw[<-hq.1];exact hq.2.1)
   ·exact ih x hx
 exact all r x hx
theorem Lv(ok:HOk P w H h)(e:H a=some (.dT kvs)):kvs.length<=sizeLine/\(a == Ub)=false ∧
  ∃xs,KT H kvs xs/\h.DictOfH (eN P w) a xs:=pq ok (.inl e)
end
def xK(H:Hp)(a:Addr)(y:V)(r:Option V):Prop:=
 (∃kvs k,Rd H a (.dK kvs)/\y=kV k/\r=ip kvs k)\/∃kvs k b,Rd H a (.dT kvs)/\y = .ref b/\nc H k b/\r=ip kvs k
def Lx(H:Hp)(a:Addr)(y v:V)(H':Hp):Prop:=
 (∃kvs k,H a=some (.dK kvs)/\y=kV k/\kvs.length < sizeLine/\H'=upd H a (.dK (jR kvs k v))) ∨
 ∃kvs k b,H a=some (.dT kvs)/\y = .ref b/\nc H k b/\kvs.length < sizeLine/\H'=upd H a (.dT (jR kvs k v))
section
variable {X:Cx} {pins:List (Addr × Obj)} {σ:St} {H:Hp} {s:Shared} {a:Addr} {y v:V} {u r:Value} {o:Option V} {A:Around} {E:Value->Shared->Prop}
theorem Inv.big(I:Inv X pins σ H s):Ub < s.heap.objs.size:=by
 have h:VN < s.heap.objs.size:=(I.mod.glob.keeps I.bk).lt;exact Nat.lt_trans (by decide) h
theorem vq(hu:A.units+2 < cLine)(I:Inv X pins σ H s)(g:xK H a y (some v))(ry:aB y u)(h:∀w' s',Inv X pins σ H s'->aB v w'->Q w' s') :
  wpAny (model X.prog X.w) A (getItem (.ref a) u) Q E s:=by
 rcases g with ⟨kvs,k,e,ey,l⟩ |⟨kvs,k,b,e,ey,eb,l⟩
 ·subst ey;obtain⟨z,hd,vs,rel,dd⟩:=pf I.hok e;obtain⟨w',hw,rw'⟩:=qQ.some_of (v:=v) (o:=valueAt vs k) (by rw[l];exact rel.val k);exact wpAny_getItem_of (mh ry) dd.mapOf hw (h w' _ (I.tok _) rw')
 ·subst ey;cases (show u=Value.ref b from ry);obtain⟨z,hd,xs,rel,dd⟩:=pq I.hok e;obtain⟨w',hw,rw'⟩:=qQ.some_of (v:=v) (o:=(atKey xs k).map (·.2)) (by rw[l];exact rel.val k);obtain⟨p,hp,hp2⟩:=ZL.mp hw;refine wpAny_getItem_heap (show _+1 < _ from hu) (dG I.hok eb) dd hp ?_;rw[hp2];exact h w' _ (I.tok _) rw'
theorem Od(hu:A.units+2 < cLine)(I:Inv X pins σ H s)(g:xK H a y o)(ry:aB y u)(h:∀s',Inv X pins σ H s'->Q (.bool o.isSome) s') :
  wpAny (model X.prog X.w) A (VA .In u (.ref a)) Q E s:=by
 rcases g with ⟨kvs,k,e,ey,l⟩ |⟨kvs,k,b,e,ey,eb,l⟩
 ·subst ey;obtain⟨z,hd,vs,rel,dd⟩:=pf I.hok e;refine wpAny_in_of (mh ry) hd dd.mapOf ?_;rw[<-(rel.val k).isSome_eq,<-l];exact h _ (I.tok _)
 ·subst ey;cases (show u=Value.ref b from ry);obtain⟨z,hd,xs,rel,dd⟩:=pq I.hok e;refine wpAny_in_heap (show _+1 < _ from hu) (dG I.hok eb) hd dd ?_;have q:=(rel.val k).isSome_eq;rw[Y3] at q;rw[<-q,<-l];exact h _ (I.tok _)
theorem BE(hu:A.units+2 < cLine)(I:Inv X pins σ H s)(g:xK H a y o)(ry:aB y u)(h:∀s',Inv X pins σ H s'->Q (.bool (!o.isSome)) s') :
  wpAny (model X.prog X.w) A (VA .NotIn u (.ref a)) Q E s:=by
 rcases g with ⟨kvs,k,e,ey,l⟩ |⟨kvs,k,b,e,ey,eb,l⟩
 ·subst ey;obtain⟨z,hd,vs,rel,dd⟩:=pf I.hok e;refine wpAny_notIn_of (mh ry) hd dd.mapOf ?_;rw[<-(rel.val k).isSome_eq,<-l];exact h _ (I.tok _)
 ·subst ey;cases (show u=Value.ref b from ry);obtain⟨z,hd,xs,rel,dd⟩:=pq I.hok e;refine wpAny_notIn_heap (show _+1 < _ from hu) (dG I.hok eb) hd dd ?_;have q:=(rel.val k).isSome_eq;rw[Y3] at q;rw[<-q,<-l];exact h _ (I.tok _)
theorem tz{t':Nat}(I:Inv X pins σ H s)(mu:Mut (H a))(hs:Heap.SameBut a s.heap h')(he:∃q,h'.get? a=some q)(new:bg X.prog X.w (upd H a ob) h' a ob) :
  Inv X pins σ (upd H a ob) { s with heap:=h',toks:=t' }:=
 I.write (x:=a) (e:=a) mu (.inl rfl) (λb q hb z=>(hs.2 b hb).trans z) he new
theorem GF(z:kvs.length<=sizeLine)(hd:(a == Ub)=false)(rel:KV kvs vs)(dd:h'.DictOf (aW P w) a vs) :
  bg P w H' h' a (.dK kvs):=⟨z,hd,vs,rel,dd⟩
theorem vt(hu:A.units+2 < cLine)(I:Inv X pins σ H s)(g:Lx H a y v H')(ry:aB y u)(rv:aB v r)(h:∀s',Inv X pins σ H' s'->Q () s') :
  wpAny (model X.prog X.w) A (setItem (.ref a) u r) Q E s:=by
 rcases g with ⟨kvs,k,e,ey,l,eH⟩ |⟨kvs,k,b,e,ey,eb,l,eH⟩
 ·subst ey eH;obtain⟨z,hd,vs,rel,dd⟩:=Lu I.hok e;have hz:vs.length<=sizeLine:=by rw[<-rel.length];exact z
  have hl:(jR kvs k v).length<=sizeLine:=by have:=iQ kvs k v;omega
  refine wpAny_setItem_pairs (hsz:=hz) (mh ry) dd λh' dd' hs=>h _ ?_;have he:∃q,h'.get? a=some q:=let ⟨q,_,_,hq,_⟩:=dd';⟨q,hq⟩;exact tz I (by rw[e];exact True.intro) hs he (GF hl hd (rel.put k rv) dd')
 ·subst ey eH;cases (show u=Value.ref b from ry);obtain⟨z,hd,xs,rel,dd⟩:=Lv I.hok e;have hz:xs.length<=sizeLine:=by rw[<-Paired.length rel];exact z
  have hl:(jR kvs k v).length<=sizeLine:=by have:=iQ kvs k v;omega
  refine wpAny_setItem_heap (hsz:=hz) (show _+1 < _ from hu) (dG I.hok eb) dd λh' dd' hs=>h _ ?_;obtain⟨q,es,ep,hq,h2,h3,h4,_,h5⟩:=dd';refine tz I (by rw[e];exact True.intro) hs ⟨q,hq⟩ ⟨hl,hd,_,(rel.put k eb rv).keeps λc ys ec=>?_,q,es,ep,hq,h2,h3,h4,h5⟩;rw[av (lV ec e (λz=>nomatch z))];exact ec
end
theorem pw(I:Inv X pins σ H s)(g:xK H a y o):s.TypeIs (.ref a) "dict" := by
 rcases g with ⟨kvs,k,e,_,_⟩ |⟨kvs,k,b,e,_,_,_⟩
 ·obtain⟨_,_,vs,_,dd⟩:=pf I.hok e;exact dd.typeIs
 ·obtain⟨_,_,xs,_,dd⟩:=pq I.hok e;exact dd.typeIs
theorem xL(h:Heap)(hb:Ub < h.objs.size):bg P w H (h.push { cls:=.type "dict", data:=.dict #[] }) h.objs.size (.dT []):=
 ⟨Xq _,beq_eq_false_iff_ne.mpr (Ne.symm (ZF hb)),[],.nil,_,#[],0,Zz _ rfl,⟨rfl,rfl,rfl⟩,rfl,rfl,Wa⟩
def xM:TE:=λ_ H Q=>∀p,H p=none->Q (.ref p) (upd H p (.dT []))
section
variable {X:Cx} {pos:Pos}
theorem xN:PE X (.Dict [] [] pos) xM:=λpins s σ H Q I h=>
 wpAny_Dict_empty ⟨.ref s.heap.objs.size,_,I.laid (a:=s.heap.objs.size) (o:=.dT []) (t':=s.toks) (λ_ _ q=>Zc _ q) (Zf _) (xL s.heap I.big),rfl,h _ (I.hok.fresh (Zf _))⟩
end
end L2
namespace HT
open PySem PyProof.Rows
open AutoSeq1 (wpAny_loadPart')
section
variable {prog:Program} {w:World} {A:Around} {E:Value->Shared->Prop} {s:Shared}
theorem jc{i:Nat}(hit:s.heap.IsTupleIter it t i)(ht:s.heap.IsTuple t items)(hx:items[i]?=some x)
  (hQ:∀h',h'.IsTupleIter it t (i+1)->Heap.SameBut it s.heap h'->Q x { s with heap:=h' }):wpAny (model prog w) A (Builtin.SmallTypes.nextOf (.ref it)) Q E s:=by
 obtain⟨o,ho,hc,hd⟩:=id hit;obtain⟨ol,hol,_,nl,hdl⟩:=ht;unfold Builtin.SmallTypes.nextOf
 refine Uf (wpAny_callSpecial?_slot (name:=Str.ofString "__next__") hit.typeIs WM
  (Uh WM hit.typeIs WB ?_ (Ww _)))
 show wpAny _ _ (field (.ref it) 0 >>= _) _ _ s;refine Uf (Uk ho hd (x:=.ref t) rfl ?_);show wpAny _ _ (if (Value.ref t == Value.none)=true then _ else _) _ _ s;rw[if_neg (show ¬ ((Value.ref t == Value.none)=true) from Zd)];show wpAny _ _ (field (.ref it) 1 >>= _) _ _ s;refine Uf (Uk ho hd (x:=.int i 0) rfl ?_);show wpAny _ _ (V2 (.ref t) >>= _) _ _ s;refine Uf (UF hol hdl ?_);simp only[ZE,hx];refine Uf (wpAny_setField ho hd (by simp) (Uw ⟨x,rfl,Uw (hQ _ ?_ (Heap.SameBut.update ..))⟩))
 exact⟨_,Z8 _ ho (Obj.isFreed_of_fields (Obj.data_mapFields hd _)),(Obj.cls_mapFields ..).trans hc,by
  rw[Obj.data_mapFields hd];simp[rawInt]⟩
theorem jT{i:Nat}(hh:A.handled=none)(hit:s.heap.IsTupleIter it t i)(ht:s.heap.IsTuple t items)(hx:items[i]?=none)
  (hE:∀h' e,Heap.ExtBut it s.heap h'->(∃o,h'.get? e=some o/\o.cls = .type "StopIteration")->E (.ref e) { s with heap:=h' }):wpAny (model prog w) A (Builtin.SmallTypes.nextOf (.ref it)) Q E s:=by
 obtain⟨o,ho,hc,hd⟩:=id hit;obtain⟨ol,hol,_,nl,hdl⟩:=ht;unfold Builtin.SmallTypes.nextOf
 refine Uf (wpAny_callSpecial?_slot (name:=Str.ofString "__next__") hit.typeIs WM
  (Uh WM hit.typeIs WB ?_ (Ww _)))
 show wpAny _ _ (field (.ref it) 0 >>= _) _ _ s;refine Uf (Uk ho hd (x:=.ref t) rfl ?_);show wpAny _ _ (if (Value.ref t == Value.none)=true then _ else _) _ _ s;rw[if_neg (show ¬ ((Value.ref t == Value.none)=true) from Zd)];show wpAny _ _ (field (.ref it) 1 >>= _) _ _ s;refine Uf (Uk ho hd (x:=.int i 0) rfl ?_);show wpAny _ _ (V2 (.ref t) >>= _) _ _ s;refine Uf (UF hol hdl ?_);simp only[ZE,hx];refine Uf (UE (Uf (wpAny_setField ho hd (by simp) ?_)));show wpAny _ _ (newExc (.type "StopIteration") [] >>= _) _ _ _;refine Uf ?_;simp only[newExc,newTuple];refine Uf (Ut ?_ (by size_fits));refine Uf (m:=firstArgMember _ _) (Uu (a:=Value.none) (by first |rfl |(simp only[firstArgMember];rfl)) ?_);refine Ut ?_ (by size_fits);simp only[raiseNew];refine Uf (wpAny_handled ?_)
 first |rw[show A.in1.handled=none from hh] |rw[hh]
 refine Uf (Uw (wpAny_throw ?_));exact hE _ _ (((Heap.SameBut.update ..).extBut.push _).push _) ⟨_,Zz _ rfl,rfl⟩
end
theorem xO(hh:A.handled=none)(it l:Addr)(hne:l ≠ it)(items:Array Value) :
  Draws prog w A it [it,l] items.size (λi v=>items[i]?=some v) (λi h=>h.IsTupleIter it l i/\h.IsTuple l items) where
 live:=λ_ _ st=>let ⟨o,ho,_⟩:=st.1;⟨o,ho⟩
 frame:=λ_ _ _ st hk=>⟨st.1.at λo e=>hk it (by simp) o e,let ⟨o,e,r⟩:=st.2;⟨o,hk l (by simp) o e,r⟩⟩
 item:=λi s Q E hi st hQ=>by
  refine jc st.1 st.2 (x:=items[i]) (by simp[hi]) λh' hit' hs'=>?_;exact hQ _ h' s.toks (by simp[hi]) ⟨hit',let ⟨o,e,r⟩:=st.2;⟨o,hs'.extBut l o hne e,r⟩⟩ hs'
 done:=λs Q E st hE=>jT hh st.1 st.2 (by simp) hE
theorem pA(l:Addr)(items:Array Value)(n:Nat)(dct:Option Addr)(sl:Array (Option Value)) :
  Meets (Builtin.«enumerate.__new__» ⟨[.type "enumerate", .ref l],[]⟩) (λ_ R s=>s.heap.get? l=some { cls:=.type "tuple", dict:=dct,data:=.seq items n,slots:=sl } ∧
   R (.ok (.ret (.ref (s.heap.push { cls:=.type "tuple_iterator", data:=.fields #[.ref l,.int 0 0] }).objs.size)))
    { s with heap:=(s.heap.push { cls:=.type "tuple_iterator", data:=.fields #[.ref l,.int 0 0] }).push { cls:=.type "enumerate", data:=.fields #[.none,.bool false,.ref s.heap.objs.size,rawInt 0,.none,.none] } }):=
 .of_wp λprog w A R s h=>by
  obtain⟨hp,g,d,tk,os⟩:=s;obtain⟨hl,h⟩:=h;have hsub:=sub_enumerate;have hL:Heap.IsTuple (Shared.heap ⟨hp,g,d,tk,os⟩) l items:=⟨_,hl,rfl,n,rfl⟩
  wp_walk using Ur hl
  refine wpAny_stack_any λst=>Uw ?_;split
  ·rename_i c _ _ _ _ _;cases (c == Value.type "enumerate")
   ·wp_walk using Ur hl,UA hL
    exact⟨_,rfl,h⟩
   ·wp_walk using Ur hl,UA hL
    exact⟨_,rfl,h⟩
  ·wp_walk using Ur hl,UA hL
   exact⟨_,rfl,h⟩
theorem re(hL:IsTup s.heap l items)
  (h:∀h',IsEnum h' (s.heap.objs.size+1) s.heap.objs.size 0 .none->h'.IsTupleIter s.heap.objs.size l 0->h'.objs.size=s.heap.objs.size+2 ->
   (∀b o,s.heap.get? b=some o->h'.get? b=some o)->Q (.ref (s.heap.objs.size+1)) { s with heap:=h' }) :
  wpAny (model prog w) A (call (.type "enumerate") [.ref l]) Q E s:=by
 obtain⟨⟨c,dct,dt,sl⟩,hl,hc,n,hd⟩:=hL;replace hc:c = .type "tuple" := hc;replace hd:dt = .seq items n:=hd;subst hc hd
 refine callType_new PySem.F.called_enumerate (by decide) (PySem.F.typeCall_enumerate_1 _) (PySem.F.newCall_enumerate_1 _) (λobj=>PySem.F.args_object_init_2 obj _) PySem.F.entry_enumerate_new
  (pA l items n dct sl) ⟨hl,?_⟩
 have hz:(s.heap.push { cls:=.type "tuple_iterator", data:=.fields #[.ref l,.int 0 0] }).objs.size=s.heap.objs.size+1:=Yi ..;show _/\_;rw[hz]
 have he:IsEnum ((s.heap.push { cls:=.type "tuple_iterator", data:=.fields #[.ref l,.int 0 0] }).push
   { cls:=.type "enumerate", data:=.fields #[.none,.bool false,.ref s.heap.objs.size,rawInt 0,.none,.none] }) (s.heap.objs.size+1) s.heap.objs.size 0 .none:=by
  have:=Zz (s.heap.push { cls:=.type "tuple_iterator", data:=.fields #[.ref l,.int 0 0] })
   (o:={ cls:=.type "enumerate", data:=.fields #[.none,.bool false,.ref s.heap.objs.size,rawInt 0,.none,.none] }) rfl
  rw[hz] at this;exact this
 exact⟨⟨_,he,rfl⟩,h _ he ⟨_,Zc _ (Zz _ rfl),rfl,rfl⟩ (by rw[Yi,hz]) λb o x=>Zc _ (Zc _ x)⟩
end HT
namespace L2
open PySem PySem.Spec PyProof.Rows
abbrev Ite(K:W7)(a:Addr)(sq:W7->Hp->Addr->List V->Prop):It:=
 ⟨λi H=>∃xs x,sq K H a xs/\xs[i]?=some x,λi H x H'=>∃T,H T=none/\x = .ref T/\∀xs v,sq K H a xs->xs[i]?=some v->H'=upd H T (.tup [.int i,v]),λi H=>∃xs,sq K H a xs/\xs.length=i⟩
theorem Inv.turnedLaid{X:Cx}{pins:List (Addr × Obj)}{σ:St}{H:Hp}{s:Shared}{h':Heap}{T:Addr}{o:HO}{t':Nat}{ch:List Addr}(I:Inv X pins σ H s)(hf:∀b ∈ ch,fQ X pins H b)
  (k:∀b ob,b ∉ ch->s.heap.get? b=some ob->h'.get? b=some ob) (hp:s.heap.objs.size<=T) (new:bg X.prog X.w (upd H T o) h' T o):Inv X pins σ (upd H T o) { s with heap:=h',toks:=t' }:=by
 have fr:=I.hok.fresh hp;have neT:∀b ob,s.heap.get? b=some ob->b ≠ T:=λb ob e=>ZF (ZB (Zr e) hp)
 refine I.step (g':=s.gens) (d':=s.drawn) (ch:=ch) (λb hb=>⟨(hf b hb).2.2.2.1,(hf b hb).2.1,(hf b hb).2.2.2.2.1,(hf b hb).2.2.2.2.2⟩) (λb ob _ _ hc e _=>k b ob hc e) (λb ob _ _ hc e _=>⟨ob.slots,k b ob hc e⟩)
  (λb ob _ e n=>by rw[av (neT b ob e)];exact n) (λb ob hc e=>⟨ob,k b ob hc e⟩) (λb xs q=>by rw[av (aQ q fr)];exact q) (λb u xs q=>by rw[av (aQ q fr)];exact q)
  (λb ps q=>⟨#[],by rw[av (aQ q fr),q];simp⟩) (λm hm=>?_) (λb u q=>?_) I.bare
 ·obtain⟨ob,es,ep,ho',r'⟩:=hm;exact⟨ob,es,ep,k _ ob (λz=>(hf _ z).2.1 rfl) ho',r'⟩
 ·by_cases hb:b=T
  ·subst hb;rw[a8] at q;cases q;exact new
  ·rw[av hb] at q;refine(I.hok b u q).stay (λc v hc q'=>k c v (λz=>?_) q') (λc q=>by rw[av (aQ q fr)];exact q) λc xs q=>by rw[av (aQ q fr)];exact q
   have n:=(hf c z).1;rcases hc with w |w
   ·rw[w,q] at n;cases n
   ·rw[w] at n;cases n
theorem Inv.turnedAll{X:Cx}{pins:List (Addr × Obj)}{σ:St}{H:Hp}{s:Shared}{h':Heap}{t':Nat}{ch:List Addr}(I:Inv X pins σ H s)(hf:∀b ∈ ch,fQ X pins H b)
  (k:∀b ob,b ∉ ch->s.heap.get? b=some ob->h'.get? b=some ob):Inv X pins σ H { s with heap:=h',toks:=t' }:=by
 refine I.step (g':=s.gens) (d':=s.drawn) (ch:=ch) (λb hb=>⟨(hf b hb).2.2.2.1,(hf b hb).2.1,(hf b hb).2.2.2.2.1,(hf b hb).2.2.2.2.2⟩) (λb ob _ _ hc e _=>k b ob hc e) (λb ob _ _ hc e _=>⟨ob.slots,k b ob hc e⟩)
  (λb ob _ e n=>n) (λb ob hc e=>⟨ob,k b ob hc e⟩) (λb xs q=>q) (λb u xs q=>q)
  (λb ps q=>⟨#[],by rw[q];simp⟩) (λm hm=>?_) (λb u q=>?_) I.bare
 ·obtain⟨ob,es,ep,ho',r'⟩:=hm;exact⟨ob,es,ep,k _ ob (λz=>(hf _ z).2.1 rfl) ho',r'⟩
 ·refine(I.hok b u q).stay (λc v hc q'=>k c v (λz=>?_) q') (λc q=>q) λc xs q=>q;have n:=(hf c z).1;rcases hc with w |w
  ·rw[w,q] at n;cases n
  ·rw[w] at n;cases n
theorem rf{P:Program}{w:World}{K:W7}{elts:List Expr}{x1:Nat}{tp:Pos}(a e it:Addr)(hei:e ≠ it) :
  Turn P w K (.Tuple elts x1 tp) (Ite K a SqL) [e,it] e (λi h=>(∃old,IsEnum h e it i old)/\h.IsListIter it a i) where
 mem:=by simp
 obj:=λi h st b hb=>by
  obtain⟨⟨old,he⟩,o,eo,c,d⟩:=st;rcases Zn.mp hb with z |z
  ·subst z;exact⟨_,he,λv z=>by have z':Data.fields _=Data.cell v:=z;cases z'⟩
  ·have z':=Zx.mp z;subst z';exact⟨o,eo,λv z=>by rw[d] at z;cases z⟩
 keep:=λi h h' st k=>⟨let ⟨old,he⟩:=st.1;⟨old,k e (by simp) _ he⟩,st.2.at λo eo=>k it (by simp) o eo⟩
 item:=by
  intro X hP hw hK hc i pins s σ H E I hf st hg;subst hP hw hK;obtain⟨xs,x,hq,hx⟩:=hg;obtain⟨its,rv,p,hz⟩:=I.list hq;obtain⟨u,hu,ru⟩:=rv.get hx;obtain⟨⟨old,he⟩,hit⟩:=st;have hL:s.heap.IsList a its.toArray:=p.isList
  have hae:e ≠ a:=λz=>by
   subst z;obtain⟨o,ho,hc',n,hd'⟩:=id hL;rw[he] at ho;cases ho;have z':Data.fields _=Data.seq its.toArray n:=hd';cases z'
  have hai:a ≠ it:=λz=>by
   subst z;obtain⟨o,ho,hc',n,hd'⟩:=id hL;obtain⟨o',ho',c',d'⟩:=id hit;rw[ho'] at ho;cases ho;rw[d'] at hd';cases hd'
  have hi:i < its.toArray.size:=by
   have:=(Zb.mp hu).1
   simpa using this
  refine UC (Draws.list (A:=X.A.in1) (I.ok.hd hc) it a hai its.toArray) he ⟨hit,hL⟩ hi hei (by simp[hei,hae]) λy h' tk hP ho hs' hT hsz hk=>?_
  have ey:y=u:=by
   have z:its.toArray[i]?=some u:=by simpa using hu
   rw[z] at hP;exact(Option.some.inj hP).symm
  subst ey;refine⟨_,rfl,?_⟩;refine Uq ho λh2 he2 hs2=>?_;have helt:e < s.heap.objs.size:=Zr he;have hilt:it < s.heap.objs.size:=by obtain⟨o,eo,_⟩:=hit;exact Zr eo
  have hT2:h2.get? s.heap.objs.size=some { cls:=.type "tuple", data:=.seq #[.int i tk,y] }:=(hs2.2 _ (XG helt)).trans hT;have fresh:=I.hok.fresh (Zf s.heap.objs.size);refine⟨.ref s.heap.objs.size,upd H s.heap.objs.size (.tup [.int i,x]),?_,rfl,⟨_,fresh,rfl,λys v hy hv=>?_⟩,⟨⟨y,by simpa using he2⟩,hs'.1.at λo eo=>(hs2.2 it (Ne.symm hei)).trans eo⟩,λb hb=>?_⟩
  ·exact I.turnedLaid (t':=tk+1) hf (λb ob hb eb=>(hs2.2 b λz=>hb (by simp[z])).trans (hk b ob (λz=>hb (by simp[z])) (λz=>hb (by simp[z])) eb)) (Zf _)
    ⟨by show 2<=sizeLine;decide,[.int i tk,y],.cons ⟨tk,rfl⟩ (.cons ru .nil),⟨_,hT2,rfl,_,rfl,rfl⟩⟩
  ·rw[I.list_inj hy hq,hx] at hv;cases hv;rfl
  ·rcases Zn.mp hb with z |z
   ·rw[z,av (ZF helt)];exact(hf e (by simp)).1
   ·rw[Zx.mp z,av (ZF hilt)];exact(hf it (by simp)).1
 done:=by
  intro X hP hw hK hc i pins s σ H E I hf st hg;subst hP hw hK;obtain⟨xs,hq,hx⟩:=hg;obtain⟨its,rv,p,hz⟩:=I.list hq;obtain⟨⟨old,he⟩,hit⟩:=st;have hL:s.heap.IsList a its.toArray:=p.isList
  have hai:a ≠ it:=λz=>by
   subst z;obtain⟨o,ho,hc',n,hd'⟩:=id hL;obtain⟨o',ho',c',d'⟩:=id hit;rw[ho'] at ho;cases ho;rw[d'] at hd';cases hd'
  have hn:its.toArray.size=i:=by rw[Zk,<-rv.length,hx]
  subst hn;refine UB (Draws.list (A:=X.A.in1) (I.ok.hd hc) it a hai its.toArray) he ⟨hit,hL⟩ λh' eb=>⟨rfl,?_⟩;exact I.turnedAll (t':=s.toks) hf λb ob hb q=>eb b ob (λz=>hb (by simp[z])) q
 self:=λ_ _ _ _ _ st h=>let ⟨⟨old,he⟩,_⟩:=st;Ux he h
theorem rh{P:Program}{w:World}{K:W7}{elts:List Expr}{x1:Nat}{tp:Pos}(a e it:Addr)(hei:e ≠ it) :
  Turn P w K (.Tuple elts x1 tp) (Ite K a SqT) [e,it] e (λi h=>(∃old,IsEnum h e it i old)/\h.IsTupleIter it a i) where
 mem:=by simp
 obj:=λi h st b hb=>by
  obtain⟨⟨old,he⟩,o,eo,c,d⟩:=st;rcases Zn.mp hb with z |z
  ·subst z;exact⟨_,he,λv z=>by have z':Data.fields _=Data.cell v:=z;cases z'⟩
  ·have z':=Zx.mp z;subst z';exact⟨o,eo,λv z=>by rw[d] at z;cases z⟩
 keep:=λi h h' st k=>⟨let ⟨old,he⟩:=st.1;⟨old,k e (by simp) _ he⟩,st.2.at λo eo=>k it (by simp) o eo⟩
 item:=by
  intro X hP hw hK hc i pins s σ H E I hf st hg;subst hP hw hK;obtain⟨xs,x,hq,hx⟩:=hg;obtain⟨its,rv,p,hz⟩:=I.tuple hq;obtain⟨u,hu,ru⟩:=rv.get hx;obtain⟨⟨old,he⟩,hit⟩:=st;have hL:s.heap.IsTuple a its.toArray:=p
  have hae:e ≠ a:=λz=>by
   subst z;obtain⟨o,ho,hc',n,hd'⟩:=id hL;rw[he] at ho;cases ho;have z':Data.fields _=Data.seq its.toArray n:=hd';cases z'
  have hai:a ≠ it:=λz=>by
   subst z;obtain⟨o,ho,hc',n,hd'⟩:=id hL;obtain⟨o',ho',c',d'⟩:=id hit;rw[ho'] at ho;cases ho;rw[d'] at hd';cases hd'
  have hi:i < its.toArray.size:=by
   have:=(Zb.mp hu).1
   simpa using this
  refine UC (HT.xO (A:=X.A.in1) (I.ok.hd hc) it a hai its.toArray) he ⟨hit,hL⟩ hi hei (by simp[hei,hae]) λy h' tk hP ho hs' hT hsz hk=>?_
  have ey:y=u:=by
   have z:its.toArray[i]?=some u:=by simpa using hu
   rw[z] at hP;exact(Option.some.inj hP).symm
  subst ey;refine⟨_,rfl,?_⟩;refine Uq ho λh2 he2 hs2=>?_;have helt:e < s.heap.objs.size:=Zr he;have hilt:it < s.heap.objs.size:=by obtain⟨o,eo,_⟩:=hit;exact Zr eo
  have hT2:h2.get? s.heap.objs.size=some { cls:=.type "tuple", data:=.seq #[.int i tk,y] }:=(hs2.2 _ (XG helt)).trans hT;have fresh:=I.hok.fresh (Zf s.heap.objs.size);refine⟨.ref s.heap.objs.size,upd H s.heap.objs.size (.tup [.int i,x]),?_,rfl,⟨_,fresh,rfl,λys v hy hv=>?_⟩,⟨⟨y,by simpa using he2⟩,hs'.1.at λo eo=>(hs2.2 it (Ne.symm hei)).trans eo⟩,λb hb=>?_⟩
  ·exact I.turnedLaid (t':=tk+1) hf (λb ob hb eb=>(hs2.2 b λz=>hb (by simp[z])).trans (hk b ob (λz=>hb (by simp[z])) (λz=>hb (by simp[z])) eb)) (Zf _)
    ⟨by show 2<=sizeLine;decide,[.int i tk,y],.cons ⟨tk,rfl⟩ (.cons ru .nil),⟨_,hT2,rfl,_,rfl,rfl⟩⟩
  ·rw[I.tuple_inj hy hq,hx] at hv;cases hv;rfl
  ·rcases Zn.mp hb with z |z
   ·rw[z,av (ZF helt)];exact(hf e (by simp)).1
   ·rw[Zx.mp z,av (ZF hilt)];exact(hf it (by simp)).1
 done:=by
  intro X hP hw hK hc i pins s σ H E I hf st hg;subst hP hw hK;obtain⟨xs,hq,hx⟩:=hg;obtain⟨its,rv,p,hz⟩:=I.tuple hq;obtain⟨⟨old,he⟩,hit⟩:=st;have hL:s.heap.IsTuple a its.toArray:=p
  have hai:a ≠ it:=λz=>by
   subst z;obtain⟨o,ho,hc',n,hd'⟩:=id hL;obtain⟨o',ho',c',d'⟩:=id hit;rw[ho'] at ho;cases ho;rw[d'] at hd';cases hd'
  have hn:its.toArray.size=i:=by rw[Zk,<-rv.length,hx]
  subst hn;refine UB (HT.xO (A:=X.A.in1) (I.ok.hd hc) it a hai its.toArray) he ⟨hit,hL⟩ λh' eb=>⟨rfl,?_⟩;exact I.turnedAll (t':=s.toks) hf λb ob hb q=>eb b ob (λz=>hb (by simp[z])) q
 self:=λ_ _ _ _ _ st h=>let ⟨⟨old,he⟩,_⟩:=st;Ux he h
def GG(K:W7)(ta:TA):TI:=λσ H R=>ta σ H λvs H1=>∃a xs,vs=[.ref a]/\SqL K H1 a xs/\R (Ite K a SqL) H1
def Ly(K:W7)(ta:TA):TI:=λσ H R=>ta σ H λvs H1=>∃a xs,vs=[.ref a]/\SqT K H1 a xs/\R (Ite K a SqT) H1
section
variable {X:Cx} {elts:List Expr} {x1:Nat} {tp:Pos}
theorem xP{a:Expr}{ta:TA}{p pos:Pos}(hg:Gl X "enumerate")(hm:X.mg "enumerate" = none)(ha:PA X [a] ta)(hs:V6 [a] X.env=[(false,eval a X.env)]:=by rfl):PI X (.Tuple elts x1 tp) (.Call (.Name "enumerate" p) [a] [] pos) (GG X.K ta):=by
 intro pins s σ H R I h;refine Call_ (cV I hg hm Wl (Wr (thn (ha pos pins s σ H _ I h) λus s1 ⟨vs,H1,I1,r1,q1⟩=>?_) hs rfl));obtain⟨l,xs,e,hl,q⟩:=q1;subst e;obtain⟨u,rfl,ru⟩:=b9 r1;cases ru;obtain⟨its,rv,pl,hz⟩:=I1.list hl;refine call_enumerate_list pl.isList λh' he hit hsz hk=>Ux he ?_;have I2:Inv X pins σ H1 { s1 with heap:=h' }:=I1.kept (t':=s1.toks) hk;have fr:∀b,s1.heap.objs.size<=b->fQ X pins H1 b:=λb hb=>I1.fpOk hb (I1.hok.fresh hb);refine⟨_,[s1.heap.objs.size+1,s1.heap.objs.size],_,_,H1,rfl,I2,rf l _ _ (XR _),⟨⟨_,he⟩,hit⟩,λb hb=>?_,q⟩;rcases Zn.mp hb with z |z
 ·rw[z];exact fr _ (Ym _)
 ·rw[Zx.mp z];exact fr _ (Zf _)
theorem GH{a:Expr}{ta:TA}{p pos:Pos}(hg:Gl X "enumerate")(hm:X.mg "enumerate" = none)(ha:PA X [a] ta)(hs:V6 [a] X.env=[(false,eval a X.env)]:=by rfl):PI X (.Tuple elts x1 tp) (.Call (.Name "enumerate" p) [a] [] pos) (Ly X.K ta):=by
 intro pins s σ H R I h;refine Call_ (cV I hg hm Wl (Wr (thn (ha pos pins s σ H _ I h) λus s1 ⟨vs,H1,I1,r1,q1⟩=>?_) hs rfl));obtain⟨l,xs,e,hl,q⟩:=q1;subst e;obtain⟨u,rfl,ru⟩:=b9 r1;cases ru;obtain⟨its,rv,pl,hz⟩:=I1.tuple hl;refine HT.re pl λh' he hit hsz hk=>Ux he ?_;have I2:Inv X pins σ H1 { s1 with heap:=h' }:=I1.kept (t':=s1.toks) hk;have fr:∀b,s1.heap.objs.size<=b->fQ X pins H1 b:=λb hb=>I1.fpOk hb (I1.hok.fresh hb);refine⟨_,[s1.heap.objs.size+1,s1.heap.objs.size],_,_,H1,rfl,I2,rh l _ _ (XR _),⟨⟨_,he⟩,hit⟩,λb hb=>?_,q⟩;rcases Zn.mp hb with z |z
 ·rw[z];exact fr _ (Ym _)
 ·rw[Zx.mp z];exact fr _ (Zf _)
end
section
variable {X:Cx}
theorem pB:aV X (.type "range") (λxs H Q=>∃j:Int,xs=[.int j]/\∀p,H p=none->Q (.ref p) (upd H p (.rng 0 j))):=by
 intro pins s σ H xs us Q I r h;obtain⟨j,rfl,q⟩:=h;obtain⟨u,rfl,ru⟩:=b9 r;obtain⟨t,rfl⟩:=ru;exact call_range_1 ⟨.ref s.heap.objs.size,_,I.laid (t':=s.toks+1+1) (o:=.rng 0 j) (λb o e=>Zc _ e) (Zf _) ⟨_,_,_,Zz _ rfl⟩,rfl,q _ (I.hok.fresh (Zf _))⟩
theorem nv(hc:X.calm=true):aV X (.type "list") (λxs H Q=>∃ (p:Addr) (n:Nat),xs=[.ref p]/\H p=some (.rng 0 n)/\n<=1000/\∀l,H l=none->Q (.ref l) (upd H l (.lst ((Zl n).map λ(i:Nat)=>V.int i)))):=by
 intro pins s σ H xs us Q I r h;obtain⟨p,n,rfl,hp,hn,q⟩:=h;obtain⟨u,rfl,ru⟩:=b9 r;cases ru;obtain⟨t,u,v,e⟩:=(show bg X.prog X.w H s.heap p (.rng 0 n) from I.hok p _ hp);exact jQ hc I e hn q
end
section
variable {X:Cx}
def E8(i j k:Nat)(ta:TA):TS:=λD σ H=>ta σ H λvs H1=>∃v w z,vs=[v,w,z]/\D.nx (((σ.set i (some v)).set j (some w)).set k (some z)) H1
theorem BF{i j k:Nat}{kt k2 pt2}(hc:X.calm=true)(hN:X.N.Nodup)(hi:X.N[i]?=some x)(hj:X.N[j]?=some y)(hk:X.N[k]?=some z)(hij:i ≠ j)(hik:i ≠ k)(hjk:j ≠ k)
  (hx:X.env.scope.names.lookup x=some .local) (hy:X.env.scope.names.lookup y=some .local) (hz:X.env.scope.names.lookup z=some .local) (ha:PA X [a,b,c] ta)
  (hw:V8 [.Tuple [.Name x px,.Name y py,.Name z pz] kt pt] (.Tuple [a,b,c] k2 pt2) X.env=pure (some [x,y,z]))
  (hs:Ua [.Tuple [.Name x px,.Name y py,.Name z pz] kt pt] (.Tuple [a,b,c] k2 pt2) pos.line X.env=pure false:=by rfl) :
  PS X (.Assign [.Tuple [.Name x px,.Name y py,.Name z pz] kt pt] (.Tuple [a,b,c] k2 pt2) pos) (E8 i j k ta):=by
 intro pins s σ H D I h;rw[exec_Assign_arm];refine Uf (UI ?_);rw[hs];refine Uf (Uw ?_);rw[if_neg (by decide)];refine Uf (Tuple_ (thn (ha _ pins s σ H _ I h) λus s1 ⟨vs,H1,I1,r1,q1⟩=>?_));obtain⟨v,w,z',e1,q1⟩:=q1;subst e1
 obtain⟨u1,u2,u3,rfl,rv,rw',rz⟩:∃u1 u2 u3,us=[u1,u2,u3]/\aB v u1/\aB w u2/\aB z' u3:=by
  cases r1 with
  |cons p q=>
   cases q with
   |cons p' q'=>
    cases q' with
    |cons p'' q''=>
     cases q'';exact⟨_,_,_,rfl,p,p',p''⟩
 refine Ut ?_ (by show 3<=sizeLine;decide);have I2:Inv X pins σ H1 { s1 with heap:=s1.heap.push { cls:=.type "tuple", data:=.seq [u1,u2,u3].toArray } }:=I1.kept (t':=s1.toks) λb o e=>Zc _ e;rw[hw];refine Uf (Uw ?_);show wpAny (model X.prog X.w) X.A (do rule "assign.swapped-stores"; let items <-unpackItems (.ref s1.heap.objs.size) 3 none;Vo [λv=>Vs X.env z v,λv=>Vs X.env y v,λv=>Vs X.env x v] items.reverse;pure Flow.next) _ _ _;refine Uf (UE (Uf (unpackItems_tuple (items:=#[u1,u2,u3]) (I.ok.hd hc) (IsTup.new s1.heap _) λh' hx'=>?_)));have I3:=I2.kept (h':=h') (t':=s1.toks) λb o e=>hx' b o (ZF (Zr e)) e;show wpAny _ _ (Vo [λv=>Vs X.env z v,λv=>Vs X.env y v,λv=>Vs X.env x v] [u3,u2,u1] >>= λ_=>pure Flow.next) _ _ _;refine Uf (assignInOrder_cons (Ug (cy I3 hN hk (.inl hz) rz (λs2 I4=>?_) (.inr hz))));refine assignInOrder_cons (Ug (cy I4 hN hj (.inl hy) rw' (λs3 I5=>?_) (.inr hy)));refine assignInOrder_cons (Ug (cy I5 hN hi (.inl hx) rv (λs4 I6=>assignInOrder_nil (Uw ?_)) (.inr hx)));refine⟨_,H1,?_,q1⟩;rw[Y7 _ _ (Ne.symm hjk),Y7 _ _ (Ne.symm hik),Y7 (some w) (some v) (Ne.symm hij)] at I6;exact I6
end
abbrev iq:List Str->Bool
 |[]=>true
 |x::r=>!r.contains x && iq r
theorem gR:∀ {l:List Str},iq l=true->l.Nodup
 |[],_=>Wa
 |x::r,h=>by
  unfold iq at h;rw[bAE] at h;refine Yj.mpr ⟨λm=>?_,gR h.2⟩;have:=h.1;simp[m] at this
abbrev cmB(own:List Str)(hs:List Nat)(N:List Str)(scope sc:Scope):Bool:=
 (scope.kind == .function) && iq (cA hs N++own) && iq (scope.names.map (·.1)) && ((cA hs N).all λx=>scope.names.lookup x != some .local && scope.names.lookup x != some .cell) &&
 (scope.names.all λy=>y.2 != .free || (sc.names.lookup y.1 == some .cell || sc.names.lookup y.1 == some .free)) && hs.all λi=>(scope.names.lookup (xD i)).isNone
theorem xQ(hs:List Nat)(h:cmB own hs N scope sc=true):CmScope own hs N scope sc:=by
 unfold cmB at h;simp only[bAE,Yg] at h;obtain⟨⟨⟨⟨⟨h1,h2⟩,h3⟩,h4⟩,h5⟩,h6⟩:=h;refine⟨by simpa using h1,gR h2,gR h3,λx hx=>?_,λy hy hk=>?_,λi hi=>by simpa using h6 i hi⟩
 ·have:=h4 x hx
  simpa using this
 ·have:=h5 y hy;rw[hk] at this
  simpa using this
section
variable {X:Cx} {tg l a:Expr} {tl:TE} {ta:TA} {es:List Expr} {t:TGs} {p pos:Pos} {n k:Nat} {elts:List Expr} {x1:Nat} {tp:Pos} {o e:Expr} {to:TE} {tt:TA} {name:Str} {apos cpos:Pos}
def E9(K:W7):List V->Hp->VK->Prop:=λxs H Q=>∃x n t b,xs=[x,.ty n]/\TyOf K H x t/\Vg K t (.type n)=some b/\Q (.bl b) H
theorem ny(K:W7)(hK:X.K=K:=by rfl):aV X (.builtin "isinstance") (E9 K):=hK ▸ pd
end
theorem jU:∀ {xs:List V} {us:List Value},aP xs us->xs.all dj=true->us.countP (eqU x)=xs.countP λy=>eqV y x
 |_,_,.nil,_=>rfl
 |y::xs,u::us,.cons r t,f=>by
  rw[Ye,bAE] at f;rw[YO,YO,rc r f.1,jU t f.2]
section
variable {X:Cx}
def BG(K:W7):V->List V->Hp->VK->Prop:=λx vs H Q=>∃p xs y,x = .ref p/\vs=[y]/\SqT K H p xs/\dj y=true/\xs.all dj=true/\Q (.int ((xs.countP λz=>eqV z y:Nat):Int)) H
theorem vA(K:W7)(hK:X.K=K:=by rfl):MtR X "tuple.count" (BG K):=by
 subst hK;intro pins s σ H x vs v us Q I rx rv h;obtain⟨p,xs,y,rfl,rfl,hq,fy,fs,q⟩:=h;cases rx;obtain⟨u,rfl,ru⟩:=rv.one;obtain⟨its,r,⟨⟨cls,dd,data,sl⟩,e,hc,n,hd⟩,hz⟩:=I.tuple hq;simp only at hc hd;subst hc hd;refine Vw WL ⟨_,e,rfl⟩ F.entry_tuple_count (F.args_tuple_count_2 _ _) (SeqAt.tuple_countAt p its.toArray n dd sl u (eqU y)) ⟨e,λw hw=>dk ru fy r fs w (by simpa using hw),?_⟩;refine⟨.int _,H,I.tok _,⟨_,rfl⟩,?_⟩
 have z:(its.toArray.toList.countP (eqU y))=xs.countP λz=>eqV z y:=by
  rw[List.toList_toArray];exact jU r fs
 rw[z];exact q
end
end L2
namespace Dw
open PySem PySem.Spec PyProof.Rows L2
inductive D where
 |non |bl (b:Bool) |int (i:Int) |str (x:Str) |tup (ds:List D) |lst (ds:List D) |dic (ks:List Key) (ds:List D)
mutual
def Br(N:List Addr)(H:Hp):D->V->Prop
 |.non,v=>v = .non
 |.bl b,v=>v = .bl b
 |.int i,v=>v = .int i
 |.str x,v=>v = .str x
 |.tup ds,v=>∃a xs,v = .ref a/\H a=some (.tup xs)/\BrL N H ds xs
 |.lst ds,v=>∃a xs,v = .ref a/\a ∉ N/\H a=some (.lst xs)/\BrL N H ds xs
 |.dic ks ds,v=>∃a xs,v = .ref a/\a ∉ N/\H a=some (.dK (ks.zip xs))/\ks.length=ds.length/\BrL N H ds xs
def BrL(N:List Addr)(H:Hp):List D->List V->Prop
 |[],xs=>xs=[]
 |d::ds,xs=>∃x r,xs=x::r/\Br N H d x/\BrL N H ds r
end
mutual
noncomputable def dep:D->Nat
 |.tup ds=>jd ds+1
 |.lst ds=>jd ds+1
 |.dic _ ds=>jd ds+1
 |_=>0
noncomputable def jd:List D->Nat
 |[]=>0
 |d::ds=>max (dep d) (jd ds)
end
mutual
noncomputable def wid:D->Nat
 |.tup ds=>max ds.length (rj ds)
 |.lst ds=>max ds.length (rj ds)
 |.dic _ ds=>max ds.length (rj ds)
 |_=>0
noncomputable def rj:List D->Nat
 |[]=>0
 |d::ds=>max (wid d) (rj ds)
end
abbrev isB:D->Bool |.bl _=>true |_=>false
abbrev isW(d:D):Bool:=match d with |.int _=>true |_=>false
abbrev gj(d:D)(a b:Int):Bool:=match d with |.int i=>decide (a<=i) && decide (i<=b) |_=>false
abbrev isT(d:D)(a b:Int):Bool:=match d with |.tup ds=>decide (a<=(ds.length:Int)) && decide ((ds.length:Int)<=b) |_=>false
theorem mj{α:Type}(n:Nat)(f:Nat->List α):(Zl (n+1)).flatMap f=(Zl n).flatMap f++f n:=by
 rw[Xm,Yc];simp
theorem tB{α:Type}{n m:Nat}{f:Nat->List α}(h:∀i,i < n->(f i).length<=m):((Zl n).flatMap f).length<=n * m:=by
 induction n with
 |zero=>simp
 |succ n ih=>
  rw[mj,Zh];have:=ih λi hi=>h i (by omega);have:=h n (by omega);rw[YV];omega
abbrev gk(ds:List D)(lo hi:Option Int):List D:=(ds.drop (HT.sIx ds.length 0 lo)).take (HT.sIx ds.length ds.length hi - HT.sIx ds.length 0 lo)
theorem tD{n:Nat}:∀ {ds:List D},(∀d ∈ ds,dep d<=n)->jd ds<=n
 |[],_=>by rw[jd];omega
 |e::ds,h=>by
  rw[jd];have:=h e Zi;have:=tD (ds:=ds) λd hd=>h d (Zg _ hd);omega
theorem tF{n:Nat}:∀ {ds:List D},(∀d ∈ ds,wid d<=n)->rj ds<=n
 |[],_=>by rw[rj];omega
 |e::ds,h=>by
  rw[rj];have:=h e Zi;have:=tF (ds:=ds) λd hd=>h d (Zg _ hd);omega
structure Fit(n m:Nat)(d:D):Prop where
 de:dep d<=n
 wi:wid d<=m
theorem Fit.up{n m n' m':Nat}(h:Fit n m d)(hn:n<=n')(hm:m<=m'):Fit n' m' d:=⟨ZI h.de hn,ZI h.wi hm⟩
theorem Fit.tup{n m:Nat}(hl:ds.length<=m)(h:∀d ∈ ds,Fit n m d):Fit (n+1) m (.tup ds):=by
 refine⟨?_,?_⟩
 ·rw[dep];have:=tD (n:=n) λd hd=>(h d hd).de;omega
 ·rw[wid];have:=tF (n:=m) λd hd=>(h d hd).wi;omega
theorem GI(n:Nat)(a:Int)(h0:0<=a):HT.sIx n 0 (some a)=min a.toNat n:=by
 show(if a < 0 then (a+(n:Int)).toNat else min a.toNat n)=_;rw[if_neg (by omega)]
theorem xR(n:Nat)(a:Int)(h0:0<=a):HT.sIx n n (some a)=min a.toNat n:=by
 show(if a < 0 then (a+(n:Int)).toNat else min a.toNat n)=_;rw[if_neg (by omega)]
abbrev mo(q:Int × Int):D:=.tup [.int q.1,.int q.2]
abbrev mg2(M:List (List Int))(i j:Nat):Int:=(((M[i]?).getD [])[j]?).getD 0
structure Mat(n:Nat)(M:List (List Int)):Prop where
 len:M.length=n
 row:∀r ∈ M,r.length=n
 ent:∀r ∈ M,∀x ∈ r,1<=x/\x<=99
theorem Mat.at{n:Nat}(h:Mat n M){i j:Nat}(hi:i < n)(hj:j < n):∃r,M[i]?=some r/\r.length=n/\r[j]?=some (mg2 M i j)/\1<=mg2 M i j/\mg2 M i j<=99:=by
 have hi':i < M.length:=by rw[h.len];exact hi
 have e1:M[i]?=some M[i]:=gEG hi';have hr:=h.row _ (ZM hi');have hj':j < M[i].length:=by omega
 have e2:mg2 M i j=M[i][j]:=by unfold mg2;rw[e1,ZZ,gEG hj',ZZ]
 have:=h.ent _ (ZM hi') _ (ZM hj');exact⟨M[i],e1,hr,by rw[e2,gEG hj'],by omega,by omega⟩
def pC(n k:Nat)(M:List (List Int)):Prop:=∀a b q,a < n->b < n->q < k->mg2 M a b<=mg2 M a q+mg2 M q b
theorem xS{n k:Nat}(h:Mat n M)(hk:k < n)(ht:pC n k M)(hm:∀i j,i < n->j < n->mg2 M' i j=min (mg2 M i j) (mg2 M i k+mg2 M k j)):pC n (k+1) M':=by
 intro a b q ha hb hq;have hqn:q < n:=by omega
 obtain⟨_,_,_,_,p1,_⟩:=h.at ha hb;obtain⟨_,_,_,_,p2,_⟩:=h.at ha hk;obtain⟨_,_,_,_,p3,_⟩:=h.at hk hb;obtain⟨_,_,_,_,p4,_⟩:=h.at hk hk;obtain⟨_,_,_,_,p5,_⟩:=h.at ha hqn;obtain⟨_,_,_,_,p6,_⟩:=h.at hqn hb;obtain⟨_,_,_,_,p7,_⟩:=h.at hk hqn;obtain⟨_,_,_,_,p8,_⟩:=h.at hqn hk;rw[hm a b ha hb,hm a q ha hqn,hm q b hqn hb];by_cases e:q=k
 ·subst e;omega
 ·have hq':q < k:=by omega
  have t1:=ht a b q ha hb hq';have t2:=ht k b q hk hb hq';have t3:=ht a k q ha hk hq';omega
abbrev je(M:List (List Int)):List D:=M.map λr=>.tup (r.map .int)
abbrev aU(M:List (List Int))(n c i:Nat):List Int:=(Zl n).map λj=>if mg2 M i c+mg2 M c j < mg2 M i j then mg2 M i c+mg2 M c j else mg2 M i j
theorem pD(M:List (List Int))(n c i:Nat):(aU M n c i).length=n:=by unfold aU;rw[Za,ZJ]
theorem pE(M:List (List Int)){n c i j:Nat}(hj:j < n):(aU M n c i)[j]?=some (if mg2 M i c+mg2 M c j < mg2 M i j then mg2 M i c+mg2 M c j else mg2 M i j):=by
 unfold aU;rw[Zo,Yp hj];rfl
theorem BH{n c:Nat}(h:Mat n M)(hc:c < n):∀i j,i < n->j < n->mg2 ((Zl n).map (aU M n c)) i j=min (mg2 M i j) (mg2 M i c+mg2 M c j):=λi j hi hj=>by
 have e:mg2 ((Zl n).map (aU M n c)) i j=if mg2 M i c+mg2 M c j < mg2 M i j then mg2 M i c+mg2 M c j else mg2 M i j:=by
  show((((Zl n).map (aU M n c))[i]?.getD [])[j]?).getD 0=_;rw[Zo,Yp hi];show((aU M n c i)[j]?).getD 0=_;rw[pE M hj];rfl
 rw[e];split <;> omega
theorem xT{n c:Nat}(h:Mat n M)(hc:c < n):Mat n ((Zl n).map (aU M n c)):=by
 refine⟨by rw[Za,ZJ],λr hr=>?_,λr hr x hx=>?_⟩
 ·obtain⟨u,_,rfl⟩:=ZD.mp hr;exact pD M n c u
 ·obtain⟨u,hu,rfl⟩:=ZD.mp hr;rw[Z1] at hu;unfold aU at hx;obtain⟨j,hj,rfl⟩:=ZD.mp hx;rw[Z1] at hj;obtain⟨_,_,_,_,p1,q1⟩:=h.at hu hj;obtain⟨_,_,_,_,p2,q2⟩:=h.at hu hc;obtain⟨_,_,_,_,p3,q3⟩:=h.at hc hj;split <;> omega
theorem ca:∀ (n:Nat) (l:List Int),l.Nodup->(∀x ∈ l,0<=x/\x < (n:Int))->l.length<=n
 |0,l,_,h=>by
  cases l with
  |nil=>exact Zf _
  |cons x l=>have:=h x Zi;lia
 |n+1,l,nd,h=>by
  by_cases hm:(n:Int) ∈ l
  ·have ih:=ca n (l.erase n) (nd.erase _) λx hx=>by
    have h1:=h x (List.mem_of_mem_erase hx);have h2:x ≠ (n:Int):=λe=>(List.Nodup.not_mem_erase nd) (e ▸ hx)
    lia
   rw[List.length_erase_of_mem hm] at ih;have:=List.length_pos_of_mem hm
   lia
  ·have ih:=ca n l nd λx hx=>by
    have h1:=h x hx;have h2:x ≠ (n:Int):=λe=>hm (e ▸ hx)
    lia
   lia
abbrev tG:Key->PyData
 |.inl i=>.int i
 |.inr x=>.str x
mutual
noncomputable def aZ:D->PyData
 |.non=>.none
 |.bl b=>.bool b
 |.int i=>.int i
 |.str x=>.str x
 |.tup ds=>.tuple (bq ds)
 |.lst ds=>.list (bq ds)
 |.dic ks ds=>.dict ((ks.map tG).zip (bq ds))
noncomputable def bq:List D->List PyData
 |[]=>[]
 |d::ds=>aZ d::bq ds
end
mutual
def shw:D->Prop
 |.int i=>i.natAbs.log2 < 1920
 |.tup ds=>jV ds
 |.lst ds=>jV ds
 |.dic _ _=>False
 |_=>True
def jV:List D->Prop
 |[]=>True
 |d::ds=>shw d/\jV ds
end
section
variable {P:Program} {w:World} {N:List Addr} {H:Hp} {h:Heap}
mutual
theorem eT(ok:HOk P w H h):∀ (d:D) {v:V} {u:Value},Br N H d v->aB v u->shw d->∃as,Reads h u (aZ d) as
 |.non,v,u,b,r,hs=>by simp only[Br] at b;subst b;cases r;exact⟨_,by simp only[aZ];exact .none⟩
 |.bl x,v,u,b,r,hs=>by simp only[Br] at b;subst b;cases r;exact⟨_,by simp only[aZ];exact .bool _⟩
 |.int i,v,u,b,r,hs=>by simp only[Br] at b;subst b;obtain⟨t,rfl⟩:=r;exact⟨_,by simp only[aZ];exact .int _ _⟩
 |.str x,v,u,b,r,hs=>by simp only[Br] at b;subst b;obtain⟨t,rfl⟩:=r;exact⟨_,by simp only[aZ];exact .str _ _⟩
 |.tup ds,v,u,b,r,hs=>by
  simp only[Br] at b;obtain⟨a,xs,rfl,ha,hx⟩:=b;cases r;obtain⟨_,its,rv,o,e,c,n,q,_⟩:=ok a _ ha;obtain⟨as,z⟩:=ir ok ds hx rv (by simpa only[shw] using hs);simp only[aZ];exact⟨_,.tuple e c q (by simpa using z)⟩
 |.lst ds,v,u,b,r,hs=>by
  simp only[Br] at b;obtain⟨a,xs,rfl,_,ha,hx⟩:=b;cases r;obtain⟨_,its,n,rv,e⟩:=ok a _ ha;obtain⟨as,z⟩:=ir ok ds hx rv (by simpa only[shw] using hs);simp only[aZ];exact⟨_,.list e rfl rfl (by simpa using z)⟩
 |.dic ks ds,v,u,b,r,hs=>by simp only[shw] at hs
theorem ir(ok:HOk P w H h):∀ (ds:List D) {xs:List V} {us:List Value},BrL N H ds xs->aP xs us->jV ds->∃as,ReadsAll h us (bq ds) as
 |[],xs,us,b,r,_=>by simp only[BrL] at b;subst b;cases r;exact⟨_,by simp only[bq];exact .nil⟩
 |d::ds,xs,us,b,r,hs=>by
  simp only[BrL] at b;obtain⟨x,l,rfl,h1,h2⟩:=b;cases r with
  |cons r1 r2=>
   obtain⟨as,z1⟩:=eT ok d h1 r1 (by simp only[jV] at hs;exact hs.1);obtain⟨bs,z2⟩:=ir ok ds h2 r2 (by simp only[jV] at hs;exact hs.2);simp only[bq];exact⟨_,.cons z1 z2⟩
end
mutual
theorem BI(ok:HOk P w H h):∀ (d:D) {v:V} {u:Value},Br N H d v->aB v u->shw d->(aZ d).shown.length<=sizeLine->∃bs,ReadAtMost h (aZ d).depth bs/\ReprK P w bs h (aZ d).depth u (aZ d).shown
 |.non,v,u,b,r,_,_=>by simp only[Br] at b;subst b;cases r;exact⟨[],(λ_ m=>nomatch m),by simp only[aZ,WX];exact .of_is ReprIs.none _ _ _⟩
 |.bl x,v,u,b,r,_,_=>by simp only[Br] at b;subst b;cases r;exact⟨[],(λ_ m=>nomatch m),by simp only[aZ,WX];exact .of_is (ReprIs.bool _) _ _ _⟩
 |.int i,v,u,b,r,hs,_=>by simp only[Br] at b;subst b;obtain⟨t,rfl⟩:=r;exact⟨[],(λ_ m=>nomatch m),by simp only[aZ,WX];exact .of_is (ReprIs.int t (by simpa only[shw] using hs)) _ _ _⟩
 |.str x,v,u,b,r,_,hz=>by simp only[Br] at b;subst b;obtain⟨t,rfl⟩:=r;exact⟨[],(λ_ m=>nomatch m),by simp only[aZ,WX] at hz ⊢;exact .of_is (ReprIs.str x t hz) _ _ _⟩
 |.tup ds,v,u,b,r,hs,hz=>by
  obtain⟨as,whole⟩:=eT ok (.tup ds) b r hs;simp only[Br] at b;obtain⟨a,xs,rfl,ha,hx⟩:=b;cases r;obtain⟨_,its,rv,o,e,c,n,q,_⟩:=ok a _ ha;simp only[aZ,WX,WU] at hz whole ⊢;obtain⟨bs,m,k⟩:=eU ok ds hx rv (by simpa only[shw] using hs) λt ht=>ZI (tupleText_mem_le ht) hz;have out:a ∉ bs:=VR whole (by simp only[WU];lia) m;have mm:=ReadAtMost.cons whole (by simp only[WU];lia) m;simp only[WU] at mm;exact⟨a::bs,mm,ReprK.tuple e c q out (by simpa using k)⟩
 |.lst ds,v,u,b,r,hs,hz=>by
  obtain⟨as,whole⟩:=eT ok (.lst ds) b r hs;simp only[Br] at b;obtain⟨a,xs,rfl,_,ha,hx⟩:=b;cases r;obtain⟨_,its,n,rv,e⟩:=ok a _ ha;simp only[aZ,WX,WU] at hz whole ⊢;obtain⟨bs,m,k⟩:=eU ok ds hx rv (by simpa only[shw] using hs) λt ht=>ZI (listText_mem_le ht) hz;have out:a ∉ bs:=VR whole (by simp only[WU];lia) m;have mm:=ReadAtMost.cons whole (by simp only[WU];lia) m;simp only[WU] at mm;refine⟨a::bs,mm,?_⟩;cases its with
  |nil=>
   cases k':WY (bq ds) with
   |nil=>simp only[listText_nil];exact ReprK.listEmpty e rfl rfl
   |cons _ _=>rw[k'] at k;cases k
  |cons y l=>exact ReprK.list e rfl rfl out (by simpa using k.length_eq) (λi y' q'=>k.item i y' (by simpa using q'))
 |.dic ks ds,v,u,b,r,hs,hz=>by simp only[shw] at hs
theorem eU(ok:HOk P w H h):∀ (ds:List D) {xs:List V} {us:List Value},BrL N H ds xs->aP xs us->jV ds->(∀t ∈ WY (bq ds),t.length<=sizeLine)->∃bs,ReadAtMost h (WV (bq ds)) bs/\ReprAllK P w bs h (WV (bq ds)) us (WY (bq ds))
 |[],xs,us,b,r,_,_=>by simp only[BrL] at b;subst b;cases r;exact⟨[],(λ_ m=>nomatch m),by simp only[bq,WY];exact .nil⟩
 |d::ds,xs,us,b,r,hs,hz=>by
  simp only[BrL] at b;obtain⟨x,l,rfl,h1,h2⟩:=b;cases r with
  |cons r1 r2=>
   simp only[bq,WY,WV,jV] at hz hs ⊢;obtain⟨b1,m1,k1⟩:=BI ok d h1 r1 hs.1 (hz _ Zi);obtain⟨b2,m2,k2⟩:=eU ok ds h2 r2 hs.2 λt ht=>hz t (Zg _ ht);refine⟨b1++b2,(m1.mono (X3 _ _)).append (m2.mono (XU _ _)),?_⟩;exact .cons ((k1.more λb z=>Yk _ z).level_le (X3 _ _)) (k2.more_le (λb z=>ZG _ z) (XU _ _))
end
end
section
variable {X:Cx}
structure Shn(d:D):Prop where
 sh:shw d
 sz:(aZ d).shown.length<=sizeLine
 dp:(aZ d).depth<=100
def GJ:List V->Hp->VK->Prop:=λxs H Q=>∃x N d,xs=[x]/\Br N H d x/\Shn d/\Q (.str (aZ d).shown) H
theorem rl{k:Nat}(hr:Room k X.A):aV X (.builtin "repr") GJ:=by
 intro pins s σ H xs us Q I r h;obtain⟨x,N,d,rfl,b,⟨hs,hz,hd⟩,q⟩:=h;obtain⟨u,rfl,ru⟩:=b9 r;have hun:=hr.un;have hu1:X.A.units+1 < cLine:=by lia
 have gd1:X.A.in1.guards=some []:=hr.gd;have fin:∀h' t tk,(∀b o,s.heap.get? b=some o->h'.get? b=some o)->∃x' t',Value.str (aZ d).shown t=Value.str x' t'/\EP X pins σ Q (Value.str (aZ d).shown t) { s with heap:=h',toks:=tk }:=λh' t tk hk=>⟨_,_,rfl,.str _,H,I.kept (t':=tk) hk,⟨t,rfl⟩,q⟩;cases d with
 |non=>
  simp only[Br] at b;subst b;cases ru;exact P.repr_of_none ⟨.str _,H,I.tok _,⟨_,rfl⟩,by simpa only[aZ,WX] using q⟩
 |bl y=>
  simp only[Br] at b;subst b;cases ru;exact P.repr_of_bool ⟨.str _,H,I.tok _,⟨_,rfl⟩,by simpa only[aZ,WX] using q⟩
 |int i=>
  simp only[Br] at b;subst b;obtain⟨t,rfl⟩:=ru;exact P.repr_of_int (by simpa only[shw] using hs) ⟨.str _,H,I.tok _,⟨_,rfl⟩,by simpa only[aZ,WX] using q⟩
 |str y=>
  simp only[Br] at b;subst b;obtain⟨t,rfl⟩:=ru;exact P.repr_of_str ⟨.str _,H,I.tok _,⟨_,rfl⟩,by simpa only[aZ,WX] using q⟩ (by simpa only[aZ,WX] using hz)
 |tup ds=>
  obtain⟨as,whole⟩:=eT I.hok (.tup ds) b ru hs;simp only[Br] at b;obtain⟨a,ys,rfl,ha,hx⟩:=b;cases ru;obtain⟨_,its,rv,o,e,c,n,q',_⟩:=I.hok a _ ha;simp only[aZ,WX,WU] at hz whole hd fin;obtain⟨bs,m,k'⟩:=eU I.hok ds hx rv (by simpa only[shw] using hs) λt ht=>ZI (tupleText_mem_le ht) hz;have out:a ∉ bs:=VR whole (by simp only[WU];lia) m;refine call_repr_slot hu1 ⟨o,e,c⟩ F.slot_tuple_repr ?_;exact call_tuple_reprK e c q' out (by simpa using k') gd1 (λb _=>Clear.nil b) (by show X.A.units+1+(_+1) < cLine;lia) (λ_ _ z=>z) (λh' t tk hk=>fin h' t tk hk) hz
 |lst ds=>
  obtain⟨as,whole⟩:=eT I.hok (.lst ds) b ru hs;simp only[Br] at b;obtain⟨a,ys,rfl,_,ha,hx⟩:=b;cases ru;obtain⟨_,its,n,rv,e⟩:=I.hok a _ ha;simp only[aZ,WX,WU] at hz whole hd fin;obtain⟨bs,m,k'⟩:=eU I.hok ds hx rv (by simpa only[shw] using hs) λt ht=>ZI (listText_mem_le ht) hz;have out:a ∉ bs:=VR whole (by simp only[WU];lia) m;refine call_repr_slot hu1 ⟨_,e,rfl⟩ F.slot_list_repr.toG ?_;cases its with
  |nil=>
   cases k2:WY (bq ds) with
   |nil=>
    rw[k2] at fin;simp only[listText_nil] at fin;exact call_list_repr_empty ⟨_,e,rfl⟩ e rfl (fin s.heap _ _ λ_ _ z=>z)
   |cons _ _=>rw[k2] at k';cases k'
  |cons y l=>
   exact call_list_reprK e rfl rfl out (by simpa using k'.length_eq) (λi y' q2=>k'.item i y' (by simpa using q2)) gd1 (λb _=>Clear.nil b) (by show X.A.units+1+(_+1) < cLine;lia) (λ_ _ z=>z) (λh' t tk hk=>fin h' t tk hk) hz
 |dic ks ds=>simp only[shw] at hs
end
mutual
noncomputable def sz:D->Nat
 |.non=>10
 |.bl _=>10
 |.int _=>60
 |.str x=>(reprText x).length
 |.tup ds=>szL ds+4
 |.lst ds=>szL ds+4
 |.dic ks ds=>szL ds+62 * ks.length+4
noncomputable def szL:List D->Nat
 |[]=>0
 |d::ds=>sz d+2+szL ds
end
mutual
def bnd(B:Nat):D->Prop
 |.int i=>i.natAbs < B
 |.tup ds=>gU B ds
 |.lst ds=>gU B ds
 |.dic _ _=>False
 |_=>True
def gU(B:Nat):List D->Prop
 |[]=>True
 |d::ds=>bnd B d/\gU B ds
end
theorem GK{i:Int}(h:i.natAbs < 10 ^ 50):i.natAbs.log2 < 1920:=by
 by_cases z:i.natAbs=0
 ·rw[z];decide
 ·have:i.natAbs.log2 < 167:=(Wj z).mpr (ZB h (by decide))
  lia
mutual
theorem tH:∀ (d:D),bnd (10 ^ 50) d->shw d
 |.non,_=>by simp only[shw]
 |.bl _,_=>by simp only[shw]
 |.str _,_=>by simp only[shw]
 |.int i,h=>by simp only[shw,bnd] at h ⊢;exact GK h
 |.tup ds,h=>by simp only[shw,bnd] at h ⊢;exact jW ds h
 |.lst ds,h=>by simp only[shw,bnd] at h ⊢;exact jW ds h
 |.dic ks ds,h=>by simp only[bnd] at h
theorem jW:∀ (ds:List D),gU (10 ^ 50) ds->jV ds
 |[],_=>by simp only[jV]
 |d::ds,h=>by simp only[jV,gU] at h ⊢;exact⟨tH d h.1,jW ds h.2⟩
end
theorem tI:∀ (ts:List Str) (k:Nat) (acc:Str),(Uc k acc ts).length<=acc.length+piled ts
 |[],k,acc=>by show acc.length<=_;lia
 |t::r,k,acc=>by
  have ih:=tI r (k+1) (acc++(if k > 0 then ", " else "" : String)++t);show(Uc (k+1) (acc++(if k > 0 then ", " else "" : String)++t) r).length<=_;rw[piled_cons]
  have e:(acc++(if k > 0 then ", " else "" : String)++t).length<=acc.length+2+t.length:=by
   rw[V7,V7];have:(Str.ofString (if k > 0 then ", " else "" : String)).length<=2:=by split <;> decide
   lia
  lia
theorem BJ(ts:List Str):(Str.join ", " ts).length<=piled ts:=by
 cases ts with
 |nil=>decide
 |cons t r=>have:=join_length_add (t::r) (by simp);lia
theorem BK(ts:List Str):(listText ts).length<=piled ts+4:=by
 unfold listText;rw[V7];have h1:=tI ts 0 "[";have h2:(Str.ofString "[").length=1:=by decide
 have h3:(Str.ofString "]").length=1:=by decide
 have h1':(Uc 0 (Str.ofString "[") ts).length<=(Str.ofString "[").length+piled ts:=h1;show(Uc 0 (Str.ofString "[") ts).length+(Str.ofString "]").length<=_
 lia
theorem xU(ts:List Str):(tupleText ts).length<=piled ts+4:=by
 unfold tupleText;rw[V7,V7];have h1:=BJ ts;have h2:(Str.ofString "(").length=1:=by decide
 have h3:(Str.ofString (if ts.length == 1 then ",)" else ")" : String)).length<=2:=by split <;> decide
 show(Str.ofString "(").length+_+(Str.ofString (if ts.length == 1 then ",)" else ")" : String)).length<=_
 lia
theorem GL{i:Int}(h:i.natAbs < 10 ^ 50):(Str.ofString (toString i)).length<=51:=by
 rw[ofString_len];exact int_text_length_le10 (by decide) h
mutual
theorem pF:∀ (d:D),bnd (10 ^ 50) d->(aZ d).shown.length<=sz d
 |.non,_=>by simp only[aZ,WX,sz];decide
 |.bl b,_=>by simp only[aZ,WX,sz];cases b <;> decide
 |.int i,h=>by
  simp only[aZ,WX,sz,bnd] at h ⊢;have:=GL h;show(Str.ofString (toString i)).length<=60
  lia
 |.str x,_=>by simp only[aZ,WX,sz];exact Zf _
 |.tup ds,h=>by
  simp only[aZ,WX,sz,bnd] at h ⊢;have:=iu ds h;have:=xU (WY (bq ds))
  lia
 |.lst ds,h=>by
  simp only[aZ,WX,sz,bnd] at h ⊢;have:=iu ds h;have:=BK (WY (bq ds))
  lia
 |.dic ks ds,h=>by simp only[bnd] at h
theorem iu:∀ (ds:List D),gU (10 ^ 50) ds->piled (WY (bq ds))<=szL ds
 |[],_=>by simp[bq,WY,piled,szL]
 |d::ds,h=>by
  simp only[bq,WY,szL,gU,piled_cons] at h ⊢;have h1:=pF d h.1;have h2:=iu ds h.2
  lia
end
theorem pG:∀ (ks:List Key) (ds:List PyData),WW ((ks.map tG).zip ds)<=WV ds
 |[],ds=>by simp[WW]
 |k::ks,[]=>by simp[WW]
 |k::ks,d::ds=>by
  have ih:=pG ks ds;simp only[ZC,Z4,WW,WV];have:(tG k).depth=0:=by cases k <;> simp[tG,WU]
  rw[this]
  lia
mutual
theorem pH:∀ (d:D),(aZ d).depth<=dep d
 |.non=>by simp[aZ,WU]
 |.bl _=>by simp[aZ,WU]
 |.int _=>by simp[aZ,WU]
 |.str _=>by simp[aZ,WU]
 |.tup ds=>by simp only[aZ,WU,dep];have:=fF ds;lia
 |.lst ds=>by simp only[aZ,WU,dep];have:=fF ds;lia
 |.dic ks ds=>by
  simp only[aZ,WU,dep];have:=fF ds;have:=pG ks (bq ds)
  lia
theorem fF:∀ (ds:List D),WV (bq ds)<=jd ds
 |[]=>by simp[bq,WV,jd]
 |d::ds=>by
  simp only[bq,WV,jd];have:=pH d;have:=fF ds
  lia
end
structure Bd(B s:Nat)(d:D):Prop where
 bn:bnd B d
 sz:sz d<=s
mutual
theorem xV{B B':Nat}(h:B<=B'):∀ (d:D),bnd B d->bnd B' d
 |.non,_=>by simp only[bnd]
 |.bl _,_=>by simp only[bnd]
 |.str _,_=>by simp only[bnd]
 |.int i,z=>by simp only[bnd] at z ⊢;lia
 |.tup ds,z=>by simp only[bnd] at z ⊢;exact nz h ds z
 |.lst ds,z=>by simp only[bnd] at z ⊢;exact nz h ds z
 |.dic ks ds,z=>by simp only[bnd] at z
theorem nz{B B':Nat}(h:B<=B'):∀ (ds:List D),gU B ds->gU B' ds
 |[],_=>by simp only[gU]
 |d::ds,z=>by simp only[gU] at z ⊢;exact⟨xV h d z.1,nz h ds z.2⟩
end
theorem Bd.shn{B s:Nat}(h:Bd B s d)(hB:B<=10 ^ 50)(hs:s<=sizeLine)(hd:dep d<=100):Shn d:=
 have b:=xV hB d h.bn
 ⟨tH d b,ZI (pF d b) (ZI h.sz hs),ZI (pH d) hd⟩
theorem tJ{B:Nat}:∀ {ds:List D},(∀d ∈ ds,bnd B d)->gU B ds
 |[],_=>by simp only[gU]
 |d::ds,h=>by simp only[gU];exact⟨h d Zi,tJ λe m=>h e (Zg _ m)⟩
theorem GM{B s:Nat}(h:∀d ∈ ds,bnd B d)(hs:szL ds+4<=s):Bd B s (.tup ds):=⟨by simp only[bnd];exact tJ h,by simp only[sz];exact hs⟩
end Dw
namespace Ev
open PySem PySem.Spec PyProof.Rows L2
inductive D where
 |non |bl (b:Bool) |int (i:Int) |str (x:Str) |tup (ds:List D) |ref (n:Nat)
inductive Ob where
 |lst (ds:List D) |frz (ds:List D) |dic (ks:List (List NK)) (ds:List D)
@[inline]abbrev Sto:=List Ob
@[inline]abbrev Rho:=List (Option D)
mutual
def VD(K:W7)(m:List Addr)(H:Hp):D->V->Prop
 |.non,v=>v = .non
 |.bl b,v=>v = .bl b
 |.int i,v=>v = .int i
 |.str x,v=>v = .str x
 |.tup ds,v=>∃a xs,v = .ref a/\H a=some (.tup xs)/\VDs K m H ds xs
 |.ref n,v=>∃a,m[n]?=some a/\v = .ref a
def VDs(K:W7)(m:List Addr)(H:Hp):List D->List V->Prop
 |[],xs=>xs=[]
 |d::ds,xs=>∃x r,xs=x::r/\VD K m H d x/\VDs K m H ds r
end
structure Ext(m:List Addr)(H:Hp)(m':List Addr)(H':Hp):Prop where
 pre:m <+: m'
 keep:∀a o,H a=some o->a ∉ m->H' a=some o
 new:∀a,a ∈ m'->a ∉ m->H a=none
def ObR(K:W7)(m:List Addr)(H:Hp)(a:Addr):Ob->Prop
 |.lst ds=>∃vs,H a=some (.lst vs)/\VDs K m H ds vs
 |.frz ds=>∃o vs,H a=some (.frz o (.lst vs))/\VDs K m H ds vs
 |.dic ks ds=>∃vs,H a=some (.dT (ks.zip vs))/\ks.length=ds.length/\VDs K m H ds vs
structure Rel(K:W7)(m:List Addr)(S:Sto)(H:Hp):Prop where
 len:m.length=S.length
 nd:m.Nodup
 ob:∀ (i:Nat) (o:Ob),S[i]?=some o->∃a,m[i]?=some a/\ObR K m H a o
structure EnvR(K:W7)(m:List Addr)(H:Hp)(ρ:Rho)(σ:L2.St):Prop where
 len:ρ.length=σ.length
 at_:∀ (i:Nat) (d:D),ρ[i]?=some (some d)->∃v,σ[i]?=some (some v)/\VD K m H d v
theorem Ext.refl(m:List Addr)(H:Hp):Ext m H m H:=⟨Z9 m,λ_ _ h _=>h,λ_ h n=>absurd h n⟩
theorem Ext.trans(x:Ext m H m1 H1)(y:Ext m1 H1 m2 H2):Ext m H m2 H2:=by
 refine⟨x.pre.trans y.pre,λa o h n=>?_,λa h n=>?_⟩
 ·have n1:a ∉ m1:=λz=>by have:=x.new a z n;rw[this] at h;cases h
  exact y.keep a o (x.keep a o h n) n1
 ·by_cases h1:a ∈ m1
  ·exact x.new a h1 n
  ·cases e:H a with
   |none=>rfl
   |some o=>
    have:=x.keep a o e n;rw[y.new a h h1] at this;cases this
section
variable {K:W7} {m m':List Addr} {S S':Sto} {H H':Hp} {a:Addr}
theorem Rel.ex(R:Rel K m S H)(ha:a ∈ m):∃o ob,H a=some o/\ObR K m H a ob:=by
 obtain⟨i,hi,e⟩:=List.getElem_of_mem ha;have hi':i < S.length:=by rw[<-R.len];exact hi
 obtain⟨b,hb,r⟩:=R.ob i S[i] (gEG hi');have:b=a:=by rw[gEG hi] at hb;rw[<-e];exact(Option.some.inj hb).symm
 subst this;cases hS:S[i] with
 |lst ds=>rw[hS] at r;obtain⟨vs,h,q⟩:=r;exact⟨_,.lst ds,h,vs,h,q⟩
 |frz ds=>rw[hS] at r;obtain⟨o,vs,h,q⟩:=r;exact⟨_,.frz ds,h,o,vs,h,q⟩
 |dic ks ds=>rw[hS] at r;obtain⟨vs,h,q⟩:=r;exact⟨_,.dic ks ds,h,vs,h,q⟩
theorem Rel.no(R:Rel K m S H)(h:H a=none):a ∉ m:=λz=>by
 obtain⟨o,_,e,_⟩:=R.ex z;rw[h] at e;cases e
theorem Rel.notTup(R:Rel K m S H)(h:H a=some (.tup xs)):a ∉ m:=λz=>by
 obtain⟨o,ob,e,r⟩:=R.ex z;cases ob with
 |lst ds=>obtain⟨vs,q,_⟩:=r;rw[q] at h;cases h
 |frz ds=>obtain⟨o,vs,q,_⟩:=r;rw[q] at h;cases h
 |dic ks ds=>obtain⟨vs,q,_⟩:=r;rw[q] at h;cases h
theorem Tup.ext(R:Rel K m S H)(x:Ext m H m' H')(h:H a=some (.tup xs)):H' a=some (.tup xs):=x.keep _ _ h (R.notTup h)
theorem jm{i:Nat}(h:m <+: m')(e:m[i]?=some a):m'[i]?=some a:=by
 obtain⟨t,rfl⟩:=h;have hi:i < m.length:=(Zb.mp e).1;rw[Zu hi];exact e
mutual
theorem VD.mono0(pre:m <+: m')(tk:∀a xs,H a=some (.tup xs)->H' a=some (.tup xs)):∀ {d:D} {v:V},VD K m H d v->VD K m' H' d v
 |.non,v,h=>by rw[VD] at h ⊢;exact h
 |.bl _,v,h=>by rw[VD] at h ⊢;exact h
 |.int _,v,h=>by rw[VD] at h ⊢;exact h
 |.str _,v,h=>by rw[VD] at h ⊢;exact h
 |.tup ds,v,h=>by
  rw[VD] at h ⊢;obtain⟨a,xs,e,q,r⟩:=h;exact⟨a,xs,e,tk a xs q,VDs.mono0 pre tk r⟩
 |.ref n,v,h=>by
  rw[VD] at h ⊢;obtain⟨a,q,e⟩:=h;exact⟨a,jm pre q,e⟩
theorem VDs.mono0(pre:m <+: m')(tk:∀a xs,H a=some (.tup xs)->H' a=some (.tup xs)):∀ {ds:List D} {vs:List V},VDs K m H ds vs->VDs K m' H' ds vs
 |[],vs,h=>by rw[VDs] at h ⊢;exact h
 |d::ds,vs,h=>by
  rw[VDs] at h ⊢;obtain⟨y,r,e,p,q⟩:=h;exact⟨y,r,e,VD.mono0 pre tk p,VDs.mono0 pre tk q⟩
end
theorem VD.mono(R:Rel K m S H)(x:Ext m H m' H')(h:VD K m H d v):VD K m' H' d v:=VD.mono0 x.pre (λ_ _=>Tup.ext R x) h
theorem VDs.mono(R:Rel K m S H)(x:Ext m H m' H')(h:VDs K m H ds vs):VDs K m' H' ds vs:=VDs.mono0 x.pre (λ_ _=>Tup.ext R x) h
theorem EnvR.mono(R:Rel K m S H)(x:Ext m H m' H')(h:EnvR K m H ρ σ):EnvR K m' H' ρ σ:=
 ⟨h.len,λi d e=>let ⟨v,p,q⟩:=h.at_ i d e;⟨v,p,VD.mono R x q⟩⟩
theorem VDs.length:∀ {ds:List D} {vs:List V},VDs K m H ds vs->ds.length=vs.length
 |[],vs,h=>by rw[VDs] at h;rw[h];rfl
 |d::ds,vs,h=>by
  rw[VDs] at h;obtain⟨y,r,e,_,q⟩:=h;rw[e,Zv,Zv,VDs.length q]
theorem VDs.nil:VDs K m H [] []:=by rw[VDs]
theorem VDs.cons(h:VD K m H d v)(t:VDs K m H ds vs):VDs K m H (d::ds) (v::vs):=by rw[VDs];exact⟨v,vs,rfl,h,t⟩
theorem VDs.get:∀ {ds:List D} {vs:List V} {i:Nat} {d:D},VDs K m H ds vs->ds[i]?=some d->∃v,vs[i]?=some v/\VD K m H d v
 |[],_,_,_,_,e=>by simp at e
 |d::ds,vs,0,d',h,e=>by
  rw[VDs] at h;obtain⟨y,r,rfl,p,q⟩:=h;simp at e;subst e;exact⟨y,rfl,p⟩
 |d::ds,vs,i+1,d',h,e=>by
  rw[VDs] at h;obtain⟨y,r,rfl,p,q⟩:=h;obtain⟨v,p1,p2⟩:=VDs.get (i:=i) q (by simpa using e);exact⟨v,by simpa using p1,p2⟩
theorem VDs.append:∀ {ds es:List D} {vs ws:List V},VDs K m H ds vs->VDs K m H es ws->VDs K m H (ds++es) (vs++ws)
 |[],_,vs,_,h,t=>by rw[VDs] at h;subst h;exact t
 |d::ds,es,vs,ws,h,t=>by
  rw[VDs] at h;obtain⟨y,r,rfl,p,q⟩:=h;exact .cons p (VDs.append q t)
theorem VDs.drop:∀ {ds:List D} {vs:List V} (n:Nat),VDs K m H ds vs->VDs K m H (ds.drop n) (vs.drop n)
 |ds,vs,0,h=>h
 |[],vs,n+1,h=>by rw[VDs] at h;subst h;exact .nil
 |d::ds,vs,n+1,h=>by
  rw[VDs] at h;obtain⟨y,r,rfl,p,q⟩:=h;exact VDs.drop n q
theorem VDs.take:∀ {ds:List D} {vs:List V} (n:Nat),VDs K m H ds vs->VDs K m H (ds.take n) (vs.take n)
 |ds,vs,0,h=>by simp only[List.take_zero];exact .nil
 |[],vs,n+1,h=>by rw[VDs] at h;subst h;exact .nil
 |d::ds,vs,n+1,h=>by
  rw[VDs] at h;obtain⟨y,r,rfl,p,q⟩:=h;exact .cons p (VDs.take n q)
theorem VDs.set:∀ {ds:List D} {vs:List V} {i:Nat} {d:D} {v:V},VDs K m H ds vs->VD K m H d v->VDs K m H (ds.set i d) (vs.set i v)
 |[],vs,_,_,_,h,_=>by rw[VDs] at h;subst h;exact .nil
 |_::ds,vs,0,d,v,h,p=>by
  rw[VDs] at h;obtain⟨y,r,rfl,_,q⟩:=h;exact .cons p q
 |_::ds,vs,i+1,d,v,h,p=>by
  rw[VDs] at h;obtain⟨y,r,rfl,p',q⟩:=h;exact .cons p' (VDs.set q p)
theorem Ext.beside(R:Rel K m S H)(h:H a=none)(o:HO):Ext m H m (upd H a o):=
 ⟨Z9 m,λb u e _=>by rw[av (aQ e h)];exact e,λb z n=>absurd z n⟩
theorem Rel.ext_keep(R:Rel K m S H)(x:Ext m H m H')(k:∀b ∈ m,H' b=H b):Rel K m S H':=by
 refine⟨R.len,R.nd,λi o e=>?_⟩;obtain⟨b,hb,r⟩:=R.ob i o e;have hm:b ∈ m:=Ze hb;refine⟨b,hb,?_⟩;cases o with
 |lst ds=>obtain⟨vs,p,q⟩:=r;exact⟨vs,(k b hm).trans p,VDs.mono R x q⟩
 |frz ds=>obtain⟨o,vs,p,q⟩:=r;exact⟨o,vs,(k b hm).trans p,VDs.mono R x q⟩
 |dic ks ds=>obtain⟨vs,p,l,q⟩:=r;exact⟨vs,(k b hm).trans p,l,VDs.mono R x q⟩
theorem Rel.beside(R:Rel K m S H)(h:H a=none)(o:HO):Rel K m S (upd H a o):=
 R.ext_keep (Ext.beside R h o) λb hb=>av λz=>R.no h (z ▸ hb)
theorem Rel.adopt(R:Rel K m S H)(n:a ∉ m)(h:H a=some (.lst vs))(q:VDs K m H ds vs):Rel K (m++[a]) (S++[.lst ds]) H:=by
 have p:=Yv m [a];have g:∀ {es:List D} {ws:List V},VDs K m H es ws->VDs K (m++[a]) H es ws:=λz=>VDs.mono0 p (λ_ _ t=>t) z;refine⟨by simp[R.len],Y4.mpr ⟨R.nd,by simp,λx hx y hy=>by simp at hy;subst hy;exactλz=>n (z ▸ hx)⟩,λi o e=>?_⟩;by_cases hi:i < S.length
 ·rw[Zu hi] at e;obtain⟨b,hb,r⟩:=R.ob i o e;refine⟨b,jm p hb,?_⟩;cases o with
  |lst ds=>obtain⟨vs,p,q⟩:=r;exact⟨vs,p,g q⟩
  |frz ds=>obtain⟨o,vs,p,q⟩:=r;exact⟨o,vs,p,g q⟩
  |dic ks ds=>obtain⟨vs,p,l,q⟩:=r;exact⟨vs,p,l,g q⟩
 ·rw[Zp (by lia)] at e
  have hz:i - S.length=0:=by
   have:=(Zb.mp e).1;simp at this;lia
  rw[hz] at e;have e':Ob.lst ds=o:=by simpa using e
  subst e';refine⟨a,?_,vs,h,g q⟩;rw[Zp (by rw[R.len];lia),R.len,hz];rfl
theorem Ext.adopt(x:Ext m H m H')(h:H a=none):Ext m H (m++[a]) H':=
 ⟨Yv m [a],x.keep,λb hb nb=>by
  rcases ZQ.mp hb with z |z
  ·exact absurd z nb
  ·simp at z;subst z;exact h⟩
theorem Rel.write(R:Rel K m S H){i:Nat}(hi:m[i]?=some a)(q:VDs K m H ds vs):Ext m H m (upd H a (.lst vs))/\Rel K m (S.set i (.lst ds)) (upd H a (.lst vs)):=by
 have hm:a ∈ m:=Ze hi;have x:Ext m H m (upd H a (.lst vs)):=⟨Z9 m,λb u e n=>by rw[av (show b ≠ a fromλz=>n (by rw[z];exact hm))];exact e,λb z n=>absurd z n⟩;refine⟨x,by simp[R.len],R.nd,λj o e=>?_⟩;rw[Yn] at e;by_cases hj:i=j
 ·subst hj;rw[if_pos rfl] at e;split at e
  ·have e':=Option.some.inj e;subst e';exact⟨a,hi,vs,a8,VDs.mono R x q⟩
  ·cases e
 ·rw[if_neg hj] at e;obtain⟨b,hb,r⟩:=R.ob j o e
  have ne:b ≠ a:=λz=>by
   subst z;have h1:=Zb.mp hi;have h2:=Zb.mp hb;exact hj ((YN R.nd).mp (h1.2.trans h2.2.symm))
  refine⟨b,hb,?_⟩;cases o with
  |lst es=>obtain⟨ws,p,q⟩:=r;exact⟨ws,by rw[av ne];exact p,VDs.mono R x q⟩
  |frz es=>obtain⟨o,ws,p,q⟩:=r;exact⟨o,ws,by rw[av ne];exact p,VDs.mono R x q⟩
  |dic ks es=>obtain⟨ws,p,l,q⟩:=r;exact⟨ws,by rw[av ne];exact p,l,VDs.mono R x q⟩
theorem Rel.lst(R:Rel K m S H){i:Nat}(e:S[i]?=some (.lst ds)):∃a vs,m[i]?=some a/\H a=some (.lst vs)/\VDs K m H ds vs:=by
 obtain⟨a,ha,vs,p,q⟩:=R.ob i _ e;exact⟨a,vs,ha,p,q⟩
end
abbrev ak(S:Sto)(n:Nat):Option (List D):=match S[n]? with
 |some (.lst ds)=>some ds
 |some (.frz ds)=>some ds
 |_=>none
theorem Rel.seq{K:W7}{m:List Addr}{S:Sto}{H:Hp}(R:Rel K m S H){i:Nat}{ds:List D}(e:ak S i=some ds):∃a vs,m[i]?=some a/\SqL K H a vs/\VDs K m H ds vs:=by
 unfold ak at e;cases h:S[i]? with
 |none=>rw[h] at e;cases e
 |some o=>
  rw[h] at e;cases o with
  |lst es=>cases e;obtain⟨a,ha,vs,p,q⟩:=R.ob i _ h;exact⟨a,vs,ha,.inl (.inl p),q⟩
  |frz es=>cases e;obtain⟨a,ha,o,vs,p,q⟩:=R.ob i _ h;exact⟨a,vs,ha,.inl (.inr ⟨o,p⟩),q⟩
  |dic ks es=>cases e
@[inline]abbrev XE:=Rho->Sto->Option (D × Sto)
@[inline]abbrev XT:=Rho->Sto->Option (Bool × Sto)
@[inline]abbrev XA:=Rho->Sto->Option (List D × Sto)
def bnd{α β:Type}(x:Option (α × Sto))(f:α->Sto->Option (β × Sto)):Option (β × Sto):=match x with
 |none=>none
 |some (a,S)=>f a S
theorem ab{α β:Type}{x:Option (α × Sto)}{f:α->Sto->Option (β × Sto)}{r:β × Sto}(h:bnd x f=some r):∃a S,x=some (a,S)/\f a S=some r:=by
 unfold bnd at h;cases x with
 |none=>cases h
 |some p=>exact⟨p.1,p.2,rfl,h⟩
structure Aft(K:W7)(m:List Addr)(H:Hp)(S':Sto)(m':List Addr)(H':Hp):Prop where
 ext:Ext m H m' H'
 rel:Rel K m' S' H'
def tE(K:W7)(x:XE):TE:=λσ H Q=>∃m ρ S d S',EnvR K m H ρ σ/\Rel K m S H/\x ρ S=some (d,S')/\∀m' H' v,Aft K m H S' m' H'->VD K m' H' d v->Q v H'
def tT(K:W7)(x:XT):TT:=λσ H Q=>∃m ρ S b S',EnvR K m H ρ σ/\Rel K m S H/\x ρ S=some (b,S')/\∀m' H',Aft K m H S' m' H'->Q b H'
def tAr(K:W7)(x:XA):TA:=λσ H Q=>∃m ρ S ds S',EnvR K m H ρ σ/\Rel K m S H/\x ρ S=some (ds,S')/\∀m' H' vs,Aft K m H S' m' H'->VDs K m' H' ds vs->Q vs H'
def SqB(K:W7)(tu:Bool)(H:Hp)(a:Addr)(vs:List V):Prop:=if tu=true then H a=some (.tup vs) else SqL K H a vs
def gm(K:W7)(x:XA):TE:=λσ H Q=>∃m ρ S ds S',EnvR K m H ρ σ/\Rel K m S H/\x ρ S=some (ds,S')/\∀m' H' a vs,Aft K m H S' m' H'->H' a=some (.lst vs)->a ∉ m'->(∀b,b ∈ m->b ≠ a)->H a=none->VDs K m' H' ds vs->Q (.ref a) H'
section
variable {X:Cx} {e:Expr} {K:W7} {m m1 m2:List Addr} {H H1 H2:Hp} {S S1 S2:Sto}
theorem PE.imp(h:PE X e t)(f:∀σ H Q,t' σ H Q->t σ H Q):PE X e t':=λpins s σ H Q I q=>h pins s σ H Q I (f σ H Q q)
theorem PT.imp(h:PT X e t)(f:∀σ H Q,t' σ H Q->t σ H Q):PT X e t':=λpins s σ H Q I q=>h pins s σ H Q I (f σ H Q q)
theorem PA.imp(h:PA X es t)(f:∀σ H Q,t' σ H Q->t σ H Q):PA X es t':=λp pins s σ H Q I q=>h p pins s σ H Q I (f σ H Q q)
theorem PS.imp{st:Stmt}{t t':TS}(h:PS X st t)(f:∀D σ H,t' D σ H->t D σ H):PS X st t':=λpins s σ H D I q=>h pins s σ H D I (f D σ H q)
theorem PSs.imp{st:List Stmt}{t t':TS}(h:PSs X st t)(f:∀D σ H,t' D σ H->t D σ H):PSs X st t':=λpins s σ H D I q=>h pins s σ H D I (f D σ H q)
theorem PI.imp(h:PI X tg it t)(f:∀σ H Q,t' σ H Q->t σ H Q):PI X tg it t':=λpins s σ H Q I q=>h pins s σ H Q I (f σ H Q q)
theorem PI.or(h:PI X tg it t)(h':PI X tg it t'):PI X tg it (λσ H Q=>t σ H Q\/t' σ H Q):=λpins s σ H Q I q=>q.elim (h pins s σ H Q I) (h' pins s σ H Q I)
theorem OpR.imp(h:OpR X f r)(g:∀x y H Q,r' x y H Q->r x y H Q):OpR X f r':=λpins s σ H x y v u Q I rx ry q=>h pins s σ H x y v u Q I rx ry (g _ _ _ _ q)
theorem OpR.or(h:OpR X f r)(h':OpR X f r'):OpR X f (λx y H Q=>r x y H Q\/r' x y H Q):=λpins s σ H x y v u Q I rx ry q=>
 q.elim (h pins s σ H x y v u Q I rx ry) (h' pins s σ H x y v u Q I rx ry)
theorem aV.imp(h:aV X f r)(g:∀x H Q,r' x H Q->r x H Q):aV X f r':=λpins s σ H xs us Q I rx q=>h pins s σ H xs us Q I rx (g _ _ _ q)
theorem aV.or(h:aV X f r)(h':aV X f r'):aV X f (λx H Q=>r x H Q\/r' x H Q):=λpins s σ H xs us Q I rx q=>
 q.elim (h pins s σ H xs us Q I rx) (h' pins s σ H xs us Q I rx)
theorem Aft.refl(R:Rel K m S H):Aft K m H S m H:=⟨Ext.refl m H,R⟩
theorem Aft.trans(x:Aft K m H S1 m1 H1)(y:Aft K m1 H1 S2 m2 H2):Aft K m H S2 m2 H2:=⟨x.ext.trans y.ext,y.rel⟩
def rS(K:W7)(f:D->D->Sto->Option (D × Sto)):R2:=λv w H Q=>∃m S a b d S',Rel K m S H/\VD K m H a v/\VD K m H b w/\f a b S=some (d,S')/\∀m' H' u,Aft K m H S' m' H'->VD K m' H' d u->Q u H'
def rS1(K:W7)(f:D->Sto->Option (D × Sto)):V->Hp->VK->Prop:=λv H Q=>∃m S a d S',Rel K m S H/\VD K m H a v/\f a S=some (d,S')/\∀m' H' u,Aft K m H S' m' H'->VD K m' H' d u->Q u H'
def rSA(K:W7)(f:List D->Sto->Option (D × Sto)):List V->Hp->VK->Prop:=λvs H Q=>∃m S as d S',Rel K m S H/\VDs K m H as vs/\f as S=some (d,S')/\∀m' H' u,Aft K m H S' m' H'->VD K m' H' d u->Q u H'
def rSq(K:W7)(f:Bool->List D->Sto->Option (D × Sto)):V->Hp->VK->Prop:=λv H Q=>∃m S tu ds a vs d S',Rel K m S H/\v = .ref a/\SqB K tu H a vs/\VDs K m H ds vs/\f tu ds S=some (d,S')/\∀m' H' u,Aft K m H S' m' H'->VD K m' H' d u->Q u H'
abbrev pJ(f:D->D->Sto->Option (D × Sto))(x y:XE):XE:=λρ S=>bnd (x ρ S) λa S1=>bnd (y ρ S1) λb S2=>f a b S2
abbrev xUn(f:D->Sto->Option (D × Sto))(x:XE):XE:=λρ S=>bnd (x ρ S) λa S1=>f a S1
abbrev jf(f:List D->Sto->Option (D × Sto))(x:XA):XE:=λρ S=>bnd (x ρ S) λa S1=>f a S1
abbrev lB(f:Bool->List D->Sto->Option (D × Sto))(x:XA):XE:=λρ S=>bnd (x ρ S) λds S1=>f false ds S1
abbrev ay(d:D)(S:Sto):Option (Bool × List D):=match d with
 |.tup ds=>some (true,ds)
 |.ref n=>(ak S n).map λds=>(false,ds)
 |_=>none
abbrev ai(f:Bool->List D->Sto->Option (D × Sto))(d:D)(S:Sto):Option (D × Sto):=match ay d S with
 |some r=>f r.1 r.2 S
 |none=>none
abbrev lH(f:Bool->List D->Sto->Option (D × Sto))(x:XE):XE:=λρ S=>bnd (x ρ S) λd S1=>ai f d S1
theorem nA{f:D->D->Sto->Option (D × Sto)}{x y:XE}{σ:L2.St}{H:Hp}{Q:VK}(h:tE K (pJ f x y) σ H Q):tOp (rS K f) (tE K x) (tE K y) σ H Q:=by
 obtain⟨m,ρ,S,d,S',E,R,e,q⟩:=h;obtain⟨a,S1,e1,e⟩:=ab e;obtain⟨b,S2,e2,e⟩:=ab e;refine⟨m,ρ,S,a,S1,E,R,e1,λm1 H1 v A1 va=>⟨m1,ρ,S1,b,S2,E.mono R A1.ext,A1.rel,e2,λm2 H2 w A2 vb=>?_⟩⟩;exact⟨m2,S2,a,b,d,S',A2.rel,va.mono A1.rel A2.ext,vb,e,λm3 H3 u A3 vd=>q m3 H3 u ((A1.trans A2).trans A3) vd⟩
theorem xW{f:D->Sto->Option (D × Sto)}{x:XE}{σ:L2.St}{H:Hp}{Q:VK}(h:tE K (xUn f x) σ H Q):tUn (rS1 K f) (tE K x) σ H Q:=by
 obtain⟨m,ρ,S,d,S',E,R,e,q⟩:=h;obtain⟨a,S1,e1,e⟩:=ab e;exact⟨m,ρ,S,a,S1,E,R,e1,λm1 H1 v A1 va=>⟨m1,S1,a,d,S',A1.rel,va,e,λm3 H3 u A3 vd=>q m3 H3 u (A1.trans A3) vd⟩⟩
theorem xX{f:List D->Sto->Option (D × Sto)}{x:XA}{σ:L2.St}{H:Hp}{Q:VK}(h:tE K (jf f x) σ H Q):tCB (rSA K f) (tAr K x) σ H Q:=by
 obtain⟨m,ρ,S,d,S',E,R,e,q⟩:=h;obtain⟨a,S1,e1,e⟩:=ab e;exact⟨m,ρ,S,a,S1,E,R,e1,λm1 H1 v A1 va=>⟨m1,S1,a,d,S',A1.rel,va,e,λm3 H3 u A3 vd=>q m3 H3 u (A1.trans A3) vd⟩⟩
theorem GN{f:Bool->List D->Sto->Option (D × Sto)}{x:XA}{σ:L2.St}{H:Hp}{Q:VK}(h:tE K (lB f x) σ H Q):tUn (rSq K f) (gm K x) σ H Q:=by
 obtain⟨m,ρ,S,d,S',E,R,e,q⟩:=h;obtain⟨ds,S1,e1,e⟩:=ab e;exact⟨m,ρ,S,ds,S1,E,R,e1,λm1 H1 a vs A1 sq _ _ _ vd=>⟨m1,S1,false,ds,a,vs,d,S',A1.rel,rfl,show SqL K H1 a vs from SqL.of sq,vd,e,λm3 H3 u A3 vd=>q m3 H3 u (A1.trans A3) vd⟩⟩
abbrev vB(i:Nat):XE:=λρ S=>match ρ[i]? with
 |some (some d)=>some (d,S)
 |_=>none
abbrev xC(d:D):XE:=λ_ S=>some (d,S)
theorem GO{i:Nat}(h:tE K (vB i) σ H Q):KP i σ H Q:=by
 obtain⟨m,ρ,S,d,S',E,R,e,q⟩:=h;unfold vB at e;cases hr:ρ[i]? with
 |none=>rw[hr] at e;cases e
 |some o=>
  rw[hr] at e;cases o with
  |none=>cases e
  |some d'=>
   cases e;obtain⟨v,e1,vd⟩:=E.at_ i d hr;exact⟨v,e1,q m H v (Aft.refl R) vd⟩
theorem xY(hv:∀m H,VD K m H d v)(h:tE K (xC d) σ H Q):tC v σ H Q:=by
 obtain⟨m,ρ,S,d',S',E,R,e,q⟩:=h;cases e;exact q m H v (Aft.refl R) (hv m H)
theorem jX:VD K m H .non .non:=by rw[VD]
theorem bC:VD K m H (.bl b) (.bl b):=by rw[VD]
theorem bc{i:Int}:VD K m H (.int i) (.int i):=by rw[VD]
theorem nB:VD K m H (.str x) (.str x):=by rw[VD]
theorem nD(h:H a=some (.tup vs))(q:VDs K m H ds vs):VD K m H (.tup ds) (.ref a):=by rw[VD];exact⟨a,vs,rfl,h,q⟩
theorem VD.ints{i:Int}(h:VD K m H (.int i) v):v = .int i:=by rw[VD] at h;exact h
theorem VD.bls(h:VD K m H (.bl i) v):v = .bl i:=by rw[VD] at h;exact h
theorem VD.strs(h:VD K m H (.str i) v):v = .str i:=by rw[VD] at h;exact h
theorem VD.nons(h:VD K m H .non v):v = .non:=by rw[VD] at h;exact h
theorem VD.tups(h:VD K m H (.tup ds) v):∃a vs,v = .ref a/\H a=some (.tup vs)/\VDs K m H ds vs:=by rw[VD] at h;exact h
theorem VD.refs{n:Nat}(h:VD K m H (.ref n) v):∃a,m[n]?=some a/\v = .ref a:=by rw[VD] at h;exact h
abbrev BL:XA:=λ_ S=>some ([],S)
abbrev tK(x:XE)(y:XA):XA:=λρ S=>bnd (x ρ S) λa S1=>bnd (y ρ S1) λas S2=>some (a::as,S2)
theorem GP(h:tAr K BL σ H Q):ij σ H Q:=by
 obtain⟨m,ρ,S,d',S',E,R,e,q⟩:=h;cases e;exact q m H [] (Aft.refl R) .nil
theorem BM{x:XE}{y:XA}{σ:L2.St}{H:Hp}{Q:List V->Hp->Prop}(h:tAr K (tK x y) σ H Q):bR (tE K x) (tAr K y) σ H Q:=by
 obtain⟨m,ρ,S,d',S',E,R,e,q⟩:=h;obtain⟨a,S1,e1,e⟩:=ab e;obtain⟨b,S2,e2,e⟩:=ab e;cases e;refine⟨m,ρ,S,a,S1,E,R,e1,λm1 H1 v A1 va=>⟨m1,ρ,S1,b,_,E.mono R A1.ext,A1.rel,e2,λm2 H2 w A2 vb=>?_⟩⟩;exact q m2 H2 _ (A1.trans A2) (.cons (va.mono A1.rel A2.ext) vb)
abbrev jg(ds:List D)(S:Sto):Option (D × Sto):=if ds.length<=1000 then some (.tup ds,S) else none
theorem jY{n:Nat}(h:n<=1000):n<=sizeLine:=by rw[V4];lia
theorem gW{ds:List D}{vs:List V}{Q:VK}(R:Rel K m S H)(vd:VDs K m H ds vs)(q:∀m' H' u,Aft K m H S m' H'->VD K m' H' (.tup ds) u->Q u H'):∀p,H p=none->Q (.ref p) (upd H p (.tup vs)):=λp hp=>
 q m _ _ ⟨Ext.beside R hp _,R.beside hp _⟩ (nD a8 (vd.mono R (Ext.beside R hp _)))
theorem jp{ds:List D}{vs:List V}{Q:VK}(R:Rel K m S H)(vd:VDs K m H ds vs)(q:∀m' H' u,Aft K m H (S++[.lst ds]) m' H'->VD K m' H' (.ref S.length) u->Q u H'):∀p,H p=none->Q (.ref p) (upd H p (.lst vs)):=λp hp=>by
 have x:=Ext.beside R hp (.lst vs);refine q (m++[p]) _ _ ⟨x.adopt hp,(R.beside hp _).adopt (R.no hp) a8 (vd.mono R x)⟩ ?_;rw[VD];exact⟨p,by rw[Zp (by rw[R.len];exact Zf _),R.len,Yo];rfl,rfl⟩
theorem nF{ds:List D}{vs:List V}{Q:VK}(R:Rel K m S H)(vd:VDs K m H ds vs)(q:∀m' H' a vs,Aft K m H S m' H'->H' a=some (.lst vs)->a ∉ m'->(∀b,b ∈ m->b ≠ a)->H a=none->VDs K m' H' ds vs->Q (.ref a) H'):∀p,H p=none->Q (.ref p) (upd H p (.lst vs)):=λp hp=>
 q m _ _ _ ⟨Ext.beside R hp _,R.beside hp _⟩ a8 (R.no hp) (λb hb z=>R.no hp (z ▸ hb)) hp (vd.mono R (Ext.beside R hp _))
theorem GQ{x:XA}{σ:L2.St}{H:Hp}{Q:VK}(h:tE K (jf jg x) σ H Q):Lh (tAr K x) σ H Q:=by
 obtain⟨m,ρ,S,d',S',E,R,e,q⟩:=h;obtain⟨a,S1,e1,e⟩:=ab e;unfold jg at e;split at e
 ·rename_i hl;cases e;exact⟨m,ρ,S,a,_,E,R,e1,λm1 H1 vs A1 va=>⟨jY (by rw[<-va.length];exact hl),gW A1.rel va λm' H' u A2 vu=>q m' H' u (A1.trans A2) vu⟩⟩
 ·cases e
abbrev mq(x:XA):XA:=λρ S=>bnd (x ρ S) λds S1=>if ds.length<=1000 then some (ds,S1) else none
theorem BN{x:XA}{σ:L2.St}{H:Hp}{Q:VK}(h:gm K (mq x) σ H Q):Li (tAr K x) σ H Q:=by
 obtain⟨m,ρ,S,ds,S',E,R,e,q⟩:=h;obtain⟨a,S1,e1,e⟩:=ab e;split at e
 ·rename_i hl;cases e;refine⟨m,ρ,S,_,_,E,R,e1,λm1 H1 vs A1 va=>⟨jY (by rw[<-va.length];exact hl),nF A1.rel va λm' H' u us A2 sq n1 n2 n3 vu=>?_⟩⟩
  have hn:H u=none:=by
   cases e:H u with
   |none=>rfl
   |some o=>
    by_cases hm:u ∈ m
    ·exact absurd rfl (n2 u (A1.ext.pre.subset hm))
    ·have:=A1.ext.keep u o e hm;rw[this] at n3;cases n3
  exact q m' H' u us (A1.trans A2) sq n1 (λb hb=>n2 b (A1.ext.pre.subset hb)) hn vu
 ·cases e
theorem eV{d:D}{v:V}{tu:Bool}{ds:List D}(R:Rel K m S H)(vd:VD K m H d v)(e:ay d S=some (tu,ds)):∃a vs,v = .ref a/\SqB K tu H a vs/\VDs K m H ds vs:=by
 unfold ay at e;cases d with
 |tup es=>
  cases e;obtain⟨a,vs,e,q,r⟩:=vd.tups;exact⟨a,vs,e,q,r⟩
 |ref n=>
  obtain⟨a,ha,ev⟩:=vd.refs;cases hs:ak S n with
  |none=>simp[hs] at e
  |some es=>
   simp[hs] at e;obtain⟨rfl,rfl⟩:=e;obtain⟨b,vs,hb,q,r⟩:=R.seq hs;rw[ha] at hb;cases hb;exact⟨a,vs,ev,q,r⟩
 |_=>cases e
theorem GR{f:Bool->List D->Sto->Option (D × Sto)}{x:XE}{σ:L2.St}{H:Hp}{Q:VK}(h:tE K (lH f x) σ H Q):tUn (rSq K f) (tE K x) σ H Q:=by
 obtain⟨m,ρ,S,d,S',E,R,e,q⟩:=h;obtain⟨a,S1,e1,e⟩:=ab e;refine⟨m,ρ,S,a,S1,E,R,e1,λm1 H1 v A1 va=>?_⟩;unfold ai at e;split at e
 ·rename_i r hi;obtain⟨b,vs,ev,sq,vds⟩:=eV (tu:=r.1) (ds:=r.2) A1.rel va hi;exact⟨m1,S1,r.1,r.2,b,vs,d,S',A1.rel,ev,sq,vds,e,λm3 H3 u A3 vd=>q m3 H3 u (A1.trans A3) vd⟩
 ·cases e
abbrev dH(x:XA):XE:=λρ S=>bnd (x ρ S) λds S1=>some (.ref S1.length,S1++[.lst ds])
theorem pK{x:XA}{σ:L2.St}{H:Hp}{Q:VK}(h:tE K (dH x) σ H Q):gm K x σ H Q:=by
 obtain⟨m,ρ,S,d,S',E,R,e,q⟩:=h;obtain⟨ds,S1,e1,e⟩:=ab e;cases e;refine⟨m,ρ,S,ds,S1,E,R,e1,λm1 H1 a vs A1 sq n1 n2 n3 vd=>?_⟩;refine q (m1++[a]) H1 _ ⟨⟨A1.ext.pre.trans (Yv _ _),A1.ext.keep,λb hb nb=>?_⟩,A1.rel.adopt n1 sq vd⟩ ?_
 ·rcases ZQ.mp hb with z |z
  ·exact A1.ext.new b z nb
  ·simp at z;subst z;exact n3
 ·rw[VD];exact⟨a,by rw[Zp (by rw[A1.rel.len];exact Zf _),A1.rel.len,Yo];rfl,rfl⟩
end
abbrev eqL(f:D->D->Option Bool):List D->List D->Option Bool
 |[],[]=>some true
 |[],_::_=>some false
 |_::_,[]=>some false
 |x::xs,y::ys=>match f x y,eqL f xs ys with
  |some a,some b=>some (a && b)
  |_,_=>none
abbrev eqD:Nat->Sto->D->D->Option Bool
 |0,_,_,_=>none
 |n+1,S,x,y=>match x,y with
  |.non,.non=>some true
  |.bl a,.bl b=>some (a == b)
  |.int a,.int b=>some (a == b)
  |.str a,.str b=>some (a == b)
  |.bl a,.int b=>some ((if a then 1 else 0) == b)
  |.int a,.bl b=>some (a == (if b then 1 else 0))
  |.tup xs,.tup ys=>eqL (eqD n S) xs ys
  |.ref a,.ref b=>match ak S a,ak S b with
   |some xs,some ys=>if a=b then some true else if xs.length=ys.length then eqL (eqD n S) xs ys else some false
   |_,_=>none
  |.tup _,.ref b=>match ak S b with
   |some _=>some false
   |none=>none
  |.ref a,.tup _=>match ak S a with
   |some _=>some false
   |none=>none
  |.ref a,_=>match ak S a with
   |some _=>some false
   |none=>none
  |_,.ref a=>match ak S a with
   |some _=>some false
   |none=>none
  |_,_=>some false
section
variable {X:Cx} {K:W7} {m:List Addr} {H:Hp} {S:Sto}
theorem pL{f:D->D->Option Bool}:∀ {xs ys:List D} {b:Bool},eqL f xs ys=some b->∃g:Nat->Bool,(∀j x y,xs[j]?=some x->ys[j]?=some y->f x y=some (g j))/\b=((Zl (min xs.length ys.length)).all g && xs.length == ys.length)
 |[],[],b,h=>by simp[eqL] at h;exact⟨λ_=>true,λj x y e=>by simp at e,by simp[<-h]⟩
 |[],_::_,b,h=>by simp[eqL] at h;exact⟨λ_=>true,λj x y e=>by simp at e,by simp[<-h]⟩
 |_::_,[],b,h=>by simp[eqL] at h;exact⟨λ_=>true,λj x y _ e=>by simp at e,by simp[<-h]⟩
 |x::xs,y::ys,b,h=>by
  simp only[eqL] at h;cases h1:f x y with
  |none=>simp[h1] at h
  |some a=>
   cases h2:eqL f xs ys with
   |none=>simp[h1,h2] at h
   |some c=>
    simp[h1,h2] at h;obtain⟨g,hg,hc⟩:=pL h2;refine⟨λj=>match j with |0=>a |j+1=>g j,λj x' y' e1 e2=>?_,?_⟩
    ·cases j with
     |zero=>simp at e1 e2;subst e1 e2;exact h1
     |succ j=>simp at e1 e2;exact hg j x' y' e1 e2
    ·rw[<-h,hc];simp only[Zv,Nat.succ_min_succ,List.range_succ_eq_map,Ye,YW];rw[Bool.and_assoc]
     congr 1
     rw[show(xs.length+1 == ys.length+1)=(xs.length == ys.length) by simp];rfl
theorem BO{pins:List (Addr × Obj)}{σ:L2.St}{s:Shared}{a:Addr}{xs ys:List V}(I:Inv X pins σ H s)(h1:H a=some (.tup xs))(h2:H a=some (.tup ys)):xs=ys:=by
 rw[h1] at h2;cases h2;rfl
theorem vC{m:List Addr}(nd:m.Nodup){i j:Nat}{a:Addr}(h1:m[i]?=some a)(h2:m[j]?=some a):i=j:=by
 obtain⟨p1,q1⟩:=Zb.mp h1;obtain⟨p2,q2⟩:=Zb.mp h2;exact(YN nd).mp (q1.trans q2.symm)
theorem pM{pins:List (Addr × Obj)}{σ:L2.St}{s:Shared}(I:Inv X pins σ H s)(R:Rel X.K m S H):∀ (n:Nat) {x y:D} {v:V} {b:Bool},VD X.K m H x v->VD X.K m H y v->eqD n S x y=some b->b=true
 |0,_,_,_,_,_,_,h=>by simp[eqD] at h
 |n+1,x,y,v,b,h1,h2,h=>by
  have lists:∀ {xs ys:List D} {vs:List V} {b:Bool},VDs X.K m H xs vs->VDs X.K m H ys vs->eqL (eqD n S) xs ys=some b->b=true:=by
   intro xs
   induction xs with
   |nil=>
    intro ys vs b p q e;have l1:=p.length;have l2:=q.length;cases ys with
    |nil=>simp[eqL] at e;simp_all
    |cons _ _=>simp at l1 l2;lia
   |cons x xs ih=>
    intro ys vs b p q e;have l1:=p.length;have l2:=q.length;cases ys with
    |nil=>simp at l1 l2;lia
    |cons y ys=>
     rw[VDs] at p q;obtain⟨a,r,e1,p1,p2⟩:=p;obtain⟨a',r',e2,q1,q2⟩:=q;rw[e1] at e2;cases e2;simp only[eqL] at e;cases f1:eqD n S x y with
     |none=>simp[f1] at e
     |some c=>
      cases f2:eqL (eqD n S) xs ys with
      |none=>simp[f1,f2] at e
      |some d=>
       simp[f1,f2] at e;rw[<-e,pM I R n p1 q1 f1,ih p2 q2 f2];rfl
  cases x with
  |non=>cases h1.nons;cases y <;> simp[VD] at h2 <;> simp[eqD] at h <;> simp[h]
  |bl a=>cases h1.bls;cases y <;> simp[VD] at h2 <;> simp[eqD] at h <;> simp_all
  |int a=>cases h1.ints;cases y <;> simp[VD] at h2 <;> simp[eqD] at h <;> simp_all
  |str a=>cases h1.strs;cases y <;> simp[VD] at h2 <;> simp[eqD] at h <;> simp_all
  |tup xs=>
   obtain⟨a,vs,e,sq,p⟩:=h1.tups;subst e;cases y with
   |tup ys=>
    obtain⟨a',vs',e',sq',q⟩:=h2.tups;cases e';have:=BO I sq sq';subst this;simp only[eqD] at h;exact lists p q h
   |ref k=>
    obtain⟨a',ha,e'⟩:=h2.refs;cases e';have z:a ∈ m:=Ze ha;exact absurd z (R.notTup sq)
   |non=>cases h2.nons
   |bl _=>cases h2.bls
   |int _=>cases h2.ints
   |str _=>cases h2.strs
  |ref k=>
   obtain⟨a,ha,e⟩:=h1.refs;subst e;cases y with
   |ref k'=>
    obtain⟨a',ha',e'⟩:=h2.refs;cases e';have:=vC R.nd ha ha';subst this;simp only[eqD] at h;cases hs:ak S k with
    |none=>rw[hs] at h;cases h
    |some es=>rw[hs] at h;simp at h;exact h.symm ▸ rfl
   |tup ys=>
    obtain⟨a',vs',e',sq,q⟩:=h2.tups;cases e';have z:a ∈ m:=Ze ha;exact absurd z (R.notTup sq)
   |non=>cases h2.nons
   |bl _=>cases h2.bls
   |int _=>cases h2.ints
   |str _=>cases h2.strs
theorem nG{vs:List V}{its:List Value}{xs:List D}(p:VDs K m H xs vs)(r:aP vs its){j:Nat}(hj:j < its.toArray.size):∃x v,xs[j]?=some x/\VD K m H x v/\aB v its.toArray[j]:=by
 have hj':j < its.length:=by simpa using hj
 have l1:=p.length;have l2:=r.length;obtain⟨v,hv,vd⟩:=p.get (i:=j) (d:=xs[j]'(by lia)) (gEG _);obtain⟨u,hu,ru⟩:=r.get hv;refine⟨_,v,gEG (by lia),vd,?_⟩;have e:its[j]?=some its[j]:=gEG hj';rw[e] at hu;cases hu
 simpa using ru
@[inline]abbrev GS(X:Cx)(m:List Addr)(H:Hp)(S:Sto)(s:Shared)(n:Nat):Prop:=∀ (A:Around) (x y:D) (v w:V) (u u':Value) (b:Bool),VD X.K m H x v->VD X.K m H y w->aB v u->aB w u'->eqD n S x y=some b->A.units+n < cLine->WZ A s u u' b
theorem pO{pins:List (Addr × Obj)}{σ:L2.St}{s:Shared}{n:Nat}(ih:GS X m H S s n){A:Around}{xs ys:List D}{vs ws:List V}{i1 i2:List Value}{b:Bool}(p:VDs X.K m H xs vs)(q:VDs X.K m H ys ws)(r1:aP vs i1)(r2:aP ws i2)
  (h:eqL (eqD n S) xs ys=some b) (hu:A.units+(n+1) < cLine):∃g:Nat->Bool,(∀j (h1:j < i1.toArray.size) (h2:j < i2.toArray.size),WZ A.in1 s i1.toArray[j] i2.toArray[j] (g j))/\b=((Zl (min i1.toArray.size i2.toArray.size)).all g && i1.toArray.size == i2.toArray.size):=by
 obtain⟨g,hg,hb⟩:=pL h;have l1:i1.toArray.size=xs.length:=by rw[Zk,<-r1.length,<-p.length]
 have l2:i2.toArray.size=ys.length:=by rw[Zk,<-r2.length,<-q.length]
 refine⟨g,λj h1 h2=>?_,by rw[hb,l1,l2]⟩;obtain⟨x,v,e1,v1,ru1⟩:=nG p r1 h1;obtain⟨y,w,e2,v2,ru2⟩:=nG q r2 h2;exact ih _ _ _ _ _ _ _ _ v1 v2 ru1 ru2 (hg j x y e1 e2) (by show A.units+1+n < cLine;lia)
theorem xZ{n:Nat}:(Zl n).all (λ_=>true)=true:=by simp
theorem x5{pins:List (Addr × Obj)}{σ:L2.St}{s:Shared}(I:Inv X pins σ H s)(R:Rel X.K m S H){n:Nat}(ih:GS X m H S s n){A:Around}{x y:D}{a a':Addr}{b:Bool}(hx:VD X.K m H x (.ref a))(hy:VD X.K m H y (.ref a'))(h:eqD (n+1) S x y=some b)(hu:A.units+(n+1) < cLine) :
  W0 A s (.ref a) (.ref a') b/\W1 A s (.ref a) (.ref a') (!b):=by
 have hu0:A.units < cLine:=by lia
 cases x with
 |non=>cases hx.nons
 |bl _=>cases hx.bls
 |int _=>cases hx.ints
 |str _=>cases hx.strs
 |tup xs=>
  obtain⟨_,vs,e,sq,p⟩:=hx.tups;cases e;obtain⟨i1,r1,t1,_⟩:=I.tuple (.of sq);cases y with
  |non=>cases hy.nons
  |bl _=>cases hy.bls
  |int _=>cases hy.ints
  |str _=>cases hy.strs
  |tup ys=>
   obtain⟨_,ws,e,sq',q⟩:=hy.tups;cases e;obtain⟨i2,r2,t2,_⟩:=I.tuple (.of sq');simp only[eqD] at h;obtain⟨g,hg,hb⟩:=pO (pins:=pins) (σ:=σ) ih p q r1 r2 h hu;rw[hb];exact⟨SeqAt.RcAt.tuples t1 t2 hu0 hg,PySem.SeqAt.RcNeAt.tuples t1 t2 hu0 hg⟩
  |ref k=>
   simp only[eqD] at h;cases hs:ak S k with
   |none=>rw[hs] at h;cases h
   |some es=>
    rw[hs] at h;cases h;obtain⟨b',ws,hb,sq',q⟩:=R.seq hs;obtain⟨c,hc,ec⟩:=hy.refs;cases ec;rw[hb] at hc;cases hc;obtain⟨i2,r2,t2,_⟩:=I.list sq';exact⟨SeqAt.RcAt.tuple_list t1 t2.isList hu0,PySem.SeqAt.RcNeAt.tuple_list t1 t2.isList hu0⟩
 |ref k=>
  obtain⟨c,hc,ec⟩:=hx.refs;cases ec;cases y with
  |non=>cases hy.nons
  |bl _=>cases hy.bls
  |int _=>cases hy.ints
  |str _=>cases hy.strs
  |tup ys=>
   obtain⟨_,ws,e,sq',q⟩:=hy.tups;cases e;obtain⟨i2,r2,t2,_⟩:=I.tuple (.of sq');simp only[eqD] at h;cases hs:ak S k with
   |none=>rw[hs] at h;cases h
   |some es=>
    rw[hs] at h;cases h;obtain⟨b',vs,hb,sq,p⟩:=R.seq hs;rw[hb] at hc;cases hc;obtain⟨i1,r1,t1,_⟩:=I.list sq;exact⟨SeqAt.RcAt.list_tuple t1.isList t2 hu0,PySem.SeqAt.RcNeAt.list_tuple t1.isList t2 hu0⟩
  |ref k'=>
   obtain⟨c',hc',ec'⟩:=hy.refs;cases ec';simp only[eqD] at h;cases hs:ak S k with
   |none=>rw[hs] at h;cases h
   |some es=>
    cases hs':ak S k' with
    |none=>rw[hs,hs'] at h;cases h
    |some es'=>
     rw[hs,hs'] at h;dsimp only at h;obtain⟨b1,vs,hb,sq,p⟩:=R.seq hs;rw[hb] at hc;cases hc;obtain⟨b2,ws,hb',sq',q⟩:=R.seq hs';rw[hb'] at hc';cases hc';obtain⟨i1,r1,t1,_⟩:=I.list sq;obtain⟨i2,r2,t2,_⟩:=I.list sq';split at h
     ·rename_i hk;subst hk;rw[hb] at hb';cases hb';cases h;have z:=SeqAt.RcAt.lists (e:=λ_=>true) t1.isList t1.isList rfl hu0 λj h1 h2=>SeqAt.EqAt.same _;have z':=PySem.SeqAt.RcNeAt.lists (e:=λ_=>true) t1.isList t1.isList rfl hu0 λj h1 h2=>SeqAt.EqAt.same _;rw[xZ] at z z';exact⟨z,z'⟩
     ·have l1:i1.toArray.size=es.length:=by rw[Zk,<-r1.length,<-p.length]
      have l2:i2.toArray.size=es'.length:=by rw[Zk,<-r2.length,<-q.length]
      split at h
      ·rename_i hl;obtain⟨g,hg,hb3⟩:=pO (pins:=pins) (σ:=σ) ih p q r1 r2 h hu;have hsz:i1.toArray.size=i2.toArray.size:=by rw[l1,l2,hl]
       rw[hb3,<-hsz,Nat.min_self,beq_self_eq_true,Bool.and_true];exact⟨SeqAt.RcAt.lists t1.isList t2.isList hsz hu0 hg,PySem.SeqAt.RcNeAt.lists t1.isList t2.isList hsz hu0 hg⟩
      ·rename_i hl;cases h;have hsz:(i1.toArray.size != i2.toArray.size)=true:=by rw[l1,l2];simpa using hl
       exact⟨SeqAt.RcAt.lists_lengths t1.isList t2.isList hsz hu0,PySem.SeqAt.RcNeAt.lists_lengths t1.isList t2.isList hsz hu0⟩
theorem bf{pins:List (Addr × Obj)}{σ:L2.St}{s:Shared}(I:Inv X pins σ H s)(R:Rel X.K m S H){k:Nat}{v:V}{es:List D}(h:VD X.K m H (.ref k) v)(hs:ak S k=some es):∃a i,v = .ref a/\s.heap.IsList a i:=by
 obtain⟨c,hc,ec⟩:=h.refs;obtain⟨b1,vs,hb,sq,p⟩:=R.seq hs;rw[hb] at hc;cases hc;obtain⟨i1,r1,t1,_⟩:=I.list sq;exact⟨_,_,ec,t1.isList⟩
theorem bu{pins:List (Addr × Obj)}{σ:L2.St}{s:Shared}(I:Inv X pins σ H s){v:V}{es:List D}(h:VD X.K m H (.tup es) v):∃a i,v = .ref a/\s.heap.IsTuple a i:=by
 obtain⟨a,vs,e,sq,p⟩:=h.tups;obtain⟨i1,r1,t1,_⟩:=I.tuple (.of sq);exact⟨_,_,e,t1⟩
theorem nI{pins:List (Addr × Obj)}{σ:L2.St}{s:Shared}(I:Inv X pins σ H s)(R:Rel X.K m S H):∀n,GS X m H S s n
 |0=>λA x y v w u u' b h1 h2 r1 r2 h _=>by simp[eqD] at h
 |n+1=>λA x y v w u u' b h1 h2 r1 r2 h hu=>by
  have hu0:A.units < cLine:=by lia
  have seq:∀ {a a':Addr},v = .ref a->w = .ref a'->WZ A s u u' b:=by
   intro a a' e e';subst e e';cases r1;cases r2;by_cases z:a=a'
   ·subst z;have:=pM I R (n+1) h1 h2 h;subst this;exact SeqAt.EqAt.same _
   ·exact SeqAt.EqAt.of_refs z (x5 I R (nI I R n) h1 h2 h hu).1
  cases x with
  |non=>
   cases h1.nons;cases r1;cases y with
   |non=>cases h2.nons;cases r2;simp[eqD] at h;subst h;exact SeqAt.EqAt.same _
   |bl j=>cases h2.bls;cases r2;simp[eqD] at h;subst h;exact SeqAt.EqAt.none_bool _
   |int j=>cases h2.ints;obtain⟨t,rfl⟩:=r2;simp[eqD] at h;subst h;exact SeqAt.EqAt.none_int _ _
   |str j=>cases h2.strs;obtain⟨t,rfl⟩:=r2;simp[eqD] at h;subst h;exact SeqAt.EqAt.none_str _ _
   |tup ys=>obtain⟨a,i,e,l⟩:=bu I h2;subst e;cases r2;simp[eqD] at h;subst h;exact SeqAt.EqAt.none_tuple l hu0
   |ref k=>
    simp only[eqD] at h;cases hs:ak S k with
    |none=>rw[hs] at h;cases h
    |some es=>rw[hs] at h;cases h;obtain⟨a,i,e,l⟩:=bf I R h2 hs;subst e;cases r2;exact SeqAt.EqAt.none_list l hu0
  |bl i=>
   cases h1.bls;cases r1;cases y with
   |non=>cases h2.nons;cases r2;simp[eqD] at h;subst h;exact SeqAt.EqAt.bool_none _
   |bl j=>cases h2.bls;cases r2;simp only[eqD] at h;cases h;exact SeqAt.EqAt.bool_bool _ _
   |int j=>cases h2.ints;obtain⟨t,rfl⟩:=r2;simp only[eqD] at h;cases h;exact SeqAt.EqAt.bool_int _ _ _
   |str j=>cases h2.strs;obtain⟨t,rfl⟩:=r2;simp[eqD] at h;subst h;exact SeqAt.EqAt.bool_str _ _ _
   |tup ys=>obtain⟨a,i,e,l⟩:=bu I h2;subst e;cases r2;simp[eqD] at h;subst h;exact SeqAt.EqAt.bool_tuple _ l hu0
   |ref k=>
    simp only[eqD] at h;cases hs:ak S k with
    |none=>rw[hs] at h;cases h
    |some es=>rw[hs] at h;cases h;obtain⟨a,i,e,l⟩:=bf I R h2 hs;subst e;cases r2;exact SeqAt.EqAt.bool_list _ l hu0
  |int i=>
   cases h1.ints;obtain⟨t1,rfl⟩:=r1;cases y with
   |non=>cases h2.nons;cases r2;simp[eqD] at h;subst h;exact SeqAt.EqAt.int_none _ _
   |bl j=>cases h2.bls;cases r2;simp only[eqD] at h;cases h;exact SeqAt.EqAt.int_bool _ _ _
   |int j=>cases h2.ints;obtain⟨t,rfl⟩:=r2;simp only[eqD] at h;cases h;exact SeqAt.EqAt.int_int _ _ _ _
   |str j=>cases h2.strs;obtain⟨t,rfl⟩:=r2;simp[eqD] at h;subst h;exact SeqAt.EqAt.int_str _ _ _ _
   |tup ys=>obtain⟨a,i,e,l⟩:=bu I h2;subst e;cases r2;simp[eqD] at h;subst h;exact SeqAt.EqAt.int_tuple _ _ l hu0
   |ref k=>
    simp only[eqD] at h;cases hs:ak S k with
    |none=>rw[hs] at h;cases h
    |some es=>rw[hs] at h;cases h;obtain⟨a,i,e,l⟩:=bf I R h2 hs;subst e;cases r2;exact SeqAt.EqAt.int_list _ _ l hu0
  |str i=>
   cases h1.strs;obtain⟨t1,rfl⟩:=r1;cases y with
   |non=>cases h2.nons;cases r2;simp[eqD] at h;subst h;exact SeqAt.EqAt.str_none _ _
   |bl j=>cases h2.bls;cases r2;simp[eqD] at h;subst h;exact SeqAt.EqAt.str_bool _ _ _
   |int j=>cases h2.ints;obtain⟨t,rfl⟩:=r2;simp[eqD] at h;subst h;exact SeqAt.EqAt.str_int _ _ _ _
   |str j=>cases h2.strs;obtain⟨t,rfl⟩:=r2;simp only[eqD] at h;cases h;exact SeqAt.EqAt.str_str _ _ _ _
   |tup ys=>obtain⟨a,i,e,l⟩:=bu I h2;subst e;cases r2;simp[eqD] at h;subst h;exact SeqAt.EqAt.str_tuple _ _ l hu0
   |ref k=>
    simp only[eqD] at h;cases hs:ak S k with
    |none=>rw[hs] at h;cases h
    |some es=>rw[hs] at h;cases h;obtain⟨a,i,e,l⟩:=bf I R h2 hs;subst e;cases r2;exact SeqAt.EqAt.str_list _ _ l hu0
  |tup xs=>
   obtain⟨a,i,e,l⟩:=bu I h1;subst e;cases r1;cases y with
   |non=>cases h2.nons;cases r2;simp[eqD] at h;subst h;exact SeqAt.EqAt.tuple_none l hu0
   |bl j=>cases h2.bls;cases r2;simp[eqD] at h;subst h;exact SeqAt.EqAt.tuple_bool _ l hu0
   |int j=>cases h2.ints;obtain⟨t,rfl⟩:=r2;simp[eqD] at h;subst h;exact SeqAt.EqAt.tuple_int _ _ l hu0
   |str j=>cases h2.strs;obtain⟨t,rfl⟩:=r2;simp[eqD] at h;subst h;exact SeqAt.EqAt.tuple_str _ _ l hu0
   |tup ys=>obtain⟨a',i',e',l'⟩:=bu I h2;exact seq rfl e'
   |ref k=>obtain⟨c,hc,ec⟩:=h2.refs;exact seq rfl ec
  |ref k=>
   obtain⟨c,hc,ec⟩:=h1.refs;cases y with
   |tup ys=>obtain⟨a',i',e',l'⟩:=bu I h2;exact seq ec e'
   |ref k=>obtain⟨c,hc,ec'⟩:=h2.refs;exact seq ec ec'
   |non=>
    simp only[eqD] at h;cases hs:ak S k with
    |none=>rw[hs] at h;cases h
    |some es=>rw[hs] at h;cases h;obtain⟨a,i,e,l⟩:=bf I R h1 hs;subst e;cases r1;cases h2.nons;cases r2;exact SeqAt.EqAt.list_none l hu0
   |bl j=>
    simp only[eqD] at h;cases hs:ak S k with
    |none=>rw[hs] at h;cases h
    |some es=>rw[hs] at h;cases h;obtain⟨a,i,e,l⟩:=bf I R h1 hs;subst e;cases r1;cases h2.bls;cases r2;exact SeqAt.EqAt.list_bool _ l hu0
   |int j=>
    simp only[eqD] at h;cases hs:ak S k with
    |none=>rw[hs] at h;cases h
    |some es=>rw[hs] at h;cases h;obtain⟨a,i,e,l⟩:=bf I R h1 hs;subst e;cases r1;cases h2.ints;obtain⟨t,rfl⟩:=r2;exact SeqAt.EqAt.list_int _ _ l hu0
   |str j=>
    simp only[eqD] at h;cases hs:ak S k with
    |none=>rw[hs] at h;cases h
    |some es=>rw[hs] at h;cases h;obtain⟨a,i,e,l⟩:=bf I R h1 hs;subst e;cases r1;cases h2.strs;obtain⟨t,rfl⟩:=r2;exact SeqAt.EqAt.list_str _ _ l hu0
theorem Lz{pins:List (Addr × Obj)}{σ:L2.St}{s:Shared}(I:Inv X pins σ H s)(R:Rel X.K m S H)(n:Nat){A:Around}{x y:D}{v w:V}{u u':Value}{b:Bool}(h1:VD X.K m H x v)(h2:VD X.K m H y w)(r1:aB v u)(r2:aB w u')(h:eqD (n+1) S x y=some b)(hu:A.units+(n+1) < cLine) :
  W0 A s u u' b/\W1 A s u u' (!b):=by
 have hu0:A.units < cLine:=by lia
 have seq:∀ {a a':Addr},v = .ref a->w = .ref a'->W0 A s u u' b/\W1 A s u u' (!b):=by
  intro a a' e e';subst e e';cases r1;cases r2;exact x5 I R (nI I R n) h1 h2 h hu
 cases x with
 |non=>
  cases h1.nons;cases r1;cases y with
  |non=>cases h2.nons;cases r2;simp[eqD] at h;subst h;exact⟨SeqAt.RcAt.none_none,PySem.SeqAt.RcNeAt.none_none⟩
  |bl j=>cases h2.bls;cases r2;simp[eqD] at h;subst h;exact⟨SeqAt.RcAt.none_bool _,PySem.SeqAt.RcNeAt.none_bool _⟩
  |int j=>cases h2.ints;obtain⟨t2,rfl⟩:=r2;simp[eqD] at h;subst h;exact⟨SeqAt.RcAt.none_int _ _,PySem.SeqAt.RcNeAt.none_int _ _⟩
  |str j=>cases h2.strs;obtain⟨t2,rfl⟩:=r2;simp[eqD] at h;subst h;exact⟨SeqAt.RcAt.none_str _ _,PySem.SeqAt.RcNeAt.none_str _ _⟩
  |tup ys=>obtain⟨a,i,e,l⟩:=bu I h2;subst e;cases r2;simp[eqD] at h;subst h;exact⟨SeqAt.RcAt.none_tuple l hu0,PySem.SeqAt.RcNeAt.none_tuple l hu0⟩
  |ref k=>
   simp only[eqD] at h;cases hs:ak S k with
   |none=>rw[hs] at h;cases h
   |some es=>rw[hs] at h;cases h;obtain⟨a,i,e,l⟩:=bf I R h2 hs;subst e;cases r2;exact⟨SeqAt.RcAt.none_list l hu0,PySem.SeqAt.RcNeAt.none_list l hu0⟩
 |bl i=>
  cases h1.bls;cases r1;cases y with
  |non=>cases h2.nons;cases r2;simp[eqD] at h;subst h;exact⟨SeqAt.RcAt.bool_none _,PySem.SeqAt.RcNeAt.bool_none _⟩
  |bl j=>cases h2.bls;cases r2;simp only[eqD] at h;cases h;exact⟨SeqAt.RcAt.bool_bool _ _,PySem.SeqAt.RcNeAt.bool_bool _ _⟩
  |int j=>cases h2.ints;obtain⟨t2,rfl⟩:=r2;simp only[eqD] at h;cases h;exact⟨SeqAt.RcAt.bool_int _ _ _,PySem.SeqAt.RcNeAt.bool_int _ _ _⟩
  |str j=>cases h2.strs;obtain⟨t2,rfl⟩:=r2;simp[eqD] at h;subst h;exact⟨SeqAt.RcAt.bool_str _ _ _,PySem.SeqAt.RcNeAt.bool_str _ _ _⟩
  |tup ys=>obtain⟨a,i,e,l⟩:=bu I h2;subst e;cases r2;simp[eqD] at h;subst h;exact⟨SeqAt.RcAt.bool_tuple _ l hu0,PySem.SeqAt.RcNeAt.bool_tuple _ l hu0⟩
  |ref k=>
   simp only[eqD] at h;cases hs:ak S k with
   |none=>rw[hs] at h;cases h
   |some es=>rw[hs] at h;cases h;obtain⟨a,i,e,l⟩:=bf I R h2 hs;subst e;cases r2;exact⟨SeqAt.RcAt.bool_list _ l hu0,PySem.SeqAt.RcNeAt.bool_list _ l hu0⟩
 |int i=>
  cases h1.ints;obtain⟨t1,rfl⟩:=r1;cases y with
  |non=>cases h2.nons;cases r2;simp[eqD] at h;subst h;exact⟨SeqAt.RcAt.int_none _ _,PySem.SeqAt.RcNeAt.int_none _ _⟩
  |bl j=>cases h2.bls;cases r2;simp only[eqD] at h;cases h;exact⟨SeqAt.RcAt.int_bool _ _ _,PySem.SeqAt.RcNeAt.int_bool _ _ _⟩
  |int j=>cases h2.ints;obtain⟨t2,rfl⟩:=r2;simp only[eqD] at h;cases h;exact⟨SeqAt.RcAt.int_int _ _ _ _,PySem.SeqAt.RcNeAt.int_int _ _ _ _⟩
  |str j=>cases h2.strs;obtain⟨t2,rfl⟩:=r2;simp[eqD] at h;subst h;exact⟨SeqAt.RcAt.int_str _ _ _ _,PySem.SeqAt.RcNeAt.int_str _ _ _ _⟩
  |tup ys=>obtain⟨a,i,e,l⟩:=bu I h2;subst e;cases r2;simp[eqD] at h;subst h;exact⟨SeqAt.RcAt.int_tuple _ _ l hu0,PySem.SeqAt.RcNeAt.int_tuple _ _ l hu0⟩
  |ref k=>
   simp only[eqD] at h;cases hs:ak S k with
   |none=>rw[hs] at h;cases h
   |some es=>rw[hs] at h;cases h;obtain⟨a,i,e,l⟩:=bf I R h2 hs;subst e;cases r2;exact⟨SeqAt.RcAt.int_list _ _ l hu0,PySem.SeqAt.RcNeAt.int_list _ _ l hu0⟩
 |str i=>
  cases h1.strs;obtain⟨t1,rfl⟩:=r1;cases y with
  |non=>cases h2.nons;cases r2;simp[eqD] at h;subst h;exact⟨SeqAt.RcAt.str_none _ _,PySem.SeqAt.RcNeAt.str_none _ _⟩
  |bl j=>cases h2.bls;cases r2;simp[eqD] at h;subst h;exact⟨SeqAt.RcAt.str_bool _ _ _,PySem.SeqAt.RcNeAt.str_bool _ _ _⟩
  |int j=>cases h2.ints;obtain⟨t2,rfl⟩:=r2;simp[eqD] at h;subst h;exact⟨SeqAt.RcAt.str_int _ _ _ _,PySem.SeqAt.RcNeAt.str_int _ _ _ _⟩
  |str j=>cases h2.strs;obtain⟨t2,rfl⟩:=r2;simp only[eqD] at h;cases h;exact⟨SeqAt.RcAt.str_str _ _ _ _,PySem.SeqAt.RcNeAt.str_str _ _ _ _⟩
  |tup ys=>obtain⟨a,i,e,l⟩:=bu I h2;subst e;cases r2;simp[eqD] at h;subst h;exact⟨SeqAt.RcAt.str_tuple _ _ l hu0,PySem.SeqAt.RcNeAt.str_tuple _ _ l hu0⟩
  |ref k=>
   simp only[eqD] at h;cases hs:ak S k with
   |none=>rw[hs] at h;cases h
   |some es=>rw[hs] at h;cases h;obtain⟨a,i,e,l⟩:=bf I R h2 hs;subst e;cases r2;exact⟨SeqAt.RcAt.str_list _ _ l hu0,PySem.SeqAt.RcNeAt.str_list _ _ l hu0⟩
 |tup xs=>
  obtain⟨a,i,e,l⟩:=bu I h1;cases y with
  |non=>subst e;cases r1;cases h2.nons;cases r2;simp[eqD] at h;subst h;exact⟨SeqAt.RcAt.tuple_none l hu0,PySem.SeqAt.RcNeAt.tuple_none l hu0⟩
  |bl j=>subst e;cases r1;cases h2.bls;cases r2;simp[eqD] at h;subst h;exact⟨SeqAt.RcAt.tuple_bool _ l hu0,PySem.SeqAt.RcNeAt.tuple_bool _ l hu0⟩
  |int j=>subst e;cases r1;cases h2.ints;obtain⟨t2,rfl⟩:=r2;simp[eqD] at h;subst h;exact⟨SeqAt.RcAt.tuple_int _ _ l hu0,PySem.SeqAt.RcNeAt.tuple_int _ _ l hu0⟩
  |str j=>subst e;cases r1;cases h2.strs;obtain⟨t2,rfl⟩:=r2;simp[eqD] at h;subst h;exact⟨SeqAt.RcAt.tuple_str _ _ l hu0,PySem.SeqAt.RcNeAt.tuple_str _ _ l hu0⟩
  |tup ys=>obtain⟨a',i',e',l'⟩:=bu I h2;exact seq e e'
  |ref k=>obtain⟨c,hc,ec⟩:=h2.refs;exact seq e ec
 |ref k=>
  obtain⟨c,hc,ec⟩:=h1.refs;cases y with
  |tup ys=>obtain⟨a',i',e',l'⟩:=bu I h2;exact seq ec e'
  |ref k=>obtain⟨c,hc,ec'⟩:=h2.refs;exact seq ec ec'
  |non=>
   simp only[eqD] at h;cases hs:ak S k with
   |none=>rw[hs] at h;cases h
   |some es=>rw[hs] at h;cases h;obtain⟨a,i,e,l⟩:=bf I R h1 hs;subst e;cases r1;cases h2.nons;cases r2;exact⟨SeqAt.RcAt.list_none l hu0,PySem.SeqAt.RcNeAt.list_none l hu0⟩
  |bl j=>
   simp only[eqD] at h;cases hs:ak S k with
   |none=>rw[hs] at h;cases h
   |some es=>rw[hs] at h;cases h;obtain⟨a,i,e,l⟩:=bf I R h1 hs;subst e;cases r1;cases h2.bls;cases r2;exact⟨SeqAt.RcAt.list_bool _ l hu0,PySem.SeqAt.RcNeAt.list_bool _ l hu0⟩
  |int j=>
   simp only[eqD] at h;cases hs:ak S k with
   |none=>rw[hs] at h;cases h
   |some es=>rw[hs] at h;cases h;obtain⟨a,i,e,l⟩:=bf I R h1 hs;subst e;cases r1;cases h2.ints;obtain⟨t2,rfl⟩:=r2;exact⟨SeqAt.RcAt.list_int _ _ l hu0,PySem.SeqAt.RcNeAt.list_int _ _ l hu0⟩
  |str j=>
   simp only[eqD] at h;cases hs:ak S k with
   |none=>rw[hs] at h;cases h
   |some es=>rw[hs] at h;cases h;obtain⟨a,i,e,l⟩:=bf I R h1 hs;subst e;cases r1;cases h2.strs;obtain⟨t2,rfl⟩:=r2;exact⟨SeqAt.RcAt.list_str _ _ l hu0,PySem.SeqAt.RcNeAt.list_str _ _ l hu0⟩
abbrev eqS(x y:D)(S:Sto):Option (D × Sto):=(eqD 60 S x y).map λb=>(.bl b,S)
abbrev neS(x y:D)(S:Sto):Option (D × Sto):=(eqD 60 S x y).map λb=>(.bl (!b),S)
theorem lV{x y:D}{S:Sto}{b:Bool}(h:eqD 60 S x y=some b):neS x y S=some (.bl (!b),S):=by unfold neS;rw[h];rfl
theorem GU(hu:X.A.units+64 < cLine):OpR X (VA .Eq) (rS X.K eqS):=by
 intro pins s σ H x y v u Q I rx ry h;obtain⟨m,S,a,b,d,S',R,va,vb,e,q⟩:=h;unfold eqS at e;cases he:eqD 60 S a b with
 |none=>rw[he] at e;cases e
 |some c=>
  rw[he] at e;cases e;exact(Lz I R 59 va vb rx ry he (by lia)).1 _ _ _ _ ⟨.bl c,H,I,rfl,q m H _ (Aft.refl R) bC⟩
theorem GV(hu:X.A.units+64 < cLine):OpR X (VA .NotEq) (rS X.K neS):=by
 intro pins s σ H x y v u Q I rx ry h;obtain⟨m,S,a,b,d,S',R,va,vb,e,q⟩:=h;unfold neS at e;cases he:eqD 60 S a b with
 |none=>rw[he] at e;cases e
 |some c=>
  rw[he] at e;cases e;exact(Lz I R 59 va vb rx ry he (by lia)).2 _ _ _ _ ⟨.bl (!c),H,I,rfl,q m H _ (Aft.refl R) bC⟩
end
abbrev dm:List D->Option (List Key)
 |[]=>some []
 |.int i::ds=>(dm ds).map (.inl i::·)
 |.str x::ds=>(dm ds).map (.inr x::·)
 |_=>none
abbrev x6:D->Option NK
 |.non=>some .non
 |.int i=>some (.one (.inl i))
 |.str x=>some (.one (.inr x))
 |.tup ds=>(dm ds).map .tup
 |_=>none
abbrev mv:List D->Option (List NK)
 |[]=>some []
 |d::ds=>match x6 d,mv ds with
  |some k,some ks=>some (k::ks)
  |_,_=>none
abbrev lJ:D->Option (List NK)
 |.tup ds=>mv ds
 |_=>none
abbrev atD:List (List NK)->List D->List NK->Option D
 |a::kss,d::ds,k=>if a=k then some d else atD kss ds k
 |_,_,_=>none
abbrev eW(k:List NK)(v:D):List (List NK)->List D->List D
 |a::kss,d::ds=>(if a=k then v else d)::eW k v kss ds
 |_,_=>[]
section
variable {K:W7} {m:List Addr} {H:Hp} {S:Sto}
theorem jZ:∀ {ds:List D} {ks:List Key} {vs:List V},dm ds=some ks->VDs K m H ds vs->vs=ks.map kV
 |[],_,_,e,h=>by cases e;rw[VDs] at h;exact h
 |.int i::ds,ks,vs,e,h=>by
  simp only[dm] at e;obtain⟨ks',e',rfl⟩:=ZL.mp e;rw[VDs] at h;obtain⟨v,r,rfl,h1,h2⟩:=h;rw[h1.ints,jZ e' h2];rfl
 |.str x::ds,ks,vs,e,h=>by
  simp only[dm] at e;obtain⟨ks',e',rfl⟩:=ZL.mp e;rw[VDs] at h;obtain⟨v,r,rfl,h1,h2⟩:=h;rw[h1.strs,jZ e' h2];rfl
 |.non::_,_,_,e,_=>by simp[dm] at e
 |.bl _::_,_,_,e,_=>by simp[dm] at e
 |.tup _::_,_,_,e,_=>by simp[dm] at e
 |.ref _::_,_,_,e,_=>by simp[dm] at e
theorem BP{d:D}{k:NK}{v:V}(e:x6 d=some k)(h:VD K m H d v):uN H k v:=by
 cases d with
 |non=>cases e;exact h.nons
 |int i=>cases e;exact h.ints
 |str x=>cases e;exact h.strs
 |tup ds=>
  simp only[x6] at e;obtain⟨ks,e',rfl⟩:=ZL.mp e;obtain⟨a,vs,rfl,sq,q⟩:=h.tups;exact⟨a,rfl,by rw[<-jZ e' q];exact sq⟩
 |_=>cases e
theorem pP:∀ {ds:List D} {ks:List NK} {vs:List V},mv ds=some ks->VDs K m H ds vs->Paired (uN H) ks vs
 |[],_,_,e,h=>by cases e;rw[VDs] at h;subst h;exact .nil
 |d::ds,ks,vs,e,h=>by
  rw[VDs] at h;obtain⟨v,r,rfl,h1,h2⟩:=h;simp only[mv] at e;split at e
  ·rename_i k ks' e1 e2;cases e;exact .cons (BP e1 h1) (pP e2 h2)
  ·cases e
theorem tL{d:D}{ks:List NK}{v:V}(e:lJ d=some ks)(h:VD K m H d v):∃a,v = .ref a/\nc H ks a:=by
 cases d with
 |tup ds=>
  obtain⟨a,vs,rfl,sq,q⟩:=h.tups;exact⟨a,rfl,vs,sq,pP e q⟩
 |_=>cases e
theorem Rel.dic(R:Rel K m S H){n:Nat}{kss:List (List NK)}{ds:List D}{x:V}(hn:S[n]?=some (.dic kss ds))(vx:VD K m H (.ref n) x):∃a vs,x = .ref a/\m[n]?=some a/\H a=some (.dT (kss.zip vs))/\kss.length=ds.length/\VDs K m H ds vs:=by
 obtain⟨a,ha,vs,h1,h2,h3⟩:=R.ob n _ hn;obtain⟨a',ha',rfl⟩:=vx.refs;rw[ha] at ha';cases ha';exact⟨a,vs,rfl,ha,h1,h2,h3⟩
theorem nK:∀ {kss:List (List NK)} {ds:List D} {vs:List V} {k:List NK},kss.length=ds.length->VDs K m H ds vs->atD kss ds k=none->ip (kss.zip vs) k=none/\k ∉ kss
 |[],_,_,_,_,_,_=>⟨rfl,by simp⟩
 |a::kss,d::ds,vs,k,hl,h,e=>by
  rw[VDs] at h;obtain⟨v,r,rfl,h1,h2⟩:=h;simp only[atD] at e;split at e
  ·cases e
  ·rename_i ne;obtain⟨i1,i2⟩:=nK (by simpa using hl) h2 e;refine⟨?_,λz=>(Zn.mp z).elim (λz=>ne z.symm) i2⟩;rw[Z4,eS ne];exact i1
 |_::_,[],_,_,hl,_,_=>by simp at hl
theorem jq:∀ {kss:List (List NK)} {ds:List D} {vs:List V} {k:List NK} {d:D},VDs K m H ds vs->atD kss ds k=some d->∃v,ip (kss.zip vs) k=some v/\VD K m H d v
 |[],_,_,_,_,_,e=>by simp[atD] at e
 |a::kss,d::ds,vs,k,d',h,e=>by
  rw[VDs] at h;obtain⟨v,r,rfl,h1,h2⟩:=h;simp only[atD] at e;rw[Z4];split at e
  ·rename_i eq;cases e;exact⟨v,gQ eq,h1⟩
  ·rename_i ne;rw[eS ne];exact jq h2 e
 |_::_,[],_,_,_,_,e=>by simp[atD] at e
abbrev inK(neg:Bool)(x y:D)(S:Sto):Option (D × Sto):=match lJ x,y with
 | some k,.ref n=>(match S[n]? with
  |some (.dic kss ds)=>some (.bl (neg != (atD kss ds k).isSome),S)
  | _=>none)
 |_,_=>none
theorem pQ{neg:Bool}{x y d:D}{S':Sto}(e:inK neg x y S=some (d,S')):∃k n kss ds,lJ x=some k/\y = .ref n/\S[n]?=some (.dic kss ds)/\d = .bl (neg != (atD kss ds k).isSome)/\S'=S:=by
 unfold inK at e;split at e
 ·rename_i k n hk;split at e
  ·rename_i kss ds hn;cases e;exact⟨k,n,kss,ds,hk,rfl,hn,rfl,rfl⟩
  ·cases e
 ·cases e
theorem nM(R:Rel K m S H){n:Nat}{kss:List (List NK)}{ds:List D}{x y:D}{k:List NK}{u v:V}(hk:lJ x=some k)(hn:S[n]?=some (.dic kss ds))(vx:VD K m H x u)(vy:VD K m H (.ref n) v):∃a b,v = .ref a/\u = .ref b/\∃o,xK H a (.ref b) o/\o.isSome=(atD kss ds k).isSome/\∀d,atD kss ds k=some d->∃w,o=some w/\VD K m H d w:=by
 obtain⟨b,rfl,kb⟩:=tL hk vx;obtain⟨a,vs,rfl,_,hH,hl,vds⟩:=R.dic hn vy;refine⟨a,b,rfl,rfl,ip (kss.zip vs) k,.inr ⟨_,k,b,.inl hH,rfl,kb,rfl⟩,?_,λd e=>?_⟩
 ·cases e:atD kss ds k with
  |none=>rw[(nK hl vds e).1];rfl
  |some d=>obtain⟨w,e',_⟩:=jq vds e;rw[e'];rfl
 ·obtain⟨w,e',vw⟩:=jq vds e;exact⟨w,e',vw⟩
abbrev ixK(d y:D)(S:Sto):Option (D × Sto):=match lJ y,d with
 | some k,.ref n=>(match S[n]? with
  |some (.dic kss ds)=>(atD kss ds k).map λv=>(v,S)
  | _=>none)
 |_,_=>none
theorem x8{x y d:D}{S':Sto}(e:ixK x y S=some (d,S')):∃k n kss ds,lJ y=some k/\x = .ref n/\S[n]?=some (.dic kss ds)/\atD kss ds k=some d/\S'=S:=by
 unfold ixK at e;split at e
 ·rename_i k n hk;split at e
  ·rename_i kss ds hn;obtain⟨v,e1,e2⟩:=ZL.mp e;cases e2;exact⟨k,n,kss,ds,hk,rfl,hn,e1,rfl⟩
  ·cases e
 ·cases e
abbrev x9(o y v:D)(S:Sto):Option Sto:=match lJ y,o with
 | some k,.ref n=>(match S[n]? with
  |some (.dic kss ds)=>if kss.length < 100000 then some (if (atD kss ds k).isSome=true then S.set n (.dic kss (eW k v kss ds)) else S.set n (.dic (kss++[k]) (ds++[v]))) else none
  | _=>none)
 |_,_=>none
theorem vD{o y v:D}{S':Sto}(e:x9 o y v S=some S'):∃k n kss ds,lJ y=some k/\o = .ref n/\S[n]?=some (.dic kss ds)/\kss.length < 100000/\S'=if (atD kss ds k).isSome=true then S.set n (.dic kss (eW k v kss ds)) else S.set n (.dic (kss++[k]) (ds++[v])):=by
 unfold x9 at e;split at e
 ·rename_i k n hk;split at e
  ·rename_i kss ds hn;split at e
   ·rename_i hl;exact⟨k,n,kss,ds,hk,rfl,hn,hl,(Option.some.inj e).symm⟩
   ·cases e
  ·cases e
 ·cases e
theorem ya{k:List NK}{v:D}{w:V}(vw:VD K m H v w):∀ {kss:List (List NK)} {ds:List D} {vs:List V},kss.length=ds.length->VDs K m H ds vs->∃ws,(kss.zip vs).map (λkv=>if kv.1=k then (kv.1,w) else kv)=kss.zip ws/\VDs K m H (eW k v kss ds) ws
 |[],[],vs,_,h=>⟨[],by simp,by simp only[eW];rw[VDs]⟩
 |[],_::_,_,hl,_=>by simp at hl
 |_::_,[],_,hl,_=>by simp at hl
 |a::kss,d::ds,vs,hl,h=>by
  rw[VDs] at h;obtain⟨u,r,rfl,h1,h2⟩:=h;obtain⟨ws,e1,e2⟩:=ya vw (by simpa using hl) h2;rw[Z4,ZC,e1];simp only[eW];by_cases e:a=k
  ·rw[if_pos e,if_pos e];exact⟨w::ws,by rw[Z4],.cons vw e2⟩
  ·rw[if_neg e,if_neg e];exact⟨u::ws,by rw[Z4],.cons h1 e2⟩
theorem nP{k:List NK}{v:D}:∀ {kss:List (List NK)} {ds:List D},kss.length=ds.length->kss.length=(eW k v kss ds).length
 |[],[],_=>rfl
 |[],_::_,hl=>by simp at hl
 |_::_,[],hl=>by simp at hl
 |a::kss,d::ds,hl=>by simp only[eW,Zv];rw[nP (by simpa using hl)]
theorem Rel.writeD(R:Rel K m S H){i:Nat}{a:Addr}{kss:List (List NK)}{ds:List D}{vs:List V}(hi:m[i]?=some a)(hl:kss.length=ds.length)(q:VDs K m H ds vs):Aft K m H (S.set i (.dic kss ds)) m (upd H a (.dT (kss.zip vs))):=by
 have hm:a ∈ m:=Ze hi;have x:Ext m H m (upd H a (.dT (kss.zip vs))):=⟨Z9 m,λb u e n=>by rw[av (show b ≠ a fromλz=>n (by rw[z];exact hm))];exact e,λb z n=>absurd z n⟩;refine⟨x,by simp[R.len],R.nd,λj o e=>?_⟩;rw[Yn] at e;by_cases hj:i=j
 ·subst hj;rw[if_pos rfl] at e;split at e
  ·have e':=Option.some.inj e;subst e';exact⟨a,hi,vs,a8,hl,VDs.mono R x q⟩
  ·cases e
 ·rw[if_neg hj] at e;obtain⟨b,hb,r⟩:=R.ob j o e
  have ne:b ≠ a:=λz=>by
   subst z;have h1:=Zb.mp hi;have h2:=Zb.mp hb;exact hj ((YN R.nd).mp (h1.2.trans h2.2.symm))
  refine⟨b,hb,?_⟩;cases o with
  |lst es=>obtain⟨ws,p,q⟩:=r;exact⟨ws,by rw[av ne];exact p,VDs.mono R x q⟩
  |frz es=>obtain⟨o,ws,p,q⟩:=r;exact⟨o,ws,by rw[av ne];exact p,VDs.mono R x q⟩
  |dic ks es=>obtain⟨ws,p,l,q⟩:=r;exact⟨ws,by rw[av ne];exact p,l,VDs.mono R x q⟩
theorem BQ(R:Rel K m S H){n:Nat}{kss:List (List NK)}{ds:List D}{y v:D}{k:List NK}{u o w:V}(hk:lJ y=some k)(hn:S[n]?=some (.dic kss ds))(h5:kss.length < 100000)(vy:VD K m H y u)(vo:VD K m H (.ref n) o)(vw:VD K m H v w) :
  ∃a b H',o = .ref a/\u = .ref b/\Lx H a (.ref b) w H'/\Aft K m H (if (atD kss ds k).isSome=true then S.set n (.dic kss (eW k v kss ds)) else S.set n (.dic (kss++[k]) (ds++[v]))) m H':=by
 obtain⟨b,rfl,kb⟩:=tL hk vy;obtain⟨a,vs,rfl,ha,hH,hl,vds⟩:=R.dic hn vo;have hlv:kss.length=vs.length:=by rw[hl,vds.length]
 have hz:(kss.zip vs).length < sizeLine:=by rw[List.length_zip,V4];lia
 refine⟨a,b,_,rfl,rfl,.inr ⟨_,k,b,hH,rfl,kb,hz,rfl⟩,?_⟩
 have any:((kss.zip vs).any λkv=>decide (kv.1=k))=(atD kss ds k).isSome:=by
  rw[jS];cases e:atD kss ds k with
  |none=>rw[(nK hl vds e).1];rfl
  |some d=>obtain⟨w,e',_⟩:=jq vds e;rw[e'];rfl
 unfold jR;rw[any];by_cases c:(atD kss ds k).isSome=true
 ·rw[if_pos c,if_pos c];obtain⟨ws,e1,e2⟩:=ya vw hl vds;rw[e1];exact R.writeD ha (nP hl) e2
 ·rw[if_neg c,if_neg c];have e:kss.zip vs++[(k,w)]=(kss++[k]).zip (vs++[w]):=by rw[List.zip_append hlv];rfl
  rw[e];exact R.writeD ha (by rw[Zh,Zh,hl];rfl) (vds.append (.cons vw .nil))
end
abbrev GW(a b:Nat)(S:Sto):Option (D × Sto):=match S[a]? with
 | some (.lst xs)=>(match S[b]? with
  |some (.lst ys)=>if xs.length+ys.length<=100000 then some (.ref S.length,S++[.lst (xs++ys)]) else none
  | _=>none)
 |_=>none
abbrev jh:D->D->Sto->Option (D × Sto)
 |.int i,.int j,S=>some (.int (i+j),S)
 |.tup xs,.tup ys,S=>if xs.length+ys.length<=1000 then some (.tup (xs++ys),S) else none
 |.ref a,.ref b,S=>GW a b S
 |.str x,.str y,S=>if x.length+y.length<=100000 then some (.str (x++y),S) else none
 |_,_,_=>none
abbrev LA:D->D->Sto->Option (D × Sto)
 |.int i,.int j,S=>some (.int (i - j),S)
 |_,_,_=>none
abbrev fX(i j:Int):Bool:=(decide (-(2 ^ 64) < i) && decide (i < 2 ^ 64)) || (decide (-(2 ^ 64) < j) && decide (j < 2 ^ 64))
abbrev pR:D->D->Sto->Option (D × Sto)
 |.int i,.int j,S=>if fX i j=true then some (.int (i * j),S) else none
 | .ref n,.int k,S=>(match S[n]? with
  |some (.lst xs)=>if 0<=k/\xs.length * k.toNat<=1000/\k<=1000 then some (.ref S.length,S++[.lst (Zw k.toNat xs).flatten]) else none
  | _=>none)
 |_,_,_=>none
abbrev GY:D->D->Sto->Option (D × Sto)
 |.int i,.int j,S=>if 0 < j then some (.int (i % j),S) else none
 |_,_,_=>none
abbrev yb:D->D->Sto->Option (D × Sto)
 |.int i,.int j,S=>if 0 < j/\j < 1298074214633706907132624082305024 then some (.int (i / j),S) else none
 |_,_,_=>none
abbrev GZ:D->D->Sto->Option (D × Sto)
 |.int i,.int j,S=>if 0<=j/\j<=1000000/\i.natAbs < 2 ^ 64 then some (.int (i ^ j.toNat),S) else none
 |_,_,_=>none
inductive BOp where |add |sub |mul |mod |fdiv |pow
abbrev bE:BOp->D->D->Sto->Option (D × Sto)
 |.add=>jh |.sub=>LA |.mul=>pR |.mod=>GY |.fdiv=>yb |.pow=>GZ
abbrev BOp.op:BOp->WT
 |.add=>.Add |.sub=>.Sub |.mul=>.Mult |.mod=>.Mod |.fdiv=>.FloorDiv |.pow=>.Pow
section
variable {X:Cx} {K:W7} {m:List Addr} {H:Hp} {S:Sto}
theorem fG{op:WT}{f:D->D->Sto->Option (D × Sto)}{C:Int->Int->Prop}{g:Int->Int->Int}(ho:OpR X (Vr op) (rI C λi j=>.int (g i j)))
  (hf:∀a b S d S',f a b S=some (d,S')->∃i j,a = .int i/\b = .int j/\C i j/\d = .int (g i j)/\S'=S):OpR X (Vr op) (rS X.K f):=by
 refine OpR.imp ho λx y H Q h=>?_;obtain⟨m,S,a,b,d,S',R,va,vb,e,q⟩:=h;obtain⟨i,j,rfl,rfl,c,rfl,rfl⟩:=hf _ _ _ _ _ e;exact⟨i,j,va.ints,vb.ints,c,q m H _ (Aft.refl R) bc⟩
theorem rm:OpR X (Vr .Add) (λx y H Q=>∃m S xs ys,Rel X.K m S H/\VD X.K m H (.tup xs) x/\VD X.K m H (.tup ys) y/\xs.length+ys.length<=1000/\∀m' H' u,Aft X.K m H S m' H'->VD X.K m' H' (.tup (xs++ys)) u->Q u H'):=by
 refine OpR.imp BC λx y H Q h=>?_;obtain⟨m,S,xs,ys,R,va,vb,hl,q⟩:=h;obtain⟨a,vs,rfl,sa,da⟩:=va.tups;obtain⟨b,ws,rfl,sb,db⟩:=vb.tups;have l1:=da.length;have l2:=db.length;refine⟨a,b,vs,ws,rfl,rfl,.of sa,.of sb,jY (by lia),λe=>?_,λ_ e=>?_,λ_ _=>gW R (da.append db) q⟩
 ·subst e;have e:xs=[]:=ZV.mp (by simpa using l1);subst e;exact q m H _ (Aft.refl R) vb
 ·subst e;have e:ys=[]:=ZV.mp (by simpa using l2);subst e;rw[ZW] at q;exact q m H _ (Aft.refl R) va
theorem BR:OpR X (Vr .Add) (rS X.K jh):=by
 refine OpR.imp (OpR.or Gg (OpR.or rm (OpR.or qW Gz))) λx y H Q h=>?_;obtain⟨m,S,a,b,d,S',R,va,vb,e,q⟩:=h;cases a with
 |int i=>
  cases b with
  |int j=>cases e;exact .inl ⟨i,j,va.ints,vb.ints,q m H _ (Aft.refl R) bc⟩
  |_=>simp[jh] at e
 |tup xs=>
  cases b with
  |tup ys=>
   simp only[jh] at e;split at e
   ·rename_i hl;cases e;exact .inr (.inl ⟨m,S,xs,ys,R,va,vb,hl,q⟩)
   ·cases e
  |_=>simp[jh] at e
 |str i=>
  cases b with
  |str j=>
   simp only[jh] at e;split at e
   ·rename_i hl;cases e;exact .inr (.inr (.inl ⟨i,j,va.strs,vb.strs,by rw[V4];lia,q m H _ (Aft.refl R) nB⟩))
   ·cases e
  |_=>simp[jh] at e
 |ref i=>
  cases b with
  |ref j=>
   simp only[jh,GW] at e;split at e
   ·rename_i xs hx;split at e
    ·rename_i ys hy;split at e
     ·rename_i hl;cases e;obtain⟨a,vs,ha,hH,q1⟩:=R.lst hx;obtain⟨c,ws,hc,hG,q2⟩:=R.lst hy;obtain⟨a',ha',e1⟩:=va.refs;obtain⟨c',hc',e2⟩:=vb.refs;rw[ha] at ha';cases ha';rw[hc] at hc';cases hc';exact .inr (.inr (.inr ⟨a,c,vs,ws,e1,e2,hH,hG,by rw[V4,<-q1.length,<-q2.length];lia,jp R (q1.append q2) q⟩))
     ·cases e
    ·cases e
   ·cases e
  |_=>simp[jh] at e
 |_=>cases b <;> simp[jh] at e
theorem tM(h:VDs K m H ds vs):∀n:Nat,VDs K m H (Zw n ds).flatten (Zw n vs).flatten
 |0=>by rw[Xv,Xv,XV,XV,VDs]
 |n+1=>by rw[Z6,Z6,Yl,Yl];exact h.append (tM h n)
theorem BS:OpR X (Vr .Mult) (rS X.K pR):=by
 refine OpR.imp (OpR.or GA Gi) λx y H Q h=>?_;obtain⟨m,S,a,b,d,S',R,va,vb,e,q⟩:=h;cases a with
 |int i=>
  cases b with
  |int j=>
   simp only[pR] at e;split at e
   ·rename_i hc;cases e;simp only[fX,YH,bAE,decide_eq_true_eq] at hc;exact .inr ⟨i,j,va.ints,vb.ints,hc,q m H _ (Aft.refl R) bc⟩
   ·cases e
  |_=>simp[pR] at e
 |ref n=>
  cases b with
  |int k=>
   simp only[pR] at e;split at e
   ·rename_i xs hx;split at e
    ·rename_i hc;cases e;obtain⟨l,vs,hl,hH,vd⟩:=R.lst hx;obtain⟨l',hl',e1⟩:=va.refs;rw[hl] at hl';cases hl';exact .inl ⟨l,k,vs,e1,vb.ints,hH,by lia,by lia,by rw[V4,<-vd.length];lia,jp R (tM vd k.toNat) q⟩
    ·cases e
   ·cases e
  |_=>simp[pR] at e
 |_=>cases b <;> simp[pR] at e
theorem yc:OpR X (Vr .FloorDiv) (rI (λ_ j=>0 < j/\j < 1298074214633706907132624082305024) λi j=>.int (i / j)):=opI λi j _ _ _ _ _ hc q=>by
 have h1:(0:Int) < j:=hc.1;have h2:j < 1298074214633706907132624082305024:=hc.2
 exact floordiv_int (by lia) (by rw[Int.fdiv_eq_ediv_of_nonneg i (by lia)];exact q) (.inl (PyProof.noPylong_of_log2 (by
  have h0:j.natAbs ≠ 0:=by lia
  have:j.natAbs.log2 < 110:=(Wj h0).mpr (by lia)
  lia)))
theorem BU(o:BOp):OpR X (Vr o.op) (rS X.K (bE o)):=by
 cases o with
 |add=>exact BR
 |sub=>
  refine fG (C:=λ_ _=>True) (g:=λi j=>i - j) (OpR.imp Gh λx y H Q ⟨i,j,a,b,_,q⟩=>⟨i,j,a,b,q⟩) λa b S d S' e=>?_;cases a <;> cases b <;> simp[bE,LA] at e;exact⟨_,_,rfl,rfl,trivial,e.1.symm,e.2.symm⟩
 |mul=>exact BS
 |mod=>
  refine fG Gj λa b S d S' e=>?_;cases a <;> cases b <;> simp[bE,GY] at e;rename_i i j;exact⟨i,j,rfl,rfl,e.1,e.2.1.symm,e.2.2.symm⟩
 |fdiv=>
  refine fG yc λa b S d S' e=>?_;cases a <;> cases b <;> simp[bE,yb] at e;rename_i i j;exact⟨i,j,rfl,rfl,e.1,e.2.1.symm,e.2.2.symm⟩
 |pow=>
  refine fG Gk λa b S d S' e=>?_;cases a <;> cases b <;> simp[bE,GZ] at e;rename_i i j;exact⟨i,j,rfl,rfl,e.1,e.2.1.symm,e.2.2.symm⟩
abbrev vE(p:Int->Int->Bool):D->D->Sto->Option (D × Sto)
 |.int i,.int j,S=>some (.bl (p i j),S)
 |_,_,_=>none
abbrev Fa:D->Bool
 |.non=>true
 |_=>false
abbrev isB(neg:Bool):D->D->Sto->Option (D × Sto)
 |d,.non,S=>some (.bl (neg != Fa d),S)
 |.bl a,.bl b,S=>some (.bl (neg != (a == b)),S)
 |_,_,_=>none
abbrev cb:D->Bool
 |.non=>true |.bl _=>true |.int _=>true |.str _=>true |_=>false
abbrev eqF:D->D->Bool
 |.non,.non=>true
 |.bl a,.bl b=>a == b
 |.bl a,.int b=>(if a then 1 else 0) == b
 |.int a,.bl b=>a == (if b then 1 else 0)
 |.int a,.int b=>a == b
 |.str a,.str b=>a == b
 |_,_=>false
abbrev inF(x:D)(ds:List D):Bool:=ds.any λy=>eqF y x
abbrev inD(x:D)(ds:List D)(S:Sto):Option Bool:=if (ds.all λy=>(eqD 58 S y x).isSome)=true then some (ds.any λy=>eqD 58 S y x == some true) else none
abbrev inS(neg:Bool)(x y:D)(S:Sto):Option (D × Sto):=match ay y S with
 |some (_,ds)=>if cb x=true/\ds.all cb=true then some (.bl (neg != inF x ds),S) else (inD x ds S).map λb=>(.bl (neg != b),S)
 |none=>inK neg x y S
inductive COp where |eq |ne |lt |le |gt |ge |is |isnot |isin |notin
abbrev am:COp->D->D->Sto->Option (D × Sto)
 |.eq=>eqS |.ne=>neS
 |.lt=>vE λi j=>decide (i < j) |.le=>vE λi j=>decide (i<=j) |.gt=>vE λi j=>decide (j < i) |.ge=>vE λi j=>decide (j<=i)
 |.is=>isB false |.isnot=>isB true |.isin=>inS false |.notin=>inS true
abbrev COp.op:COp->CmpOp
 |.eq=>.Eq |.ne=>.NotEq |.lt=>.Lt |.le=>.LtE |.gt=>.Gt |.ge=>.GtE |.is=>.Is |.isnot=>.IsNot |.isin=>.In |.notin=>.NotIn
theorem dI(ho:OpR X (VA op) (rI0 λi j=>.bl (p i j))):OpR X (VA op) (rS X.K (vE p)):=by
 refine OpR.imp ho λx y H Q h=>?_;obtain⟨m,S,a,b,d,S',R,va,vb,e,q⟩:=h;cases a <;> cases b <;> simp[vE] at e;obtain⟨rfl,rfl⟩:=e;exact⟨_,_,va.ints,vb.ints,q m H _ (Aft.refl R) bC⟩
theorem jr(h:VD K m H x v)(f:cb x=true):dj v=true:=by
 cases x <;> simp[cb] at f
 ·cases h.nons;rfl
 ·cases h.bls;rfl
 ·cases h.ints;rfl
 ·cases h.strs;rfl
theorem yd(h:VD K m H x v)(f:cb x=true)(h':VD K m H y w)(f':cb y=true):eqV v w=eqF x y:=by
 cases x <;> simp[cb] at f <;> cases y <;> simp[cb] at f' <;> simp[VD] at h h' <;> subst h <;> subst h' <;> rfl
theorem gX:∀ {ds:List D} {vs:List V},VDs K m H ds vs->ds.all cb=true->vs.all dj=true
 |[],vs,h,_=>by rw[VDs] at h;rw[h];rfl
 |d::ds,vs,h,f=>by
  rw[VDs] at h;obtain⟨x,r,rfl,p,q⟩:=h;rw[Ye,bAE] at f;rw[Ye,jr p f.1,gX q f.2];rfl
theorem rp(h:VD K m H x v)(f:cb x=true):∀ {ds:List D} {vs:List V},VDs K m H ds vs->ds.all cb=true->inV v vs=inF x ds
 |[],vs,h,_=>by rw[VDs] at h;rw[h];rfl
 |d::ds,vs,h',f'=>by
  rw[VDs] at h';obtain⟨y,r,rfl,p,q⟩:=h';rw[Ye,bAE] at f';have ih:=rp h f q f'.2;unfold inV inF at ih ⊢;rw[Yy,Yy,yd p f'.1 h f,ih]
theorem mw(h:VD K m H x v)(f:cb x=true):∀ {ds:List D} {vs:List V},VDs K m H ds vs->ds.all cb=true->(vs.countP λz=>eqV z v)=ds.countP λz=>eqF z x
 |[],vs,h,_=>by rw[VDs] at h;rw[h];rfl
 |d::ds,vs,h',f'=>by
  rw[VDs] at h';obtain⟨y,r,rfl,p,q⟩:=h';rw[Ye,bAE] at f';rw[YO,YO,yd p f'.1 h f,mw h f q f'.2]
theorem iw(h:SqB K tu H a vs):SqL K H a vs\/SqT K H a vs:=by
 cases tu with
 |false=>exact .inl h
 |true=>exact .inr (.of h)
theorem nQ(I:Inv X pins σ H s)(R:Rel X.K m S H)(vx:VD X.K m H x v)(rx:aB v u)(hu:A.units+58 < cLine)(vd:VDs X.K m H ds vs)(r:aP vs its)(h:inD x ds S=some b) :
  ∃e:Value->Bool,(∀w ∈ its,WZ A s w u (e w))/\its.any e=b:=by
 unfold inD at h;split at h
 ·rename_i hs;cases h;rw[Yg] at hs
  have at_:∀ (i:Nat) w,its[i]?=some w->∃y v',ds[i]?=some y/\VD X.K m H y v'/\aB v' w:=λi w hw=>by
   have hi:=(Zb.mp hw).1;obtain⟨y,v',e1,e2,e3⟩:=nG vd r (j:=i) (by simpa using hi);refine⟨y,v',e1,e2,?_⟩
   have:its.toArray[i]=w:=by
    have:=(Zb.mp hw).2
    simpa using this
   rw[<-this];exact e3
  refine⟨λw=>@decide (∃ (i:Nat) (y:D),ds[i]?=some y/\its[i]?=some w/\eqD 58 S y x=some true) (Classical.propDecidable _),λw hw=>?_,?_⟩
  ·obtain⟨i,hi⟩:=YA hw;dsimp only;by_cases hq:∃ (i:Nat) (y:D),ds[i]?=some y/\its[i]?=some w/\eqD 58 S y x=some true
   ·rw[@decide_eq_true _ (Classical.propDecidable _) hq];obtain⟨j,y,e1,e2,e3⟩:=hq;obtain⟨y',v',f1,f2,f3⟩:=at_ j w e2;rw[e1] at f1;cases f1;exact nI I R 58 A y x v' v w u true f2 vx f3 rx e3 hu
   ·rw[@decide_eq_false _ (Classical.propDecidable _) hq];obtain⟨y,v',f1,f2,f3⟩:=at_ i w hi;obtain⟨c,hc⟩:=Z2.mp (hs y (Ze f1));cases c with
    |true=>exact absurd ⟨i,y,f1,hi,hc⟩ hq
    |false=>exact nI I R 58 A y x v' v w u false f2 vx f3 rx hc hu
  ·rw[YT,Y9,Y9];constructor
   ·rintro⟨w,_,hw⟩;obtain⟨i,y,e1,_,e3⟩:=@of_decide_eq_true _ (Classical.propDecidable _) hw;exact⟨y,Ze e1,by rw[e3];rfl⟩
   ·rintro⟨y,hy,e⟩;obtain⟨i,hi⟩:=YA hy;obtain⟨v',hv,_⟩:=vd.get hi;obtain⟨w,hw,_⟩:=r.get hv;exact⟨w,Ze hw,@decide_eq_true _ (Classical.propDecidable _) ⟨i,y,hi,hw,by simpa using e⟩⟩
 ·cases h
theorem G0(hu:X.A.units+64 < cLine):OpR X (VA .In) (rS X.K (inS false)):=by
 intro pins s σ H x y v u Q I rx ry h;obtain⟨m,S,a,b,d,S',R,va,vb,e,q⟩:=h;unfold inS at e;split at e
 ·rename_i tu ds hi;obtain⟨p,vs,rfl,sq,vds⟩:=eV R vb hi;split at e
  ·rename_i hf;cases e;refine uZ pins s σ H x _ v u Q I rx ry ⟨p,vs,rfl,iw sq,jr va hf.1,gX vds hf.2,q m H _ (Aft.refl R) ?_⟩;rw[if_neg (by decide),rp va hf.1 vds hf.2]
   simpa using bC
  ·cases hd:inD a ds S with
   |none=>rw[hd] at e;cases e
   |some c=>
    rw[hd] at e;cases e;cases ry;have ha:X.A.in1.units+58 < cLine:=by show X.A.units+1+58 < cLine;lia
    rcases iw sq with hq |hq
    ·obtain⟨its,r,pl,hz⟩:=I.list hq;obtain⟨e,he,hb⟩:=nQ I R va rx ha vds r hd;refine W2 e pl.isList (λw hw=>he w (by simpa using hw)) ⟨.bl _,H,I,rfl,?_⟩;rw[show its.toArray.any e=its.any e by simp,hb];exact q m H _ (Aft.refl R) (by simpa using bC)
    ·obtain⟨its,r,pl,hz⟩:=I.tuple hq;obtain⟨e,he,hb⟩:=nQ I R va rx ha vds r hd;refine W3 e pl (λw hw=>he w (by simpa using hw)) ⟨.bl _,H,I,rfl,?_⟩;rw[show its.toArray.any e=its.any e by simp,hb];exact q m H _ (Aft.refl R) (by simpa using bC)
 ·obtain⟨k,n,kss,ds,hk,rfl,hn,rfl,rfl⟩:=pQ e;obtain⟨a,b,rfl,rfl,o,g,ho,_⟩:=nM (y:=.ref n) R hk hn va vb;cases ry;refine Od (show X.A.units+2 < cLine by lia) I g rx λs' I'=>⟨.bl _,H,I',rfl,?_⟩;rw[ho];exact q m H _ (Aft.refl R) (by simpa using bC)
theorem vF(hu:X.A.units+64 < cLine):OpR X (VA .NotIn) (rS X.K (inS true)):=by
 intro pins s σ H x y v u Q I rx ry h;obtain⟨m,S,a,b,d,S',R,va,vb,e,q⟩:=h;unfold inS at e;split at e
 ·rename_i tu ds hi;obtain⟨p,vs,rfl,sq,vds⟩:=eV R vb hi;split at e
  ·rename_i hf;cases e;refine np pins s σ H x _ v u Q I rx ry ⟨p,vs,rfl,iw sq,jr va hf.1,gX vds hf.2,q m H _ (Aft.refl R) ?_⟩;rw[if_pos rfl,rp va hf.1 vds hf.2]
   simpa using bC
  ·cases hd:inD a ds S with
   |none=>rw[hd] at e;cases e
   |some c=>
    rw[hd] at e;cases e;cases ry;have ha:X.A.in1.units+58 < cLine:=by show X.A.units+1+58 < cLine;lia
    rcases iw sq with hq |hq
    ·obtain⟨its,r,pl,hz⟩:=I.list hq;obtain⟨e,he,hb⟩:=nQ I R va rx ha vds r hd;refine W4 e pl.isList (λw hw=>he w (by simpa using hw)) ⟨.bl _,H,I,rfl,?_⟩;rw[show its.toArray.any e=its.any e by simp,hb];exact q m H _ (Aft.refl R) (by simpa using bC)
    ·obtain⟨its,r,pl,hz⟩:=I.tuple hq;obtain⟨e,he,hb⟩:=nQ I R va rx ha vds r hd;refine W5 e pl (λw hw=>he w (by simpa using hw)) ⟨.bl _,H,I,rfl,?_⟩;rw[show its.toArray.any e=its.any e by simp,hb];exact q m H _ (Aft.refl R) (by simpa using bC)
 ·obtain⟨k,n,kss,ds,hk,rfl,hn,rfl,rfl⟩:=pQ e;obtain⟨a,b,rfl,rfl,o,g,ho,_⟩:=nM (y:=.ref n) R hk hn va vb;cases ry;refine BE (show X.A.units+2 < cLine by lia) I g rx λs' I'=>⟨.bl _,H,I',rfl,?_⟩;rw[ho];exact q m H _ (Aft.refl R) (by simpa using bC)
theorem ye(h:VD K m H d v):decide (v=V.non)=Fa d:=by
 cases d with
 |non=>cases h.nons;rfl
 |bl _=>cases h.bls;rfl
 |int _=>cases h.ints;rfl
 |str _=>cases h.strs;rfl
 |tup _=>obtain⟨_,_,e,_⟩:=h.tups;subst e;rfl
 |ref _=>obtain⟨_,_,e⟩:=h.refs;subst e;rfl
theorem G1:OpR X (VA .Is) (rS X.K (isB false)):=by
 refine OpR.imp (OpR.or Gm GD) λx y H Q h=>?_;obtain⟨m,S,a,b,d,S',R,va,vb,e,q⟩:=h;cases b with
 |non=>
  simp[isB] at e;obtain⟨rfl,rfl⟩:=e;exact .inl ⟨vb.nons,q m H _ (Aft.refl R) (by rw[ye va];exact bC)⟩
 |bl j=>
  cases a with
  |bl i=>
   simp[isB] at e;obtain⟨rfl,rfl⟩:=e;exact .inr ⟨i,j,va.bls,vb.bls,q m H _ (Aft.refl R) bC⟩
  |_=>simp[isB] at e
 |_=>cases a <;> simp[isB] at e
theorem vG:OpR X (VA .IsNot) (rS X.K (isB true)):=by
 refine OpR.imp (OpR.or Bc vn) λx y H Q h=>?_;obtain⟨m,S,a,b,d,S',R,va,vb,e,q⟩:=h;cases b with
 |non=>
  simp[isB] at e;obtain⟨rfl,rfl⟩:=e;exact .inl ⟨vb.nons,q m H _ (Aft.refl R) (by rw[ye va];exact bC)⟩
 |bl j=>
  cases a with
  |bl i=>
   simp[isB] at e;obtain⟨rfl,rfl⟩:=e;exact .inr ⟨i,j,va.bls,vb.bls,q m H _ (Aft.refl R) (by simpa[bne] using bC)⟩
  |_=>simp[isB] at e
 |_=>cases a <;> simp[isB] at e
theorem fH(hu:X.A.units+64 < cLine)(o:COp):OpR X (VA o.op) (rS X.K (am o)):=by
 cases o with
 |eq=>exact GU hu
 |ne=>exact GV hu
 |lt=>exact dI La
 |le=>exact dI Lb
 |gt=>exact dI Lc
 |ge=>exact dI Lg
 |is=>exact G1
 |isnot=>exact vG
 |isin=>exact G0 hu
 |notin=>exact vF hu
end
section
variable {X:Cx} {K:W7} {m:List Addr} {H:Hp} {S:Sto}
abbrev ixS(d i:D)(S:Sto):Option (D × Sto):=match i with
 | .int k=>(match d with
  |.str z=>if z.length<=100000 then (atI z.cps.toList k).map λc=>(.str ⟨#[c]⟩,S) else none
  | d=>(match ay d S with
   |some (_,ds)=>(atI ds k).map λx=>(x,S)
   | none=>none))
 |i=>ixK d i S
theorem G2{k:Int}(h:VDs K m H ds vs)(e:atI ds k=some d):∃v,atI vs k=some v/\VD K m H d v:=by
 unfold atI at e ⊢;rw[<-h.length];cases hi:ixN ds.length k with
 |none=>rw[hi] at e;cases e
 |some j=>
  rw[hi] at e;exact h.get e
theorem yf{k:Int}(sq:SqB K tu H a vs)(vd:VDs K m H ds vs)(e:atI ds k=some d)(q:∀v,VD K m H d v->Q v H):rIx K (.ref a) (.int k) H Q:=by
 obtain⟨v,ev,vv⟩:=G2 vd e;cases tu with
 |false=>exact .inl ⟨a,vs,k,v,rfl,rfl,sq,ev,q v vv⟩
 |true=>exact .inr (.inl ⟨a,vs,k,v,rfl,rfl,.of sq,ev,q v vv⟩)
theorem Oe(hu:X.A.units+64 < cLine):IxR X (rS X.K ixS):=by
 intro value slice pins s σ H x y v u Q I rx ry h hs;obtain⟨m,S,a,b,d,S',R,va,vb,e,q⟩:=h
 have dict:ixK a b S=some (d,S')->wpAny (model X.prog X.w) X.A (subscriptTail value slice v u) (EP X pins σ Q) X.xe s:=λe=>by
  obtain⟨k,n,kss,ds,hk,rfl,hn,hd,rfl⟩:=x8 e;obtain⟨a',b',rfl,rfl,o,g,ho,hv⟩:=nM (y:=.ref n) R hk hn vb va;obtain⟨w,rfl,vw⟩:=hv d hd;cases rx;cases ry;exact tail_any (pw I g) PySem.F.slot_dict_getitem.lookup (vq (show X.A.units+2 < cLine by lia) I g rfl λw' s' I' rw'=>⟨w,H,I',rw',q m H _ (Aft.refl R) vw⟩) hs
 cases b with
 |int k=>
  refine xv value slice pins s σ H x y v u Q I rx ry ?_ hs;cases vb.ints
  have main:∀r,ay a S=some r->(atI r.2 k).map (λx=>(x,S))=some (d,S')->rIx X.K x (.int k) H Q:=by
   intro r hi e;cases ha:atI r.2 k with
   |none=>rw[ha] at e;cases e
   |some z=>
    rw[ha] at e;cases e;obtain⟨p,vs,rfl,sq,vds⟩:=eV (tu:=r.1) (ds:=r.2) R va hi;exact yf sq vds ha λv vv=>q m H v (Aft.refl R) vv
  cases a with
  |str z=>
   simp only[ixS] at e;split at e
   ·rename_i hl;cases hc:atI z.cps.toList k with
    |none=>rw[hc] at e;cases e
    |some c=>
     rw[hc] at e;cases e;exact .inr (.inr ⟨z,k,c,va.strs,rfl,by rw[V4];lia,hc,q m H _ (Aft.refl R) nB⟩)
   ·cases e
  |tup ds=>exact main (true,ds) rfl e
  |ref n=>
   simp only[ixS] at e;cases hi:ay (.ref n) S with
   |none=>rw[hi] at e;cases e
   |some r=>rw[hi] at e;exact main r hi e
  |_=>simp[ixS,ay] at e
 |_=>exact dict e
abbrev rq(x:XA)(y:XE):XE:=λρ S=>bnd (x ρ S) λds S1=>bnd (y ρ S1) λi S2=>match i with
 |.int k=>(atI ds k).map λd=>(d,S2)
 |_=>none
theorem G3(h:tE K (rq x y) σ H Q):tOp (rIx K) (gm K x) (tE K y) σ H Q:=by
 obtain⟨m,ρ,S,d,S',E,R,e,q⟩:=h;obtain⟨ds,S1,e1,e⟩:=ab e;obtain⟨i,S2,e2,e⟩:=ab e;refine⟨m,ρ,S,ds,S1,E,R,e1,λm1 H1 a vs A1 sq n1 n2 n3 vd=>⟨m1,ρ,S1,i,S2,E.mono R A1.ext,A1.rel,e2,λm2 H2 w A2 vb=>?_⟩⟩;cases i with
 |int k=>
  cases vb.ints;dsimp only at e;cases ha:atI ds k with
  |none=>rw[ha] at e;cases e
  |some z=>
   rw[ha] at e;cases e;exact yf (tu:=false) (show SqL K H2 a vs from SqL.of (A2.ext.keep _ _ sq n1)) (vd.mono A1.rel A2.ext) ha λv vv=>q m2 H2 v (A1.trans A2) vv
 |_=>cases e
abbrev gk(ds:List D)(lo hi:Option Int):List D:=(ds.drop (HT.sIx ds.length 0 lo)).take (HT.sIx ds.length ds.length hi - HT.sIx ds.length 0 lo)
theorem rA(h:VDs K m H ds vs)(lo hi:Option Int):VDs K m H (gk ds lo hi) (jM vs lo hi):=by
 unfold gk jM;rw[<-h.length];exact(h.drop _).take _
abbrev slS(lo hi:Option Int)(d:D)(S:Sto):Option (D × Sto):=match d with
 |.tup ds=>some (.tup (gk ds lo hi),S)
 | .ref n=>(match ak S n with
  |some ds=>some (.ref S.length,S++[.lst (gk ds lo hi)])
  | none=>none)
 |_=>none
def rSl(K:W7):V->Option Int->Option Int->Hp->VK->Prop:=λv lo hi H Q=>∃m S a d S',Rel K m S H/\VD K m H a v/\slS lo hi a S=some (d,S')/\∀m' H' u,Aft K m H S' m' H'->VD K m' H' d u->Q u H'
theorem rB{vs:List V}{lo hi:Option Int}(h:HT.sIx vs.length 0 lo=0/\HT.sIx vs.length vs.length hi=vs.length):jM vs lo hi=vs:=by
 unfold jM;rw[h.1,h.2];simp
theorem Og:SlR X (rSl X.K):=by
 intro pins s σ H x v vl vu lo hi sl Q I rx hs pl pu h;refine(SlR.or BD Bn) pins s σ H x v vl vu lo hi sl Q I rx hs pl pu ?_;obtain⟨m,S,a,d,S',R,va,e,q⟩:=h;cases a with
 |tup ds=>
  cases e;obtain⟨p,vs,rfl,sq,vds⟩:=va.tups;refine .inl ⟨p,vs,rfl,.of sq,λhw=>?_,λ_=>gW R (rA vds lo hi) q⟩;have:=rA vds lo hi;rw[rB hw] at this;exact q m H _ (Aft.refl R) (nD sq this)
 |ref n=>
  simp only[slS] at e;cases hn:ak S n with
  |none=>rw[hn] at e;cases e
  |some ds=>
   rw[hn] at e;cases e;obtain⟨p,vs,hp,sq,vds⟩:=R.seq hn;obtain⟨p',hp',rfl⟩:=va.refs;rw[hp] at hp';cases hp';exact .inr ⟨p,vs,rfl,sq,jp R (rA vds lo hi) q⟩
 |_=>cases e
@[inline]abbrev XO:=Rho->Sto->Option (Option Int × Sto)
def tOI(K:W7)(x:XO):TO:=λσ H Q=>∃m ρ S o S',EnvR K m H ρ σ/\Rel K m S H/\x ρ S=some (o,S')/\∀m' H',Aft K m H S' m' H'->Q o H'
abbrev rC:XO:=λ_ S=>some (none,S)
abbrev rD(x:XE):XO:=λρ S=>bnd (x ρ S) λd S1=>match d with
 |.int i=>some (some i,S1)
 |_=>none
theorem BV(h:tOI K rC σ H Q):sY σ H Q:=by
 obtain⟨m,ρ,S,o,S',E,R,e,q⟩:=h;cases e;exact q m H (Aft.refl R)
theorem BW(h:tOI K (rD x) σ H Q):EZ (tE K x) σ H Q:=by
 obtain⟨m,ρ,S,o,S',E,R,e,q⟩:=h;obtain⟨d,S1,e1,e⟩:=ab e;refine⟨m,ρ,S,d,S1,E,R,e1,λm1 H1 v A1 vd=>?_⟩;cases d with
 |int i=>cases e;exact⟨i,vd.ints,q m1 H1 A1⟩
 |_=>cases e
theorem PO.imp(h:PO X e t)(f:∀σ H Q,t' σ H Q->t σ H Q):PO X e t':=λpins s σ H Q I q=>h pins s σ H Q I (f σ H Q q)
abbrev xSl(x:XE)(lo hi:XO):XE:=λρ S=>bnd (x ρ S) λd S1=>bnd (lo ρ S1) λl S2=>bnd (hi ρ S2) λh S3=>slS l h d S3
theorem LB{x:XE}{lo hi:XO}{σ:L2.St}{H:Hp}{Q:VK}(h:tE K (xSl x lo hi) σ H Q):tSl (rSl K) (tE K x) (tOI K lo) (tOI K hi) σ H Q:=by
 obtain⟨m,ρ,S,d,S',E,R,e,q⟩:=h;obtain⟨a,S1,e1,e⟩:=ab e;obtain⟨l,S2,e2,e⟩:=ab e;obtain⟨u,S3,e3,e⟩:=ab e;refine⟨m,ρ,S,a,S1,E,R,e1,λm1 H1 v A1 vd=>⟨m1,ρ,S1,l,S2,E.mono R A1.ext,A1.rel,e2,λm2 H2 A2=>⟨m2,ρ,S2,u,S3,E.mono R (A1.trans A2).ext,A2.rel,e3,λm3 H3 A3=>?_⟩⟩⟩;exact⟨m3,S3,a,d,S',A3.rel,vd.mono A1.rel (A2.trans A3).ext,e,λm4 H4 w A4 vw=>q m4 H4 w (((A1.trans A2).trans A3).trans A4) vw⟩
abbrev j6(d:D)(S:Sto):Option (Bool × Sto):=match d with
 |.non=>some (false,S)
 |.bl b=>some (b,S)
 |.int i=>some (i != 0,S)
 |.str y=>if y.length<=100000 then some ((y.length:Int) != 0,S) else none
 |.tup ds=>some (!ds.isEmpty,S)
 | .ref n=>(match ak S n with
  |some ds=>some (!ds.isEmpty,S)
  | none=>none)
theorem j7(h:VDs K m H ds vs):ds.isEmpty=vs.isEmpty:=by
 have:=h.length;cases ds <;> cases vs <;> simp at this ⊢
theorem G4(R:Rel K m S H)(vd:VD K m H d v)(e:j6 d S=some (b,S')):S'=S/\Bg K v H b:=by
 cases d with
 |non=>cases e;cases vd.nons;exact⟨rfl,rfl⟩
 |bl _=>cases e;cases vd.bls;exact⟨rfl,rfl⟩
 |int _=>cases e;cases vd.ints;exact⟨rfl,rfl⟩
 |str y=>
  simp only[j6] at e;split at e
  ·rename_i hl;cases e;cases vd.strs;exact⟨rfl,by rw[V4];lia,rfl⟩
  ·cases e
 |tup ds=>
  cases e;obtain⟨a,vs,rfl,sq,vds⟩:=vd.tups;exact⟨rfl,.inr (.inl ⟨vs,.of sq,by rw[j7 vds]⟩)⟩
 |ref n=>
  simp only[j6] at e;cases hn:ak S n with
  |none=>rw[hn] at e;cases e
  |some ds=>
   rw[hn] at e;cases e;obtain⟨p,vs,hp,sq,vds⟩:=R.seq hn;obtain⟨p',hp',rfl⟩:=vd.refs;rw[hp] at hp';cases hp';exact⟨rfl,.inl ⟨vs,sq,by rw[j7 vds]⟩⟩
abbrev BX(x:XE):XT:=λρ S=>bnd (x ρ S) λd S1=>j6 d S1
theorem G5(h:tT K (BX x) σ H Q):(tE K x) σ H λv H'=>∃k,Bg K v H' k/\Q k H':=by
 obtain⟨m,ρ,S,b,S',E,R,e,q⟩:=h;obtain⟨d,S1,e1,e⟩:=ab e;refine⟨m,ρ,S,d,S1,E,R,e1,λm1 H1 v A1 vd=>?_⟩;obtain⟨rfl,t⟩:=G4 A1.rel vd e;exact⟨b,t,q m1 H1 A1⟩
abbrev xB(x:XE):XT:=λρ S=>bnd (x ρ S) λd S1=>match d with
 |.bl b=>some (b,S1)
 |_=>none
theorem LC(h:tT K (xB x) σ H Q):(tE K x) σ H λv H'=>∃k,v = .bl k/\Q k H':=by
 obtain⟨m,ρ,S,b,S',E,R,e,q⟩:=h;obtain⟨d,S1,e1,e⟩:=ab e;refine⟨m,ρ,S,d,S1,E,R,e1,λm1 H1 v A1 vd=>?_⟩;cases d with
 |bl k=>cases e;exact⟨b,vd.bls,q m1 H1 A1⟩
 |_=>cases e
abbrev cB(_:Bool)(ds:List D)(S:Sto):Option (D × Sto):=some (.int ds.length,S)
abbrev cL(_:Bool)(ds:List D)(S:Sto):Option (D × Sto):=some (.tup ds,S)
abbrev yg:D->Bool
 |.bl _=>true
 |_=>false
abbrev vH:D->Bool
 |.bl b=>b
 |_=>false
abbrev ji(tu:Bool)(ds:List D)(S:Sto):Option (D × Sto):=if tu=false/\ds.all yg=true then some (.bl (ds.all vH),S) else none
def r1(r:V->Hp->VK->Prop):List V->Hp->VK->Prop
 |[x],H,Q=>r x H Q
 |_,_,_=>False
theorem cp(h:r1 r xs H Q):∃x,xs=[x]/\r x H Q:=by
 match xs,h with
 |[x],h=>exact⟨x,rfl,h⟩
theorem vI:aV X (.builtin "len") (r1 (rSq X.K cB)):=by
 refine aV.imp nq λxs H Q h=>?_;obtain⟨_,rfl,m,S,tu,ds,a,vs,d,S',R,rfl,sq,vd,e,q⟩:=cp h;cases e;exact⟨a,vs,rfl,iw sq,q m H _ (Aft.refl R) (by rw[vd.length];exact bc)⟩
theorem vJ:aV X (.type "tuple") (r1 (rSq X.K cL)):=by
 refine aV.imp ly λxs H Q h=>?_;obtain⟨_,rfl,m,S,tu,ds,a,vs,d,S',R,rfl,sq,vd,e,q⟩:=cp h;cases e;cases tu with
 |false=>exact⟨a,vs,rfl,.inl ⟨sq,gW R vd q⟩⟩
 |true=>exact⟨a,vs,rfl,.inr ⟨.of sq,q m H _ (Aft.refl R) (nD sq vd)⟩⟩
theorem yh:∀ {ds:List D} {vs:List V},VDs K m H ds vs->ds.all yg=true->vs=(ds.map vH).map V.bl
 |[],vs,h,_=>by rw[VDs] at h;rw[h];rfl
 |d::ds,vs,h,f=>by
  rw[VDs] at h;obtain⟨x,r,rfl,p,q⟩:=h;rw[Ye,bAE] at f;cases d with
  |bl b=>rw[p.bls,yh q f.2];rfl
  |_=>simp[yg] at f
theorem G6(ds:List D):(ds.map vH).all id=ds.all vH:=by rw[YW];rfl
theorem vK(hc:X.calm=true):aV X (.builtin "all") (r1 (rSq X.K ji)):=by
 refine aV.imp (vm hc) λxs H Q h=>?_;obtain⟨_,rfl,m,S,tu,ds,a,vs,d,S',R,rfl,sq,vd,e,q⟩:=cp h;unfold ji at e;split at e
 ·rename_i hf;cases e;obtain⟨rfl,hf⟩:=hf;refine⟨a,ds.map vH,rfl,?_,q m H _ (Aft.refl R) (by rw[G6];exact bC)⟩;rw[<-yh vd hf];exact sq
 ·cases e
def rTm(K:W7)(f:Bool->List D->Option (List D)):V->Hp->VK->Prop:=λv H Q=>∃m S tu ds a vs es,Rel K m S H/\v = .ref a/\SqB K tu H a vs/\VDs K m H ds vs/\f tu ds=some es ∧
 ∀m' H' p ws,Aft K m H S m' H'->H' p=some (.lst ws)->p ∉ m'->(∀b,b ∈ m->b ≠ p)->H p=none->VDs K m' H' es ws->Q (.ref p) H'
abbrev yi:D->D->Sto->Option (D × Sto)
 |.int i,.int j,S=>some (.int (if j > i then j else i),S)
 |_,_,_=>none
abbrev yj:D->D->Sto->Option (D × Sto)
 |.int i,.int j,S=>some (.int (if j < i then j else i),S)
 |_,_,_=>none
abbrev two(f:D->D->Sto->Option (D × Sto)):List D->Sto->Option (D × Sto)
 |[a,b],S=>f a b S
 |_,_=>none
theorem pS(h:VDs K m H [a,b] vs):∃v w,vs=[v,w]/\VD K m H a v/\VD K m H b w:=by
 rw[VDs] at h;obtain⟨v,r,rfl,p,q⟩:=h;rw[VDs] at q;obtain⟨w,r',rfl,p',q'⟩:=q;rw[VDs] at q';subst q';exact⟨v,w,rfl,p,p'⟩
theorem BZ(h:VDs K m H [a] vs):∃v,vs=[v]/\VD K m H a v:=by
 rw[VDs] at h;obtain⟨v,r,rfl,p,q⟩:=h;rw[VDs] at q;subst q;exact⟨v,rfl,p⟩
theorem pT(h:two f as S=some r):∃a b,as=[a,b]/\f a b S=some r:=by
 match as,h with
 |[a,b],h=>exact⟨a,b,rfl,h⟩
theorem rE(hc:X.calm=true):aV X (.builtin "max") (rSA X.K (two yi)):=by
 refine aV.imp (uU hc) λxs H Q h=>?_;obtain⟨m,S,as,d,S',R,vd,e,q⟩:=h;obtain⟨a,b,rfl,e2⟩:=pT e;obtain⟨v,w,rfl,p,p'⟩:=pS vd;cases a <;> cases b <;> simp[yi] at e2;obtain⟨rfl,rfl⟩:=e2;exact⟨_,_,by rw[p.ints,p'.ints],q m H _ (Aft.refl R) bc⟩
theorem rF(hc:X.calm=true):aV X (.builtin "min") (rSA X.K (two yj)):=by
 refine aV.imp (uV hc) λxs H Q h=>?_;obtain⟨m,S,as,d,S',R,vd,e,q⟩:=h;obtain⟨a,b,rfl,e2⟩:=pT e;obtain⟨v,w,rfl,p,p'⟩:=pS vd;cases a <;> cases b <;> simp[yj] at e2;obtain⟨rfl,rfl⟩:=e2;exact⟨_,_,by rw[p.ints,p'.ints],q m H _ (Aft.refl R) bc⟩
inductive Ty where |int |bool |tuple |list |str
abbrev Ty.nm:Ty->String
 |.int => "int" |.bool => "bool" |.tuple => "tuple" |.list => "list" |.str => "str"
abbrev tyN(d:D)(S:Sto):Option String:=match d with
 |.non=>some "NoneType" |.bl _=>some "bool" |.int _=>some "int" |.str _=>some "str" |.tup _=>some "tuple"
 | .ref n=>(match S[n]? with
  |some (.lst _)=>some "list"
  |some (.frz _)=>some "list"
  |some (.dic _ _)=>some "dict"
  | none=>none)
abbrev eX(t:Ty)(n:String):Bool:=n == t.nm || (match t with |.int=>n == "bool" |_=>false)
abbrev j8(t:Ty)(d:D)(S:Sto):Option (D × Sto):=(tyN d S).map λn=>(.bl (eX t n),S)
theorem B0(K:W7)(t:Ty):(Vg K (.type "NoneType") (.type t.nm)=some (eX t "NoneType"))/\(Vg K (.type "bool") (.type t.nm)=some (eX t "bool"))/\(Vg K (.type "int") (.type t.nm)=some (eX t "int")) ∧
  (Vg K (.type "str") (.type t.nm)=some (eX t "str"))/\(Vg K (.type "tuple") (.type t.nm)=some (eX t "tuple"))/\(Vg K (.type "list") (.type t.nm)=some (eX t "list"))/\(Vg K (.type "dict") (.type t.nm)=some (eX t "dict")):=by
 cases t <;> exact⟨by kernel_rfl,by kernel_rfl,by kernel_rfl,by kernel_rfl,by kernel_rfl,by kernel_rfl,by kernel_rfl⟩
theorem LG(R:Rel K m S H)(vd:VD K m H d v)(e:tyN d S=some n):TyOf K H v (.type n):=by
 cases d with
 |non=>cases e;cases vd.nons;exact .non
 |bl _=>cases e;cases vd.bls;exact .bl _
 |int _=>cases e;cases vd.ints;exact .int _
 |str _=>cases e;cases vd.strs;exact .str _
 |tup ds=>cases e;obtain⟨a,vs,rfl,sq,_⟩:=vd.tups;exact .tup sq
 |ref k=>
  simp only[tyN] at e;obtain⟨a,ha,rfl⟩:=vd.refs;cases hk:S[k]? with
  |none=>rw[hk] at e;cases e
  |some o=>
   rw[hk] at e;obtain⟨a',ha',r⟩:=R.ob k o hk;rw[ha] at ha';cases ha';cases o with
   |lst ds=>cases e;obtain⟨vs,h,_⟩:=r;exact .lst h
   |frz ds=>cases e;obtain⟨o,vs,h,_⟩:=r;exact .frz h
   |dic ks ds=>cases e;obtain⟨vs,h,_⟩:=r;exact .dT h
theorem yk(e:tyN d S=some n):n = "NoneType"\/n = "bool"\/n = "int"\/n = "str"\/n = "tuple"\/n = "list"\/n = "dict" := by
 cases d with
 |ref k=>
  simp only[tyN] at e;cases hk:S[k]? with
  |none=>rw[hk] at e;cases e
  |some o=>rw[hk] at e;cases o <;> cases e <;> simp
 |_=>cases e <;> simp
theorem G7(K:W7)(t:Ty)(h:n = "NoneType"\/n = "bool"\/n = "int"\/n = "str"\/n = "tuple"\/n = "list"\/n = "dict"):Vg K (.type n) (.type t.nm)=some (eX t n):=by
 obtain⟨a,b,c,d,e,f,g⟩:=B0 K t;rcases h with rfl |rfl |rfl |rfl |rfl |rfl |rfl <;> assumption
def LH(K:W7)(t:Ty)(te:TE):TE:=tCB (E9 K) (bR te (bR (tC (.ty t.nm)) ij))
theorem B1(h:tE K (xUn (j8 t) x) σ H Q):LH K t (tE K x) σ H Q:=by
 obtain⟨m,ρ,S,d,S',E,R,e,q⟩:=h;obtain⟨a,S1,e1,e⟩:=ab e;refine⟨m,ρ,S,a,S1,E,R,e1,λm1 H1 v A1 va=>?_⟩;unfold j8 at e;cases hn:tyN a S1 with
 |none=>rw[hn] at e;cases e
 |some n=>
  rw[hn] at e;cases e;exact⟨v,t.nm,_,_,rfl,LG A1.rel va hn,G7 K t (yk hn),q m1 H1 _ A1 bC⟩
end
end Ev
namespace HT
open PySem PySem.Spec PyProof.Rows
section
variable {prog:Program} {w:World} {A:Around} {E:Value->Shared->Prop} {s:Shared}
theorem iy{sl:Addr}{n:Nat}{tk:Tok}{Q:Int × Int × Nat->Shared->Prop}(hs:s.heap.IsSliceOf sl .none .none (.int (-1) tk))
  (h:Q ((n:Int) - 1,-1,n) s):wpAny (model prog w) A (Builtin.Slice.sliceApplied (.ref sl) (pure (n:Int))) Q E s:=by
 obtain⟨os,hos,hcs,hds⟩:=id hs;unfold Builtin.Slice.sliceApplied Builtin.Slice.sliceFields;refine Uf (Uf (Uk hos hds (x:=.none) rfl (Uf (Uk hos hds (x:=.none) rfl (Uf (Uk hos hds (x:=.int (-1) tk) rfl (Uw ?_)))))));refine Uf (slicePart_int ?_);show wpAny _ _ (if ((-1:Int) == 0)=true then _ else _) _ _ s;rw[if_neg (by decide)];refine Uf (slicePart_none (Uf (slicePart_none (Uf (Uw ?_)))));show wpAny _ _ (match Builtin.Slice.sliceAdjust none none (-1) (n:Int) with |(lo,hi)=>pure (lo,(-1:Int),Builtin.Slice.slicePlaces lo hi (-1))) _ _ s
 have e1:Builtin.Slice.sliceAdjust none none (-1) (n:Int)=((n:Int) - 1,-1):=by
  unfold Builtin.Slice.sliceAdjust;simp
 rw[e1];show wpAny _ _ (pure ((n:Int) - 1,(-1:Int),Builtin.Slice.slicePlaces ((n:Int) - 1) (-1) (-1))) _ _ s
 have e2:Builtin.Slice.slicePlaces ((n:Int) - 1) (-1) (-1)=n:=by
  unfold Builtin.Slice.slicePlaces;have h1:¬ ((-1:Int) > 0):=by decide
  simp only[h1,if_false,show(- -1:Int)=1 from rfl,Wg];split <;> omega
 rw[e2];exact Uw h
theorem ym(xs:Array Value):((Zl xs.size).filterMap λ(m:Nat)=>xs[((xs.size:Int) - 1+(m:Int) * -1).toNat]?).toArray=xs.toList.reverse.toArray:=by
 have e:(Zl xs.size).filterMap (λ(m:Nat)=>xs[((xs.size:Int) - 1+(m:Int) * -1).toNat]?)=((Zl xs.size).map λk=>xs.size - 1 - k).filterMap (xs[·]?):=by
  rw[Yu]
  congr 1
  funext m
  show xs[((xs.size:Int) - 1+(m:Int) * -1).toNat]?=xs[xs.size - 1 - m]?
  congr 1
  omega
 rw[e,PySem.W.krv_range,List.filterMap_reverse,PySem.W.krv_all]
theorem gY{t sl:Addr}{items:Array Value}{tk:Tok}{Q:Value->Shared->Prop}(ht:IsTup s.heap t items)(hs:s.heap.IsSliceOf sl .none .none (.int (-1) tk))
  (h:Q (.ref s.heap.objs.size) { s with heap:=s.heap.push { cls:=.type "tuple", data:=.seq items.toList.reverse.toArray } })
  (hsz:items.size<=sizeLine):wpAny (model prog w) A (getItem (.ref t) (.ref sl)) Q E s:=by
 have htake:sizeOk (.seq items.toList.reverse.toArray):=by
  show items.toList.reverse.toArray.size<=sizeLine;rw[Zk,Yd,Zy];exact hsz
 obtain⟨os,hos,hcs,hds⟩:=id hs;have hTs:s.TypeIs (.ref sl) "slice" := ⟨os,hos,hcs⟩;unfold getItem
 try with_reducible refine Uo ?_
 first |refine Uf (Uw ?_) |skip
 refine Uf (UG ht.typeIs (by decide) ?_)
 refine Uf (wpAny_callSpecial?_slot (name:=Str.ofString "__getitem__") ht.typeIs Ws
  (Uh Ws ht.typeIs entry_tuple_getitem ?_ (args_tuple_getitem _ _)))
 show wpAny _ _ (Builtin.Tuple.tupleItemsOf (.ref t) >>= _) _ _ s;refine Uf (tupleItemsOf_ ht ?_);refine Uf (UL hTs ?_);rw[if_pos (by decide)];refine Uf (iy hs ?_);show wpAny _ _ (if (((items.size:Int) - 1) == 0 && (-1:Int) == 1 && items.size == items.size)=true then _ else _) _ _ s;rw[if_neg (by rw[show((-1:Int) == 1)=false from rfl,X9,YZ];exact Zd),ym]
 first
  |exact Uf (m:=Builtin.Tuple.tupleExact _) (Ut (Uw ⟨_,rfl,Uw h⟩) htake)
  |exact Uf (m:=Builtin.Tuple.tupleExact _) (Ut (Uf (Uw (Uw ⟨_,rfl,Uw h⟩))) htake)
  |exact Uf (Uf (m:=Builtin.Tuple.tupleExact _) (Ut (Uw (Uw ⟨_,rfl,Uw h⟩)) htake))
  |exact Uf (Uf (m:=Builtin.Tuple.tupleExact _) (Ut (Uw ⟨_,rfl,Uw h⟩) htake))
end
end HT
namespace Ev
open PySem PySem.Spec PyProof.Rows L2
section
variable {X:Cx} {e:Expr} {te:TE} {pos p2 p3 p4:Pos}
theorem aP.rev:∀ {xs:List V} {us:List Value},aP xs us->aP xs.reverse us.reverse
 |[],_,.nil=>.nil
 |_::_,_,.cons r t=>by rw[YK,YK];exact(aP.rev t).append (.cons r .nil)
theorem VDs.rev{K:W7}:∀ {ds:List D} {vs:List V},VDs K m H ds vs->VDs K m H ds.reverse vs.reverse
 |[],vs,h=>by rw[VDs] at h;subst h;exact .nil
 |d::ds,vs,h=>by
  rw[VDs] at h;obtain⟨y,r,rfl,p,q⟩:=h;rw[YK,YK];exact(VDs.rev q).append (.cons p .nil)
abbrev rG(d:D)(S:Sto):Option (D × Sto):=match d with
 |.tup ds=>some (.tup ds.reverse,S)
 | .ref n=>(match ak S n with
  |some ds=>some (.ref S.length,S++[.lst ds.reverse])
  | none=>none)
 |_=>none
theorem G8{k:Nat}(he:PE X e te):PE X (.Subscript e (.Slice none none (some (.UnaryOp .USub (.Constant (.int 1) k p3) p4)) p2) pos) (tUn (rS1 X.K rG) te):=by
 intro pins s σ H Q I h;refine Subscript_ (thn (he pins s σ H _ I h) λv s1 ⟨x,H1,I1,r1,q1⟩=>?_);refine wpAny_Slice ?_;rw[VF];refine Uw (Uw ?_);refine thn (sZ (xi qT nh) pins s1 σ H1 (λo H2=>o=some (-1)/\H2=H1) I1 ⟨_,rfl,_,rfl,rfl,rfl⟩) λvk s2 ⟨o,H2,I2,pk,ho,hH⟩=>?_;subst ho hH;cases pk with
 |int i tk=>
  have I3:L2.Inv X pins σ H2 { s2 with heap:=s2.heap.push { cls:=.type "slice", data:=.fields #[.none,.none,.int (-1) tk] } }:=I2.kept (t':=s2.toks) λb ob q=>Zc _ q;obtain⟨m,S,a,d,S',R,va,e1,q⟩:=q1;cases a with
  |tup ds=>
   cases e1;obtain⟨p,vs,rfl,sq,vds⟩:=va.tups;cases r1;obtain⟨its,r,ht,hz⟩:=I3.tuple (.of sq);have hlen:its.toArray.size=vs.length:=by rw[Zk];exact r.length.symm
   refine tail_any (ops:=[.ref p,.ref s2.heap.objs.size]) ht.typeIs PyProof.Rows.slot_tuple_getitem.lookup (HT.gY ht (Heap.IsSliceOf.new ..) ?_ (by rw[hlen];exact hz)) (by with_unfolding_all rfl);refine⟨.ref _,_,I3.laid (o:=.tup vs.reverse) (λb ob q=>Zc _ q) (Zf _) ?_,rfl,gW R (VDs.rev vds) q _ (I3.hok.fresh (Zf _))⟩;exact⟨by rw[Yd];exact hz,_,aP.rev r,m9.new _ _⟩
  |ref n=>
   simp only[rG] at e1;cases hn:ak S n with
   |none=>rw[hn] at e1;cases e1
   |some ds=>
    rw[hn] at e1;cases e1;obtain⟨p,vs,hp,sq,vds⟩:=R.seq hn;obtain⟨p',hp',rfl⟩:=va.refs;rw[hp] at hp';cases hp';cases r1;obtain⟨its,r,pl,hz⟩:=I3.list sq;have hlen:its.toArray.size=vs.length:=by rw[Zk];exact r.length.symm
    refine tail_any (ops:=[.ref p,.ref s2.heap.objs.size]) pl.isList.typeIs PySem.slot_list_getitem.lookup (Um pl.isList (Heap.IsSliceOf.new ..) .none .none (.int (-1) tk) (by decide) ?_ (by rw[hlen];exact hz)) (by with_unfolding_all rfl);rw[PySem.W.krv_pick];refine⟨.ref _,_,I3.laid (o:=.lst vs.reverse) (λb ob q=>Zc _ q) (Zf _) ?_,rfl,jp R (VDs.rev vds) q _ (I3.hok.fresh (Zf _))⟩;exact⟨by rw[Yd];exact hz,_,0,aP.rev r,Zz _ rfl⟩
  |_=>cases e1
end
end Ev
namespace Ev
open PySem PySem.Spec PyProof.Rows L2
open PySem.W (KasT kas_sort kas_asc kas_desc kas_tail3 kas_descPart kas_count kas_place kas_bin kas_rev kas_ask KatTups)
abbrev fS{α:Type}(lt:Nat->Nat->Bool):KasT α->α
 |.ret a=>a
 |.ask i j k=>fS lt (k (lt i j))
def KT{α:Type}(n:Nat)(P:α->Prop):KasT α->Prop
 |.ret a=>P a
 |.ask i j k=>i < n/\j < n/\∀b,KT n P (k b)
theorem KT.bind{α β:Type}{n:Nat}{P:α->Prop}{R:β->Prop}{f:α->KasT β}(hf:∀a,P a->KT n R (f a)):∀ {t:KasT α},KT n P t->KT n R (t.bind f)
 |.ret a,h=>hf a h
 |.ask i j k,h=>⟨h.1,h.2.1,λb=>KT.bind hf (h.2.2 b)⟩
theorem KT.run{α:Type}{n:Nat}{P:α->Prop}{lt:Nat->Nat->Bool}:∀ {t:KasT α},KT n P t->P (fS lt t)
 |.ret a,h=>h
 |.ask i j k,h=>KT.run (t:=k (lt i j)) (h.2.2 (lt i j))
theorem pU{α:Type}{n:Nat}{P:α->Prop}{lt:Nat->Nat->Bool}{cmp:Nat->Nat->(Bool->Shared->Prop)->Shared->Prop}{s:Shared}(hc:∀i j,i < n->j < n->∀C:Bool->Shared->Prop,C (lt i j) s->cmp i j C s){Q:α->Shared->Prop} :
  ∀ {t:KasT α},KT n P t->Q (fS lt t) s->t.kasWp cmp Q s
 |.ret a,_,q=>q
 |.ask i j k,h,q=>hc i j h.1 h.2.1 _ (pU hc (h.2.2 (lt i j)) q)
def Pm(n:Nat)(p:Array Nat):Prop:=p.Perm (Xh (Zl n))
theorem Pm.at{n i:Nat}(h:Pm n p)(hn:0 < n):p.getD i 0 < n:=by
 by_cases hi:i < p.size
 ·have e:p.getD i 0=p[i]:=by simp[Array.getD,hi]
  rw[e];have hm:p[i] ∈ p:=Array.getElem_mem hi;have:=h.mem_iff.mp hm
  simpa using this
 ·have e:p.getD i 0=0:=by simp[Array.getD,hi]
  omega
theorem Pm.rev{n i j:Nat}(h:Pm n p):Pm n (kas_rev p i j):=(mirror_perm p i j _).trans h
theorem rH{n:Nat}(h:Pm n p)(hn:0 < n):∀f m,KT n (λ_=>True) (kas_asc p f m)
 |0,_=>trivial
 | f+1,m=>⟨h.at hn,h.at hn,λb=>by
  cases b with
  |true=>exact trivial
  | false=>exact rH h hn f (m+1)⟩
theorem jt{n:Nat}(hn:0 < n):∀f (p:Array Nat) m q,Pm n p->KT n (λr:Array Nat × Nat × Nat=>Pm n r.1) (kas_desc f p m q)
 |0,p,m,q,h=>h
 | f+1,p,m,q,h=>⟨h.at hn,h.at hn,λb=>by
  cases b with
  |true=>
   show KT n _ (if q > 0 then kas_desc f (kas_rev p (m - (q+1)) m) (m+1) 0 else kas_desc f p (m+1) 0);split
   ·exact jt hn f _ _ _ h.rev
   ·exact jt hn f _ _ _ h
  | false=>exact⟨h.at hn,h.at hn,λd=>by
   cases d with
   |true=>exact h
   | false=>exact jt hn f _ _ _ h⟩⟩
theorem pV{n:Nat}{p:Array Nat}(hn:0 < n)(h:Pm n p)(m r:Nat):KT n (λr:Nat × Array Nat=>Pm n r.2) (kas_tail3 m r p):=KT.bind (P:=λ_=>True) (f:=λm=>KasT.ret (m,kas_rev p 0 _)) (λ_ _=>(show KT n (λr:Nat × Array Nat=>Pm n r.2) (KasT.ret (_,kas_rev p 0 _)) from h.rev)) (rH h.rev hn _ _)
theorem iR{n:Nat}{p:Array Nat}(hn:0 < n)(h:Pm n p)(m r:Nat):KT n (λr:Nat × Array Nat=>Pm n r.2) (kas_descPart m r p):=KT.bind (λa ha=>by
 show KT n _ (if a.2.2 > 0 then _ else _);split
 ·exact pV hn (Pm.rev ha) _ _
 ·exact pV hn ha _ _) (jt hn _ _ _ _ h)
theorem yn{n:Nat}{p:Array Nat}(hn:0 < n)(h:Pm n p)(r:Nat):KT n (λr:Nat × Array Nat=>Pm n r.2) (kas_count r p):=KT.bind (λa _=>by
 show KT n _ (if (a == r)=true then _ else if a > 1 then _ else _);split
 ·exact h
 ·split
  ·exact⟨h.at hn,h.at hn,λb=>by
    cases b with
    |true=>exact h
    | false=>exact iR hn h.rev _ _⟩
  ·exact iR hn h _ _) (rH h hn _ _)
theorem j9{n:Nat}{p:Array Nat}(hn:0 < n)(h:Pm n p)(m:Nat):∀f l r,KT n (λ_=>True) (kas_place p m f l r)
 |0,_,_=>trivial
 |f+1,l,r=>by
  show KT n _ (if l ≥ r then _ else _);split
  ·exact trivial
  ·exact⟨h.at hn,h.at hn,λb=>by
    cases b with
    |true=>exact j9 hn h m f _ _
    | false=>exact j9 hn h m f _ _⟩
theorem yo{n:Nat}(hn:0 < n):∀f (p:Array Nat) m,Pm n p->KT n (Pm n) (kas_bin f p m)
 |0,p,_,h=>h
 |f+1,p,m,h=>KT.bind (λl _=>yo hn f _ _ ((bubble_perm p m _).trans h)) (j9 hn h m _ _ _)
theorem tN{n:Nat}(hn:0 < n):KT n (Pm n) (kas_sort n):=KT.bind (λr hr=>by
 show KT n _ (if r.1 < n then _ else _);split
 ·exact yo hn _ _ _ hr
 ·exact hr) (yn hn (Array.Perm.refl _) n)
section
variable {prog:Program} {w:World} {A:Around} {E:Value->Shared->Prop} {s:Shared}
theorem nR{a:Addr}{vs:List Value}{n:Nat}{P:PySem.Fin->Shared->Prop}(ho:s.heap.get? a=some (seqObj "list" vs.toArray n))(h64:vs.length < 64)(κ:SortKind)(lt:Nat->Nat->Bool)
  (hk:2<=vs.length->∀ (Q:SortKind->Shared->Prop),Q κ { s with heap:=((s.heap.update a (Obj.mapSeq λ_=>#[])).push (seqObj "tuple" vs.toArray 0)).push (seqObj "list" #[] 0) }->wpAny (model prog w) A (keyKind' vs.toArray) Q E { s with heap:=((s.heap.update a (Obj.mapSeq λ_=>#[])).push (seqObj "tuple" vs.toArray 0)).push (seqObj "list" #[] 0) })
  (hlt:∀i j,i < vs.length->j < vs.length->∀C:Bool->Shared->Prop,C (lt i j) { s with heap:=((s.heap.update a (Obj.mapSeq λ_=>#[])).push (seqObj "tuple" vs.toArray 0)).push (seqObj "list" #[] 0) } ->
   kas_ask prog w A κ vs i j C { s with heap:=((s.heap.update a (Obj.mapSeq λ_=>#[])).push (seqObj "tuple" vs.toArray 0)).push (seqObj "list" #[] 0) })
  (h:P (.done (.ret .none)) { s with heap:=sortedHeap s.heap a vs (if vs.length < 2 then vs.toArray else Xh ((fS lt (kas_sort vs.length)).toList.map λi=>vs.getD i Value.none)) }) :
  wpAny (model prog w) A (Builtin.«list.sort» ⟨[.ref a],[]⟩) P E s:=by
 rw[list_sort_plain];have ha:a < s.heap.objs.size:=Zr ho;refine Uf (listItems_at ho rfl ?_);refine Uf (listUpdate_at ho rfl ?_);obtain⟨e1,ho1⟩:∃e1,(s.heap.update a (Obj.mapSeq λ_=>#[])).get? a=some (seqObj "list" #[] e1):=⟨_,get?_update_seq ho (λ_=>#[])⟩;refine Uf (seqEpoch_at ho1 rfl ?_);refine Uf (wpAny_newTuple ?_);refine Uf (wpAny_newList ?_);refine Uo ?_
 have ho6:(((s.heap.update a (Obj.mapSeq λ_=>#[])).push (seqObj "tuple" vs.toArray 0)).push (seqObj "list" #[] 0)).get? a=some (seqObj "list" #[] e1):=by
  rw[XH _ _ _ (by rw[size_push',Xa];exact ZF (YL ha)),XH _ _ _ (by rw[Xa];exact ZF ha)];exact ho1
 show wpAny (model prog w) A _ P E { s with heap:=((s.heap.update a (Obj.mapSeq λ_=>#[])).push (seqObj "tuple" vs.toArray 0)).push (seqObj "list" #[] 0) };dsimp only;have hsz:vs.toArray.size=vs.length:=by simp
 by_cases h2:vs.toArray.size < 2
 ·rw[if_pos h2,if_pos h2];refine Uf (Uw ?_);rw[StateT.run_pure];refine Uf (Uw ?_);dsimp only;refine Uf (seqEpoch_at ho6 rfl ?_);refine Uf (listUpdate_at ho6 rfl ?_ (hsz2:=by rw[Array.size_map];show(pairsOf vs).size<=_;rw[pairsOf_size,V4];omega));simp only[bne_self_eq_false,ZK,if_false];rw[if_pos (by rw[<-hsz];exact h2)] at h
  have e:Array.map (λx:Keyed=>x.2) (vs.toArray.zip vs.toArray)=vs.toArray:=by
   apply Array.toList_inj.mp;rw[Array.toList_map,Array.toList_zip,List.map_snd_zip (by simp)]
  refine Uw ?_;show P _ { s with heap:=sortedHeap s.heap a vs (Array.map (λx:Keyed=>x.2) (vs.toArray.zip vs.toArray)) };rw[e];exact h
 ·have h2':2<=vs.length:=by omega
  rw[if_neg h2,if_neg h2];rw[if_neg (by omega)] at h;refine Uf (hk h2' _ ?_)
  refine Uf (Us (PySem.W.kat_run (κ:=κ) (ks:=vs) (Q:=λst' s'=>s'={ s with heap:=((s.heap.update a (Obj.mapSeq λ_=>#[])).push (seqObj "tuple" vs.toArray 0)).push (seqObj "list" #[] 0) }/\arrOf st'=(fS lt (kas_sort vs.length)).map (PySem.W.kas_item (vs.toArray.zip vs.toArray))/\(fS lt (kas_sort vs.length)).size=vs.length/\failedOf st'=none)
   (G:=λp s'=>s'={ s with heap:=((s.heap.update a (Obj.mapSeq λ_=>#[])).push (seqObj "tuple" vs.toArray 0)).push (seqObj "list" #[] 0) }/\p=fS lt (kas_sort vs.length)) rfl h2' h64 (λp st' s' a1 a2 a3 a4=>⟨a4.1,a4.2 ▸ a2,a4.2 ▸ a1,a3⟩) (pU hlt (tN (by omega)) ⟨rfl,rfl⟩)) ?_ λ_ _ e=>e)
  rintro⟨⟨⟩,st'⟩ s' ⟨rfl,har,hsz',hf⟩;dsimp only;have hout:=PySem.W.kat_snds rfl har;refine Uf (seqEpoch_at ho6 rfl ?_);rw[hout];refine Uf (listUpdate_at ho6 rfl ?_ (hsz2:=by rw[Zk,Za,Zy,hsz',V4];omega));rw[hf];simp only[bne_self_eq_false,ZK,if_false];exact Uw h
end
section
variable {prog:Program} {w:World} {A:Around} {E:Value->Shared->Prop} {s:Shared}
theorem vL(hl:s.heap.IsList l vs.toArray)(h64:vs.length < 64)(κ:SortKind)(lt:Nat->Nat->Bool)
  (hk:2<=vs.length->∀ (A:Around) (s':Shared),(∀b o,s.heap.get? b=some o->s'.heap.get? b=some o)->∀ (E:Value->Shared->Prop) (Q:SortKind->Shared->Prop),Q κ s'->wpAny (model prog w) A (keyKind' vs.toArray) Q E s')
  (hlt:∀ (A:Around) (s':Shared),(∀b o,s.heap.get? b=some o->s'.heap.get? b=some o)->∀i j,i < vs.length->j < vs.length->∀C:Bool->Shared->Prop,C (lt i j) s'->kas_ask prog w A κ vs i j C s')
  (h:Q (.ref (s.heap.objs.size+1)) { s with heap:=sortedAll s.heap vs (if vs.length < 2 then vs.toArray else Xh ((fS lt (kas_sort vs.length)).toList.map λi=>vs.getD i Value.none)) }) :
  wpAny (model prog w) A (call (.builtin "sorted") [.ref l]) Q E s:=by
 refine Calls.call_function_entry kind_sorted plain_sorted entry_sorted (args_sorted1 _) ?_;unfold Builtin.«sorted»;refine Uf (m:=checkCount "sorted" 1 1 _) (Uw ?_);refine Uf (collect_list hl ?_);refine Uf (wpAny_newList ?_)
 have hsz:((s.heap.push (seqObj "list" #[] 0)).update s.heap.objs.size (Obj.mapSeq (·++vs.toArray))).objs.size=s.heap.objs.size+1:=by
  rw[Xa,size_push']
 have hoL:(((s.heap.push (seqObj "list" #[] 0)).update s.heap.objs.size (Obj.mapSeq (·++vs.toArray))).push (seqObj "list" vs.toArray 0)).get? (s.heap.objs.size+1)=some (seqObj "list" vs.toArray 0):=by
  rw[<-hsz];exact Zz _ rfl
 have keep:∀b o,s.heap.get? b=some o->(((((s.heap.push (seqObj "list" #[] 0)).update s.heap.objs.size (Obj.mapSeq (·++vs.toArray))).push (seqObj "list" vs.toArray 0)).update (s.heap.objs.size+1) (Obj.mapSeq λ_=>#[])).push (seqObj "tuple" vs.toArray 0)).get? b=some o:=λb o q=>by
  have hlt:b < s.heap.objs.size:=Zr q;refine Zc _ ?_;rw[Xw _ _ _ _ (ZF (YL hlt))];refine Zc _ ?_;rw[Xw _ _ _ _ (ZF hlt)];exact Zc _ q
 show wpAny _ _ _ _ _ { s with heap:=((s.heap.push (seqObj "list" #[] 0)).update s.heap.objs.size (Obj.mapSeq (·++vs.toArray))).push (seqObj "list" vs.toArray 0) };rw[hsz];refine Uf (Uo (Uh slot_list_sort ⟨_,hoL,rfl⟩ entry_list_sort (nR hoL h64 κ lt (λh2 Q q=>hk h2 _ _ (λb o z=>Zc _ (keep b o z)) _ Q q) (λi j hi hj C c=>hlt _ _ (λb o z=>Zc _ (keep b o z)) i j hi hj C c) ⟨_,rfl,?_⟩) (args_list_sort _)));exact Uw ⟨_,rfl,h⟩
abbrev rJ(x y:Int × Int):Bool:=if x.1 == y.1 then (if x.2 == y.2 then false else decide (x.2 < y.2)) else decide (x.1 < y.1)
theorem yp{a b c d:Int}{n k:Nat}(hx:s.heap.get? x=some ox)(dx:ox.data = .seq #[.int a t1,.int b t2] n)(hy:s.heap.get? y=some oy)(dy:oy.data = .seq #[.int c t3,.int d t4] k)
  (h:C (rJ (a,b) (c,d)) s):wpAny (model prog w) A (keyLt' (tuples' true) (.ref x) (.ref y)) C E s:=by
 refine PySem.W.kat_lt hx dx hy dy ?_;show PySem.W.KatLex prog w A true _ C [(.int a t1,.int c t3),(.int b t2,.int d t4)] 0 s;unfold rJ at h;refine Uj ?_;cases h1:a == c with
 |true=>
  rw[if_pos rfl];simp only[h1,if_true] at h;refine Uj ?_;cases h2:b == d with
  |true=>rw[if_pos rfl];simp only[h2,if_true] at h;exact h
  |false=>
   rw[if_neg Zd];simp only[h2,ZK,if_false] at h;exact PySem.W.kat_one _ _ (lt_int h)
 |false=>
  rw[if_neg Zd];simp only[h1,ZK,if_false] at h;exact oneLt_int h
end
end Ev
namespace Ev
open PySem PySem.Spec PyProof.Rows L2
open PySem.W (kas_sort KatTups)
section
variable {X:Cx} {K:W7} {m:List Addr} {H:Hp} {S:Sto}
inductive PairsV(H:Hp):List V->List (Int × Int)->Prop where
 |nil:PairsV H [] []
 |cons {r:Addr} {x y:Int} {vs:List V} {ps:List (Int × Int)}:H r=some (.tup [.int x,.int y])->PairsV H vs ps->PairsV H (.ref r::vs) ((x,y)::ps)
abbrev vM(ps:List (Int × Int))(i j:Nat):Bool:=rJ (ps.getD i (0,0)) (ps.getD j (0,0))
abbrev eY{α:Type}(ps:List (Int × Int))(d:α)(vs:List α):List α:=if vs.length < 2 then vs else (fS (vM ps) (kas_sort vs.length)).toList.map λi=>vs.getD i d
theorem PairsV.len{vs:List V}{ps:List (Int × Int)}(h:PairsV H vs ps):vs.length=ps.length:=by
 induction h with
 |nil=>rfl
 |cons _ _ ih=>simp[ih]
def Fb(h:Heap)(v:Value)(q:Int × Int):Prop:=∃r o t1 t2 n,v = .ref r/\h.get? r=some o/\o.cls = .type "tuple"/\o.data = .seq #[.int q.1 t1,.int q.2 t2] n
theorem PairsV.heap{pins:List (Addr × Obj)}{s:Shared}{σ:L2.St}(I:Inv X pins σ H s){vs:List V}{ps:List (Int × Int)}(h:PairsV H vs ps):∀ {its:List Value},aP vs its->∀ (i:Nat),i < its.length->Fb s.heap (its.getD i Value.none) (ps.getD i (0,0)):=by
 induction h with
 |nil=>intro its r i hi;cases r;simp at hi
 |@cons r x y vs ps hr _ ih=>
  intro its rv i hi;cases rv with
  |@cons _ u _ us r1 r2=>
   cases i with
   |zero=>
    cases r1;obtain⟨it2,rr,⟨o,e,hc,n,hd⟩,_⟩:=I.tuple (SqT.of (K:=X.K) hr);obtain⟨a,b,rfl,⟨t1,rfl⟩,⟨t2,rfl⟩⟩:=o6 rr;exact⟨r,o,t1,t2,n,rfl,e,hc,hd⟩
   |succ i=>
    have:=ih r2 i (by simpa using hi)
    simpa using this
theorem tO{h:Heap}:∀ {its:List Value} {ps:List (Int × Int)},(∀i,i < its.length->Fb h (its.getD i Value.none) (ps.getD i (0,0)))->∃fs:List Value,KatTups h its fs/\fs.length=its.length/\∀v ∈ fs,∃i t,v = .int i t
 |[],_,_=>⟨[],KatTups.nil,rfl,λv hv=>by simp at hv⟩
 |v::its,ps,hp=>by
  obtain⟨r,o,t1,t2,n,ev,e,hc,hd⟩:=hp 0 (by simp)
  obtain⟨fs,k,hl,hi⟩:=tO (its:=its) (ps:=ps.tail) λi hi=>by
   have:=hp (i+1) (by simpa using hi);cases ps with
   |nil=>simpa using this
   |cons _ _=>simpa using this
  have ev':v = .ref r:=by simpa using ev
  subst ev'
  exact⟨.int (ps.getD 0 (0,0)).1 t1::fs,KatTups.cons e hc hd rfl k,by simp[hl],λw hw=>by
   rcases Zn.mp hw with rfl |hw
   ·exact⟨_,_,rfl⟩
   ·exact hi w hw⟩
theorem B2(r:aP vs its){i:Nat}(hi:i < vs.length):aB (vs.getD i .non) (its.getD i Value.none):=by
 obtain⟨u,e,ru⟩:=r.get (gEG hi);rw[Zt,Zt,gEG hi,e];exact ru
theorem my{vs:List V}{its:List Value}(r:aP vs its):∀ (l:List Nat),(∀i ∈ l,i < vs.length)->aP (l.map λi=>vs.getD i .non) (l.map λi=>its.getD i Value.none)
 |[],_=>.nil
 |i::l,h=>.cons (B2 r (h i Zi)) (my r l λj hj=>h j (Zg _ hj))
theorem iz{n:Nat}{lt:Nat->Nat->Bool}(hn:0 < n):(∀i ∈ (fS lt (kas_sort n)).toList,i < n)/\(fS lt (kas_sort n)).toList.length=n:=by
 have h:Pm n (fS lt (kas_sort n)):=(tN hn).run;refine⟨λi hi=>?_,?_⟩
 ·have:=h.mem_iff.mp (Xp.mp hi)
  simpa using this
 ·have:=h.size_eq;rw[Zy,this];simp
theorem rK{α:Type}{ps:List (Int × Int)}{d:α}{vs:List α}:(eY ps d vs).length=vs.length:=by
 unfold eY;split
 ·rfl
 ·rw[Za,(iz (by lia)).2]
theorem rL:aV X (.builtin "sorted") (λxs H Q=>∃a vs ps,xs=[.ref a]/\SqL X.K H a vs/\PairsV H vs ps/\vs.length < 64/\∀p,H p=none->Q (.ref p) (upd H p (.lst (eY ps .non vs)))):=by
 intro pins s σ H xs us Q I r h;obtain⟨a,vs,ps,rfl,sq,pv,h64,q⟩:=h;obtain⟨u,rfl,ru⟩:=b9 r;cases ru;obtain⟨its,rv,pl,hz⟩:=I.list sq;have hlen:=rv.length;have ph:=pv.heap I rv;have hl2:=pv.len;refine vL pl.isList (by lia) (tuples' true) (vM ps) (λh2 A s' kp E Q' hq=>?_) (λA s' kp i j hi hj C hC=>?_) ?_
 ·obtain⟨fs,kt,hf,hi⟩:=tO (h:=s'.heap) λi hi=>by
   obtain⟨r,o,t1,t2,n,e1,e2,e3,e4⟩:=ph i hi;exact⟨r,o,t1,t2,n,e1,kp _ _ e2,e3,e4⟩
  refine PySem.W.kat_kind (T:=.type "int") kt (by lia) (λv hv=>?_) (by decide) hq;obtain⟨i,t,rfl⟩:=hi v hv;exact PySem.W.Looks.of_pure rfl
 ·obtain⟨r1,o1,t1,t2,n1,a1,a2,a3,a4⟩:=ph i hi;obtain⟨r2,o2,t3,t4,n2,b1,b2,b3,b4⟩:=ph j hj;show wpAny _ A (keyLt' (tuples' true) (its.getD i Value.none) (its.getD j Value.none)) C _ s';rw[a1,b1];exact yp (kp _ _ a2) a4 (kp _ _ b2) b4 hC
 ·have hv:aP (eY ps .non vs) (if its.length < 2 then its else (fS (vM ps) (kas_sort its.length)).toList.map λi=>its.getD i Value.none):=by
   unfold eY;rw[hlen];split
   ·exact rv
   ·exact my rv _ λi hi=>by rw[hlen];exact(iz (by lia)).1 i hi
  have eo:(if its.length < 2 then its.toArray else Xh ((fS (vM ps) (kas_sort its.length)).toList.map λi=>its.getD i Value.none))=(if its.length < 2 then its else (fS (vM ps) (kas_sort its.length)).toList.map λi=>its.getD i Value.none).toArray:=by split <;> rfl
  rw[eo];obtain⟨e,he⟩:=sortedAll_at s.heap its (if its.length < 2 then its else (fS (vM ps) (kas_sort its.length)).toList.map λi=>its.getD i Value.none).toArray;exact⟨.ref (s.heap.objs.size+1),_,I.laid (t':=s.toks) (a:=s.heap.objs.size+1) (o:=.lst (eY ps .non vs)) (λb o z=>sortedAll_old z) (Ym _) ⟨by rw[rK];exact hz,_,e,hv,he⟩,rfl,q _ (I.hok.fresh (Ym _))⟩
abbrev rN(x:Int):List Int->List Int
 |[]=>[x]
 |y::l=>if x<=y then x::y::l else y::rN x l
abbrev eZ:List Int->List Int
 |[]=>[]
 |x::l=>rN x (eZ l)
theorem iA(x:Int):∀l,(rN x l).Perm (x::l)
 |[]=>List.Perm.refl _
 |y::l=>by
  unfold rN;split
  ·exact List.Perm.refl _
  ·exact((iA x l).cons y).trans (List.Perm.swap x y l)
theorem cD:∀l,(eZ l).Perm l
 |[]=>List.Perm.refl _
 |x::l=>(iA x (eZ l)).trans ((cD l).cons x)
theorem iS(x:Int):∀l:List Int,l.Pairwise (·<=·)->(rN x l).Pairwise (·<=·)
 |[],_=>by unfold rN;simp
 |y::l,h=>by
  unfold rN;rw[Yw] at h;split
  ·rename_i c;refine Yw.mpr ⟨λz hz=>?_,Yw.mpr h⟩;rcases Zn.mp hz with rfl |hz
   ·exact c
   ·have:=h.1 z hz;lia
  ·rename_i c;refine Yw.mpr ⟨λz hz=>?_,iS x l h.2⟩;rcases Zn.mp ((iA x l).mem_iff.mp hz) with rfl |hz
   ·lia
   ·exact h.1 z hz
theorem gZ:∀l,(eZ l).Pairwise (·<=·)
 |[]=>List.Pairwise.nil
 |x::l=>iS x _ (gZ l)
theorem ka:∀ {a b:List Int},a.Perm b->a.Pairwise (·<=·)->b.Pairwise (·<=·)->a=b
 |[],b,p,_,_=>(List.Perm.nil_eq p)
 |x::a,[],p,_,_=>(List.Perm.nil_eq p.symm).symm
 |x::a,y::b,p,ha,hb=>by
  rw[Yw] at ha hb
  have e:x=y:=by
   have h1:=p.mem_iff.mp (Zi (a:=x) (l:=a));have h2:=p.mem_iff.mpr (Zi (a:=y) (l:=b));rcases Zn.mp h1 with rfl |h1
   ·rfl
   ·rcases Zn.mp h2 with h2 |h2
    ·exact h2.symm
    ·have:=ha.1 y h2;have:=hb.1 x h1
     lia
  subst e;rw[ka (List.Perm.cons_inv p) ha.2 hb.2]
theorem bj:∀ {ns:List Int} {us:List Value},aP (ns.map V.int) us->IntsAre us ns
 |[],_,h=>by cases h;exact .nil
 |n::ns,_,h=>by
  cases h with
  |cons r1 r2=>obtain⟨t,rfl⟩:=r1;exact .cons n t (bj r2)
theorem rO:aV X (.builtin "sorted") (λxs H Q=>∃a ns,xs=[.ref a]/\SqL X.K H a (ns.map V.int)/\ns.length < 64/\∀p,H p=none->Q (.ref p) (upd H p (.lst ((eZ ns).map V.int)))):=by
 intro pins s σ H xs us Q I r h;obtain⟨a,ns,rfl,sq,h64,q⟩:=h;obtain⟨u,rfl,ru⟩:=b9 r;cases ru;obtain⟨its,rv,pl,hz⟩:=I.list sq;have hlen:=rv.length;rw[Za] at hlen hz;refine sorted_ints pl.isList (bj rv) (by lia) λout ns' h1 h2 h3=>?_;have e:ns'=eZ ns:=ka (h2.trans (cD ns).symm) h3 (gZ ns);subst e;obtain⟨e,he⟩:=sortedAll_at s.heap its out;refine⟨.ref (s.heap.objs.size+1),_,I.laid (t':=s.toks) (a:=s.heap.objs.size+1) (o:=.lst ((eZ ns).map V.int)) (λb o z=>sortedAll_old z) (Ym _) ⟨by rw[Za,(cD ns).length_eq];exact hz,out.toList,e,il h1,by simpa using he⟩,rfl,q _ (I.hok.fresh (Ym _))⟩
abbrev nT:D->Option (Int × Int)
 |.tup [.int a,.int b]=>some (a,b)
 |_=>none
abbrev e7:List D->Option (List (Int × Int))
 |[]=>some []
 |d::ds=>match nT d,e7 ds with
  |some p,some ps=>some (p::ps)
  |_,_=>none
abbrev dq:List D->Option (List Int)
 |[]=>some []
 |d::ds=>match d,dq ds with
  |.int i,some ms=>some (i::ms)
  |_,_=>none
abbrev yq(_:Bool)(ds:List D):Option (List D):=match e7 ds with
 |some ps=>if ds.length < 64 then some (eY ps .non ds) else none
 | none=>(match dq ds with
  |some ns=>if ns.length < 64 then some ((eZ ns).map D.int) else none
  | none=>none)
theorem cE:∀ {ds:List D} {ns:List Int},dq ds=some ns->ds=ns.map D.int
 |[],_,e=>by cases e;rfl
 |d::ds,ns,e=>by
  simp only[dq] at e;split at e
  ·rename_i i ms h1;cases e;rw[cE h1];rfl
  ·cases e
theorem cw:∀ {ns:List Int} {vs:List V},VDs K m H (ns.map D.int) vs->vs=ns.map V.int
 |[],_,h=>by rw[Yb,VDs] at h;exact h
 |n::ns,_,h=>by
  rw[ZC,VDs] at h;obtain⟨v,r,rfl,h1,h2⟩:=h;rw[h1.ints,cw h2];rfl
theorem mz:∀ (ns:List Int),VDs K m H (ns.map D.int) (ns.map V.int)
 |[]=>by rw[Yb,Yb,VDs]
 |n::ns=>by rw[ZC,ZC,VDs];exact⟨_,_,rfl,bc,mz ns⟩
theorem pW:∀ {ds:List D} {vs:List V} {ps:List (Int × Int)},e7 ds=some ps->VDs K m H ds vs->PairsV H vs ps
 |[],vs,ps,e,h=>by rw[VDs] at h;subst h;cases e;exact .nil
 |d::ds,vs,ps,e,h=>by
  rw[VDs] at h;obtain⟨v,r,rfl,h1,h2⟩:=h;simp only[e7] at e;cases hd:nT d with
  |none=>rw[hd] at e;cases e
  |some p=>
   cases hr:e7 ds with
   |none=>rw[hd,hr] at e;cases e
   |some qs=>
    rw[hd,hr] at e;cases e;unfold nT at hd;split at hd
    ·cases hd;obtain⟨a,xs,rfl,hH,vx⟩:=h1.tups;obtain⟨x,y,rfl,v1,v2⟩:=pS vx;cases v1.ints;cases v2.ints;exact .cons hH (pW hr h2)
    ·cases hd
theorem tP(h:VDs K m H ds vs):∀ (l:List Nat),(∀i ∈ l,i < ds.length)->VDs K m H (l.map λi=>ds.getD i .non) (l.map λi=>vs.getD i .non)
 |[],_=>by rw[Yb,Yb,VDs]
 |i::l,hl=>by
  rw[ZC,ZC,VDs];obtain⟨v,e,vv⟩:=h.get (gEG (hl i Zi));refine⟨_,_,rfl,?_,tP h l λj hj=>hl j (Zg _ hj)⟩;rw[Zt,Zt,gEG (hl i Zi),e];exact vv
theorem mB:aV X (.builtin "sorted") (r1 (rTm X.K λtu ds=>if tu=false then yq tu ds else none)):=by
 refine aV.imp (aV.or rL rO) λxs H Q h=>?_;obtain⟨_,rfl,m,S,tu,ds,a,vs,es,R,rfl,sq,vd,e,q⟩:=cp h;cases tu with
 |true=>cases e
 |false=>
  have e:yq false ds=some es:=by simpa using e
  unfold yq at e;cases hp:e7 ds with
  |none=>
   rw[hp] at e;dsimp only at e;cases hi:dq ds with
   |none=>rw[hi] at e;cases e
   |some ns=>
    rw[hi] at e;dsimp only at e;split at e
    ·rename_i hl;cases e;have ed:=cE hi;subst ed;have ev:=cw vd;subst ev;exact .inr ⟨a,ns,rfl,sq,hl,nF R (mz _) q⟩
    ·cases e
  |some ps=>
   rw[hp] at e;dsimp only at e;split at e
   ·rename_i hl;cases e;have hlen:=vd.length;refine .inl ⟨a,vs,ps,rfl,sq,pW hp vd,by lia,nF R ?_ q⟩;unfold eY;rw[<-hlen];split
    ·exact vd
    ·exact tP vd _ λi hi=>(iz (by lia)).1 i hi
   ·cases e
end
end Ev
namespace Ev
open PySem PySem.Spec PyProof.Rows L2
abbrev gq:List Int->Int
 |[]=>0
 |n::ns=>ns.foldl (λa b=>if a < b then b else a) n
theorem g5:∀ (ns:List Int) (n:Int),(ns.foldl (λa b=>if a < b then b else a) n) ∈ n::ns/\∀x ∈ n::ns,x<=ns.foldl (λa b=>if a < b then b else a) n
 |[],n=>⟨Zi,λx hx=>by simp at hx;subst hx;exact ZO _⟩
 |m::ns,n=>by
  obtain⟨h1,h2⟩:=g5 ns (if n < m then m else n);rw[X1];refine⟨?_,λx hx=>?_⟩
  ·rcases Zn.mp h1 with h |h
   ·rw[h];split <;> simp
   ·exact Zg _ (Zg _ h)
  ·have h0:=h2 _ Zi;rcases Zn.mp hx with rfl |hx
   ·split at h0 <;> split <;> omega
   ·rcases Zn.mp hx with rfl |hx
    ·split at h0 <;> split <;> omega
    ·exact h2 x (Zg _ hx)
theorem rP{M:Int}(h1:M ∈ ns)(h2:∀a,a ∈ ns->a<=M):M=gq ns:=by
 cases ns with
 |nil=>simp at h1
 |cons n ns=>
  obtain⟨a,b⟩:=g5 ns n;have:=h2 _ a;have:=b _ h1;show M=ns.foldl _ n;omega
section
variable {X:Cx} {K:W7} {m:List Addr} {H:Hp} {S:Sto}
theorem vN(hc:X.calm=true):aV X (.builtin "max") (λxs H Q=>∃a ns,xs=[.ref a]/\SqL X.K H a (ns.map V.int)/\ns ≠ []/\Q (.int (gq ns)) H):=by
 intro pins s σ H xs us Q I r h;obtain⟨a,ns,rfl,sq,hne,q⟩:=h;obtain⟨u,rfl,ru⟩:=b9 r;cases ru;obtain⟨its,rv,pl,hz⟩:=I.list sq;have hi:=bj rv;have hl:=pl.isList;obtain⟨ys,e⟩:=hi.allInts.items
 have hns:ns=ys.toList.map (·.1):=by
  have h1:=hi.numsOf;rw[<-VT,<-e];exact h1.symm
 have hsz:0 < ys.size:=by
  have h3:0 < ns.length:=Xx.mpr hne;rw[hns,Za,Zy] at h3;exact h3
 rw[e] at hl;refine max_intList (I.ok.hd hc) hl hsz λv h' tk hv hk=>?_;obtain⟨t,rfl⟩:=VI hv;obtain⟨b1,b2⟩:=argBest_gt (numAt ys) (ys.size - 1);have key:∀M:Int,M ∈ ns->(∀a,a ∈ ns->a<=M)->∃x H',Inv X pins σ H' { s with heap:=h',toks:=tk }/\aB x (.int M t)/\Q x H':=λM h1 h2=>⟨.int (gq ns),H,I.kept hk,⟨t,by rw[rP h1 h2]⟩,q⟩;refine key _ ?_ λa ha=>?_
 ·rw[hns,VS];exact getD_mem (by rw[Za,Zy];omega)
 ·rw[hns] at ha;obtain⟨j,hj,rfl⟩:=mem_getD ha;rw[Za,Zy] at hj;rw[<-VS];exact b2 j (by omega)
theorem nU(hh:A.handled=none)(hl:s.heap.IsTuple l (VH xs))(hne:0 < xs.size)
  (h:∀v h' tk,(VH xs)[argBest (λi j=>decide (numAt xs i > numAt xs j)) (xs.size - 1)]?=some v->(∀b o,s.heap.get? b=some o->h'.get? b=some o)->Q v { s with heap:=h',toks:=tk }) :
  wpAny (model prog w) A (call (.builtin "max") [.ref l]) Q E s:=by
 have hlt:l < s.heap.objs.size:=by obtain⟨_,e,_⟩:=hl;exact Zr e
 refine call_max_walk (UA hl ?_);refine⟨_,[_,l],[_],_,_,_,_,rfl,Walks.tuple (A:=A.in1) hh _ l (ZF hlt) (VH xs),⟨⟨_,Zz _ rfl,rfl,rfl⟩,hl.push _⟩,λc hc=>?_,by simpa[VH] using hne,CmpOf.ints_gt (numAt xs) (λ_ _=>VI),λv h' tk hP hk=>?_⟩
 ·show c < (s.heap.push _).objs.size;rw[Yi];rcases Zn.mp hc with rfl |hc
  ·exact YQ _
  ·rcases Zn.mp hc with rfl |hc
   ·exact YL hlt
   ·cases hc
 ·refine h v h' tk (by simpa[VH] using hP) λb o e=>hk b o (λhm=>?_) (Zc _ e);rcases Zn.mp hm with e1 |hm
  ·exact absurd (e1 ▸ Zr e) (ZN _)
  ·cases hm
theorem vO(hc:X.calm=true):aV X (.builtin "max") (λxs H Q=>∃a ns,xs=[.ref a]/\SqT X.K H a (ns.map V.int)/\ns ≠ []/\Q (.int (gq ns)) H):=by
 intro pins s σ H xs us Q I r h;obtain⟨a,ns,rfl,sq,hne,q⟩:=h;obtain⟨u,rfl,ru⟩:=b9 r;cases ru;obtain⟨its,rv,pl,hz⟩:=I.tuple sq;have hi:=bj rv;have hl:s.heap.IsTuple a its.toArray:=pl;obtain⟨ys,e⟩:=hi.allInts.items
 have hns:ns=ys.toList.map (·.1):=by
  have h1:=hi.numsOf;rw[<-VT,<-e];exact h1.symm
 have hsz:0 < ys.size:=by
  have h3:0 < ns.length:=Xx.mpr hne;rw[hns,Za,Zy] at h3;exact h3
 rw[e] at hl;refine nU (I.ok.hd hc) hl hsz λv h' tk hv hk=>?_;obtain⟨t,rfl⟩:=VI hv;obtain⟨b1,b2⟩:=argBest_gt (numAt ys) (ys.size - 1);have key:∀M:Int,M ∈ ns->(∀a,a ∈ ns->a<=M)->∃x H',Inv X pins σ H' { s with heap:=h',toks:=tk }/\aB x (.int M t)/\Q x H':=λM h1 h2=>⟨.int (gq ns),H,I.kept hk,⟨t,by rw[rP h1 h2]⟩,q⟩;refine key _ ?_ λa ha=>?_
 ·rw[hns,VS];exact getD_mem (by rw[Za,Zy];omega)
 ·rw[hns] at ha;obtain⟨j,hj,rfl⟩:=mem_getD ha;rw[Za,Zy] at hj;rw[<-VS];exact b2 j (by omega)
abbrev lK(tu:Bool)(ds:List D)(S:Sto):Option (D × Sto):=match dq ds with
 |some (n::ns)=>some (.int (gq (n::ns)),S)
 |_=>none
theorem vP(hc:X.calm=true):aV X (.builtin "max") (r1 (rSq X.K lK)):=by
 refine aV.imp (aV.or (vN hc) (vO hc)) λxs H Q h=>?_;obtain⟨_,rfl,m,S,tu,ds,a,vs,d,S',R,rfl,sq,vd,e,q⟩:=cp h;unfold lK at e;split at e
 ·rename_i n ns hi;cases e;have ed:=cE hi;subst ed;have ev:=cw vd;subst ev;rcases iw sq with sq |sq
  ·exact .inl ⟨a,n::ns,rfl,sq,by simp,q m H _ (Aft.refl R) bc⟩
  ·exact .inr ⟨a,n::ns,rfl,sq,by simp,q m H _ (Aft.refl R) bc⟩
 ·cases e
abbrev pX(tu:Bool)(ds:List D)(S:Sto):Option (D × Sto):=match tu,dq ds with
 |false,some ns=>some (.int (Wk ns),S)
 |_,_=>none
theorem vQ(hc:X.calm=true):aV X (.builtin "sum") (λxs H Q=>∃ (a:Addr) (ns:List Int),xs=[.ref a]/\SqL X.K H a (ns.map V.int)/\Q (.int (Wk ns)) H):=by
 intro pins s σ H xs us Q I r h;obtain⟨a,ns,rfl,sq,q⟩:=h;obtain⟨u,rfl,ru⟩:=b9 r;cases ru;obtain⟨its,rv,pl,hz⟩:=I.list sq;have hi:=bj rv;have hl:=pl.isList;obtain⟨ys,e⟩:=hi.allInts.items
 have hns:ns=ys.toList.map (·.1):=by
  have h1:=hi.numsOf;rw[<-VT,<-e];exact h1.symm
 rw[e] at hl;refine sum_intListG (I.ok.hd hc) hl λh' tk t' hk=>⟨.int (Wk ns),H,I.kept hk,⟨t',?_⟩,q⟩;rw[preSum_eq,hns,Z5 (by rw[Za,Zy];exact Zf _)]
theorem vR(hc:X.calm=true):aV X (.builtin "sum") (r1 (rSq X.K pX)):=by
 refine aV.imp (vQ hc) λxs H Q h=>?_;obtain⟨_,rfl,m,S,tu,ds,a,vs,d,S',R,rfl,sq,vd,e,q⟩:=cp h;unfold pX at e;split at e
 ·rename_i ns hi;cases e;have ed:=cE hi;subst ed;have ev:=cw vd;subst ev;exact⟨a,ns,rfl,sq,q m H _ (Aft.refl R) bc⟩
 ·cases e
end
theorem yr(a d:Value):argsOk "max" ⟨[a],[(Str.ofString "default", d)]⟩:=by unfold argsOk;kernel_rfl
section
variable {prog:Program} {w:World} {A:Around} {R:Result->Shared->Prop} {I S:Addr} {fp wr:List Addr} {n:Nat} {P:Nat->Value->Prop} {St:Nat->Heap->Prop} {bt:Nat->Nat->Bool} {kw:List (Str × Value)}
theorem tQ:(toString "max" ++ toString ".loop" : String) = "max.loop" := by decide
theorem kc(W:Walks prog w A.in1 I fp wr n P St)(gc:CmpOf prog w A.in1 .Gt P bt)(gS:S ∉ fp):∀ (m i:Nat) (s:Shared) (b:Value) (c:Nat),i+1+m=n->St (i+1) s.heap->P (argBest bt i) b->s.heap.get? S=some { cls:=.type "list", dict:=none,data:=.seq #[b,b] c,slots:=#[] } ->
  (∀v h' tk,P (argBest bt (n - 1)) v->(∀a o,a ∉ wr->a ≠ S->s.heap.get? a=some o->h'.get? a=some o)->R (.ok (.ret v)) { s with heap:=h',toks:=tk })->codeAny (model prog w) A (.builtin "max.loop" ⟨[.ref I,.none,.ref S],kw⟩) R s
 |0,i,s,b,c,e,st,pb,gs,r=>by
  have sw:S ∉ wr:=λh=>gS (W.sub _ h);refine Vy Wy ?_;rw[Around.under_plainId WE _];show wpAny _ A.in1 (V2 (.ref S) >>= _) _ _ s;refine Uf (UF gs rfl ?_);show wpAny _ A.in1 (tryCatch (pyNext (.ref I)) _ >>= _) _ _ s;refine Uf (UK (W.done s _ _ (by rw[<-e];exact st) λh' tk kk=>?_));show wpAny _ A.in1 (Ud S (λ_=>#[]) >>= _) _ _ _;refine Uf (UM (kk S _ sw gs) rfl (Uf (Up (Uw ?_))));exact r b _ tk (by rw[<-e];exact pb) λa o aw aS z=>(ZH _ _ (Ne.symm aS)).trans (kk a o aw z)
 |m+1,i,s,b,c,e,st,pb,gs,r=>by
  have sw:S ∉ wr:=λh=>gS (W.sub _ h);refine Vy Wy ?_;rw[Around.under_plainId WE _];show wpAny _ A.in1 (V2 (.ref S) >>= _) _ _ s;refine Uf (UF gs rfl ?_);show wpAny _ A.in1 (tryCatch (pyNext (.ref I)) _ >>= _) _ _ s;refine Uf (UK (W.item (i+1) s _ _ (by lia) st λv h' tk pv st' kk=>?_));have gs':=kk S _ sw gs;show wpAny _ A.in1 (tryCatch (holding [v,v] (VY .Gt v b >>= _)) _ >>= _) _ _ _;refine Uf (UK (Uo (Uf (gc (i+1) (argBest bt i) v b _ _ _ pv pb ?_))));refine Uf (Uo (UJ ?_));refine Uf (Up (Uw ?_));cases hb:bt (i+1) (argBest bt i) with
  |true=>
   simp only[if_true];refine Uf (UM gs' rfl (Uf (Up ?_)));rw[tQ];refine Uw ⟨VV WE _,kc W gc gS m (i+1) _ v _ (by lia) (W.frame _ _ _ st' λa af o z=>?_) (by simp only[argBest,hb,if_true];exact pv) (Z8 _ gs' rfl) λv' h'' tk'' pv' k2=>?_⟩
   ·exact(ZH _ _ (λz:S=a=>gS (by rw[z];exact af))).trans z
   ·exact r v' h'' tk'' pv' λa o aw aS z=>k2 a o aw aS ((ZH _ _ (Ne.symm aS)).trans (kk a o aw z))
  |false=>
   simp only[ZK,if_false];refine Uf (Up ?_);rw[tQ];refine Uw ⟨VV WE _,kc W gc gS m (i+1) _ b c (by lia) st' (by simp only[argBest,hb,ZK,if_false];exact pb) gs' λv' h'' tk'' pv' k2=>?_⟩;exact r v' h'' tk'' pv' λa o aw aS z=>k2 a o aw aS (kk a o aw z)
theorem vS(W:Walks prog w A.in1 I fp wr n P St)(gc:CmpOf prog w A.in1 .Gt P bt)(gS:S ∉ fp)(gn:0 < n){c:Nat}(st:St 0 s.heap)(gs:s.heap.get? S=some { cls:=.type "list", dict:=none,data:=.seq #[] c,slots:=#[] })
  (r:∀v h' tk,P (argBest bt (n - 1)) v->(∀a o,a ∉ wr->a ≠ S->s.heap.get? a=some o->h'.get? a=some o)->R (.ok (.ret v)) { s with heap:=h',toks:=tk }):codeAny (model prog w) A (.builtin "max.loop" ⟨[.ref I,.none,.ref S],kw⟩) R s:=by
 have sw:S ∉ wr:=λh=>gS (W.sub _ h);refine Vy Wy ?_;rw[Around.under_plainId WE _];show wpAny _ A.in1 (V2 (.ref S) >>= _) _ _ s;refine Uf (UF gs rfl ?_);show wpAny _ A.in1 (tryCatch (pyNext (.ref I)) _ >>= _) _ _ s;refine Uf (UK (W.item 0 s _ _ gn st λv h' tk pv st' kk=>?_));have gs':=kk S _ sw gs;show wpAny _ A.in1 (Ud S (λ_=>#[v,v]) >>= _) _ _ _;refine Uf (UM gs' rfl ?_);rw[tQ];refine Uw ⟨VV WE _,kc W gc gS (n - 1) 0 _ v _ (by lia) (W.frame _ _ _ st' λa af o z=>?_) pv (Z8 _ gs' rfl) λv' h'' tk'' pv' k2=>?_⟩
 ·exact(ZH _ _ (λz:S=a=>gS (by rw[z];exact af))).trans z
 ·exact r v' h'' tk'' pv' λa o aw aS z=>k2 a o aw aS ((ZH _ _ (Ne.symm aS)).trans (kk a o aw z))
theorem yt(W:Walks prog w A.in1 I fp wr 0 P St)(gS:S ∉ fp){c:Nat}(st:St 0 s.heap)(gs:s.heap.get? S=some { cls:=.type "list", dict:=none,data:=.seq #[] c,slots:=#[] })
  (r:∀h' tk,(∀a o,a ∉ wr->s.heap.get? a=some o->h'.get? a=some o)->R (.ok (.ret d)) { s with heap:=h',toks:=tk }):codeAny (model prog w) A (.builtin "max.loop" ⟨[.ref I,.none,.ref S],[(Str.ofString "default", d)]⟩) R s:=by
 refine Vy Wy ?_;rw[Around.under_plainId WE _];show wpAny _ A.in1 (V2 (.ref S) >>= _) _ _ s;refine Uf (UF gs rfl ?_);show wpAny _ A.in1 (tryCatch (pyNext (.ref I)) _ >>= _) _ _ s;refine Uf (UK (W.done s _ _ st λh' tk kk=>?_));exact Uf (UE (Uw (r h' tk kk)))
variable {E:Value->Shared->Prop} {s:Shared} {l:Addr} {xs:Array (Int × Tok)}
theorem yu(hh:A.handled=none)(hl:s.heap.IsList l (VH xs))
  (h1:0 < xs.size->∀v h' tk,(VH xs)[argBest (λi j=>decide (numAt xs i > numAt xs j)) (xs.size - 1)]?=some v->(∀b o,s.heap.get? b=some o->h'.get? b=some o)->Q v { s with heap:=h',toks:=tk })
  (h2:xs.size=0->∀h' tk,(∀b o,s.heap.get? b=some o->h'.get? b=some o)->Q d { s with heap:=h',toks:=tk }):wpAny (model prog w) A (call (.builtin "max") [.ref l] [(Str.ofString "default", d)]) Q E s:=by
 refine kmb_tree F.kind_max F.plain_max F.entry_max (yr _ _) ?_;show wpAny _ A.in1 (Builtin.Builtins.bindParams "max" ["key", "default"] 0 ⟨[],[(Str.ofString "default", d)]⟩ >>= _) _ _ s;refine Uf (Uu (show Builtin.Builtins.bindParams "max" ["key", "default"] 0 ⟨[],[(Str.ofString "default", d)]⟩=pure [none,some d] from rfl) ?_);refine Uf (Uw ?_);refine Uf (iter_intList hl λs2 e st fpl lI=>?_);subst e;have W:=Walks.list (prog:=prog) (w:=w) (A:=A.in1) hh s.heap.objs.size l lI (VH xs);refine Uf (Ut ?_);have gS:∀b ∈ [s.heap.objs.size,l],b < (s.heap.push { cls:=.type "list_iterator", data:=.fields #[.ref l,.int 0 0] }).objs.size:=fpl;rw[tQ];by_cases hz:xs.size=0
 ·have e0:(VH xs).size=0:=by simpa[VH] using hz
  rw[e0] at W;refine Uw ⟨VV WE _,yt W (λhm=>ZN _ (fpl _ hm)) (W.frame _ _ _ st λb _ o e=>Zc _ e) (Zz _ rfl) λh' tk hk=>?_⟩;exact h2 hz h' tk (VU λb o hb e=>hk b o hb (Zc _ e))
 ·refine Uw ⟨VV WE _,vS W (CmpOf.ints_gt (numAt xs) (λ_ _=>VI)) (λhm=>ZN _ (fpl _ hm)) (by simp[VH];lia) (W.frame _ _ _ st λb _ o e=>Zc _ e) (Zz _ rfl) λv h' tk pv hk=>?_⟩;exact h1 (by lia) v h' tk (by simpa[VH] using pv) (VU λb o hb e=>hk b o hb (ZF (Zr e)) (Zc _ e))
end
abbrev vT(c:Int):List Int->Int
 |[]=>c
 |n::ns=>gq (n::ns)
abbrev fY(c:Int)(tu:Bool)(ds:List D)(S:Sto):Option (D × Sto):=match tu,dq ds with
 |false,some ns=>some (.int (vT c ns),S)
 |_,_=>none
section
variable {X:Cx} {K:W7} {m:List Addr} {H:Hp} {S:Sto} {e:Expr} {t:TA} {p pos kp vp:Pos} {c:Int} {j:Nat}
theorem G9(hc:X.calm=true)(hg:Gl X "max")(hm:X.mg "max" = none)(hdb:(("max" : Str) == ("__debug__" : Str))=false)(ha:PA X [e] t)(he:V6 [e] X.env=(false,eval e X.env)::V6 [] X.env) :
  PE X (.Call (.Name "max" p) [e] [⟨some "default", .Constant (.int c) j vp,kp⟩] pos) (tCB (r1 (rSq X.K (fY c))) t):=by
 intro pins s σ H Q I h;refine Ue (cV I hg hm Wn ?_ (by decide) hdb);refine callWith_kw (thn (ha pos pins s σ H _ I h) λus s1 ⟨vs,H1,I1,r,q1⟩=>?_) (by rw[he];rfl) (by rw[he];rfl) rfl rfl;refine thn (sW (nm:=some "default") (kpos:=kp) (nh (X:=X) (i:=c) (j:=j) (pos:=vp)) xo pos pins s1 σ H1 _ I1 (show bR (tC (.int c)) ij σ H1 (λzs H2=>zs=[.int c]/\H2=H1) from ⟨rfl,rfl⟩)) λks s2 ⟨zs,H2,I2,rz,ez,eH⟩=>?_;subst ez eH;obtain⟨u,rfl,ru⟩:=b9 rz;obtain⟨tk,rfl⟩:=ru;obtain⟨_,rfl,m,S,tu,ds,a,ws,d,S',R,rfl,sq,vd,e',q⟩:=cp q1;obtain⟨u',rfl,ru'⟩:=b9 r;cases ru';unfold fY at e';split at e'
 ·rename_i ns hi;cases e';have ed:=cE hi;subst ed;have ev:=cw vd;subst ev;have sq:SqL X.K H2 a (ns.map V.int):=sq;obtain⟨its,rv,pl,hz⟩:=I2.list sq;have hi:=bj rv;have hl:=pl.isList;obtain⟨ys,ey⟩:=hi.allInts.items
  have hns:ns=ys.toList.map (·.1):=by
   have h1:=hi.numsOf;rw[<-VT,<-ey];exact h1.symm
  have hlen:ns.length=ys.size:=by rw[hns,Za,Zy]
  rw[ey] at hl;refine yu (I2.ok.hd hc) hl (λhsz v h' tk' hv hk=>?_) (λhsz h' tk' hk=>?_)
  ·obtain⟨t',rfl⟩:=VI hv;obtain⟨b1,b2⟩:=argBest_gt (numAt ys) (ys.size - 1)
   have et:vT c ns=gq ns:=by
    cases ns with
    |nil=>rw[Z3] at hlen;lia
    |cons n ns=>rfl
   have key:∀M:Int,M ∈ ns->(∀a,a ∈ ns->a<=M)->∃x H',Inv X pins σ H' { s2 with heap:=h',toks:=tk' }/\aB x (.int M t')/\Q x H':=λM h1 h2=>⟨.int (vT c ns),H2,I2.kept hk,⟨t',by rw[rP h1 h2,et]⟩,q m H2 _ (Aft.refl R) bc⟩;refine key _ ?_ λa ha=>?_
   ·rw[hns,VS];exact getD_mem (by rw[Za,Zy];lia)
   ·rw[hns] at ha;obtain⟨j,hj,rfl⟩:=mem_getD ha;rw[Za,Zy] at hj;rw[<-VS];exact b2 j (by lia)
  ·have en:ns=[]:=ZV.mp (by lia);subst en;exact⟨.int c,H2,I2.kept hk,⟨tk,rfl⟩,q m H2 _ (Aft.refl R) bc⟩
 ·cases e'
end
section
variable {X:Cx} {K:W7} {m:List Addr} {H:Hp} {S:Sto}
abbrev dr(d:D)(S:Sto):Bool:=match d with
 |.ref n=>(ak S n).isSome
 |_=>false
abbrev isTup:D->Bool
 |.tup _=>true
 |_=>false
abbrev vU(c:D->Sto->Bool)(f:D->List D->Sto->Option (D × Sto))(x:XE)(y:XA):XE:=λρ S=>bnd (x ρ S) λd S1=>if c d S1=true then bnd (y ρ S1) λas S2=>f d as S2 else none
def rM(K:W7)(f:D->List D->Sto->Option (D × Sto)):V->List V->Hp->VK->Prop:=λv vs H Q=>∃m S a as d S',Rel K m S H/\VD K m H a v/\VDs K m H as vs/\f a as S=some (d,S')/\∀m' H' u,Aft K m H S' m' H'->VD K m' H' d u->Q u H'
theorem nV(hT:∀ {m H S d v},Rel K m S H->VD K m H d v->c d S=true->tyV K T v H)(h:tE K (vU c f x y) σ H Q):tBM K T (rM K f) (tE K x) (tAr K y) σ H Q:=by
 obtain⟨m,ρ,S,d,S',E,R,e,q⟩:=h;obtain⟨a,S1,e1,e⟩:=ab e;split at e
 ·rename_i hc;obtain⟨as,S2,e2,e⟩:=ab e;refine⟨m,ρ,S,a,S1,E,R,e1,λm1 H1 v A1 va=>⟨hT A1.rel va hc,m1,ρ,S1,as,S2,E.mono R A1.ext,A1.rel,e2,λm2 H2 vs A2 vb=>?_⟩⟩;exact⟨m2,S2,a,as,d,S',A2.rel,va.mono A1.rel A2.ext,vb,e,λm3 H3 u A3 vd=>q m3 H3 u ((A1.trans A2).trans A3) vd⟩
 ·cases e
theorem rQ(R:Rel K m S H)(vd:VD K m H d v)(h:dr d S=true):tyV K "list" v H:=by
 cases d with
 |ref n=>
  simp only[dr] at h;obtain⟨ds,hs⟩:=Z2.mp h;obtain⟨p,vs,hp,sq,vds⟩:=R.seq hs;obtain⟨p',hp',rfl⟩:=vd.refs;rw[hp] at hp';cases hp';exact .inl ⟨rfl,vs,sq⟩
 |_=>cases h
theorem Ha(R:Rel K m S H)(vd:VD K m H d v)(h:(λd (_:Sto)=>isTup d) d S=true):tyV K "tuple" v H:=by
 cases d with
 |tup ds=>
  obtain⟨a,vs,rfl,sq,_⟩:=vd.tups;exact .inr (.inl ⟨rfl,.inr ⟨vs,sq⟩⟩)
 |_=>cases h
abbrev chg(n:Nat)(S:Sto)(f:List D->Option (D × List D)):Option (D × Sto):=match S[n]? with
 |some (.lst ds)=>(f ds).map λr=>(r.1,S.set n (.lst r.2))
 |_=>none
theorem kf{n:Nat}(h:chg n S f=some (d,S')):∃ds es,S[n]?=some (.lst ds)/\f ds=some (d,es)/\S'=S.set n (.lst es):=by
 unfold chg at h;cases hn:S[n]? with
 |none=>rw[hn] at h;cases h
 |some o=>
  rw[hn] at h;cases o with
  |lst ds=>
   dsimp only at h;cases hf:f ds with
   |none=>rw[hf] at h;cases h
   |some r=>rw[hf] at h;cases h;exact⟨ds,r.2,rfl,hf,rfl⟩
  |_=>cases h
abbrev rR(d:D)(as:List D)(S:Sto):Option (D × Sto):=match d,as with
 |.ref n,[e]=>chg n S λds=>if ds.length < 100000 then some (.non,ds++[e]) else none
 |_,_=>none
abbrev gr(d:D)(as:List D)(S:Sto):Option (D × Sto):=match d,as with
 |.ref n,[.int i]=>chg n S λds=>match ixN ds.length i with
  |some k=>(ds[k]?).map λx=>(x,ds.eraseIdx k)
  |none=>none
 |_,_=>none
theorem kg{n:Nat}(R:Rel K m S H)(vd:VD K m H (.ref n) v)(hn:S[n]?=some (.lst ds)):∃a vs,v = .ref a/\m[n]?=some a/\H a=some (.lst vs)/\VDs K m H ds vs:=by
 obtain⟨a,vs,ha,hH,q⟩:=R.lst hn;obtain⟨a',ha',e⟩:=vd.refs;rw[ha] at ha';cases ha';exact⟨a,vs,e,ha,hH,q⟩
theorem fI{n:Nat}(R:Rel K m S H)(ha:m[n]?=some a)(vd:VDs K m H es ws):Aft K m H (S.set n (.lst es)) m (upd H a (.lst ws)):=let ⟨x,y⟩:=R.write ha vd;⟨x,y⟩
theorem Hb:MtR X "list.append" (rM X.K rR):=by
 intro pins s σ H x xs v us Q I rx rs h;refine ma pins s σ H x xs v us Q I rx rs ?_;obtain⟨m,S,a,as,d,S',R,va,vs,e,q⟩:=h;unfold rR at e;split at e
 ·rename_i n z;obtain⟨ds,es,hn,hf,rfl⟩:=kf e;split at hf
  ·rename_i hl;cases hf;obtain⟨p,ws,rfl,hp,hH,vds⟩:=kg R va hn;obtain⟨y,rfl,vy⟩:=BZ vs;refine⟨p,ws,y,rfl,rfl,hH,by rw[V4,<-vds.length];lia,q m _ _ (fI R hp (vds.append (.cons vy .nil))) jX⟩
  ·cases hf
 ·cases e
theorem pY:∀ {ds:List D} {vs:List V} (k:Nat),VDs K m H ds vs->VDs K m H (ds.eraseIdx k) (vs.eraseIdx k)
 |[],vs,k,h=>by rw[VDs] at h;subst h;exact .nil
 |d::ds,vs,0,h=>by
  rw[VDs] at h;obtain⟨y,r,rfl,p,q⟩:=h;exact q
 |d::ds,vs,k+1,h=>by
  rw[VDs] at h;obtain⟨y,r,rfl,p,q⟩:=h;exact .cons p (pY k q)
theorem vV:MtR X "list.pop" (rM X.K gr):=by
 intro pins s σ H x xs v us Q I rx rs h;refine xy pins s σ H x xs v us Q I rx rs ?_;obtain⟨m,S,a,as,d,S',R,va,vs,e,q⟩:=h;unfold gr at e;split at e
 ·rename_i n i;obtain⟨ds,es,hn,hf,rfl⟩:=kf e;cases hk:ixN ds.length i with
  |none=>rw[hk] at hf;cases hf
  |some k=>
   rw[hk] at hf;dsimp only at hf;cases hl:ds[k]? with
   |none=>rw[hl] at hf;cases hf
   |some z=>
    rw[hl] at hf;cases hf;obtain⟨p,ws,rfl,hp,hH,vds⟩:=kg R va hn;obtain⟨y,rfl,vi⟩:=BZ vs;cases vi.ints;obtain⟨y,hy,vy⟩:=vds.get hl;have A:=fI R hp (pY k vds);obtain⟨h1,h2,h3,h4⟩:=ni hk;have hz:=(I.lst hH).choose_spec.choose_spec.2.2;have hle:=vds.length;rw[V4] at hz;exact⟨p,ws,i,k,y,rfl,rfl,hH,by lia,by lia,by rw[<-vds.length];exact h1,hy,q m _ _ A (vy.mono R A.ext)⟩
 ·cases e
abbrev rT(d:D)(as:List D)(S:Sto):Option (D × Sto):=match d,as with
 |.tup ds,[x]=>if cb x=true/\ds.all cb=true then some (.int (ds.countP λz=>eqF z x:Nat),S) else none
 |_,_=>none
theorem B3:MtR X "tuple.count" (rM X.K rT):=by
 intro pins s σ H x xs v us Q I rx rs h;refine vA X.K rfl pins s σ H x xs v us Q I rx rs ?_;obtain⟨m,S,a,as,d,S',R,va,vs,e,q⟩:=h;unfold rT at e;split at e
 ·rename_i ds z;split at e
  ·rename_i hf;cases e;obtain⟨p,ws,rfl,sq,vds⟩:=va.tups;obtain⟨y,rfl,vy⟩:=BZ vs;exact⟨p,ws,y,rfl,rfl,.of sq,jr vy hf.1,gX vds hf.2,q m H _ (Aft.refl R) (by rw[mw vy hf.1 vds hf.2];exact bc)⟩
  ·cases e
 ·cases e
abbrev iB(o i v:D)(S:Sto):Option Sto:=match o,i with
 | .ref n,.int k=>(match S[n]? with
  |some (.lst ds)=>(ixN ds.length k).map λj=>S.set n (.lst (ds.set j v))
  | _=>none)
 |o,i=>x9 o i v S
def LI(K:W7):A8:=λo i v H Q=>∃m S a b c S',Rel K m S H/\VD K m H a o/\VD K m H b i/\VD K m H c v/\iB a b c S=some S'/\∀m' H',Aft K m H S' m' H'->Q H'
theorem LJ(hu:X.A.units+64 < cLine):F7 X (LI X.K):=by
 intro pins s σ H o i v ov iv u Q I ro ri rv h;obtain⟨m,S,a,b,c,S',R,va,vb,vc,e,q⟩:=h;unfold iB at e;split at e
 ·rename_i n k;cases hn:S[n]? with
  |none=>rw[hn] at e;cases e
  |some ob=>
   rw[hn] at e;cases ob with
   |lst ds=>
    dsimp only at e;cases hj:ixN ds.length k with
    |none=>rw[hj] at e;cases e
    |some j=>
     rw[hj] at e;cases e;obtain⟨p,ws,rfl,hp,hH,vds⟩:=kg R va hn;cases vb.ints;exact xw pins s σ H _ _ v ov iv u Q I ro ri rv ⟨p,ws,k,j,rfl,rfl,hH,by rw[<-vds.length];exact hj,q m _ (fI R hp (vds.set vc))⟩
   |_=>cases e
 ·obtain⟨k,n,kss,ds,hk,rfl,hn,hl,rfl⟩:=vD e;obtain⟨a,b,H',rfl,rfl,g,A⟩:=BQ R hk hn hl vb va vc;cases ro;cases ri;exact vt (show X.A.units+2 < cLine by lia) I g rfl rv λs' I'=>⟨H',I',q m H' A⟩
mutual
noncomputable def eB(t:D->Option Dw.D):List D->Option (List Dw.D)
 |[]=>some []
 |d::ds=>match t d,eB t ds with
  |some x,some xs=>some (x::xs)
  |_,_=>none
end
abbrev cM:Nat->Sto->D->Option Dw.D
 |0,_,_=>none
 |n+1,S,d=>match d with
  |.non=>some .non
  |.bl b=>some (.bl b)
  |.int i=>some (.int i)
  |.str x=>some (.str x)
  |.tup ds=>(eB (cM n S) ds).map .tup
  | .ref k=>(match S[k]? with
   |some (.lst ds)=>(eB (cM n S) ds).map .lst
   | _=>none)
theorem kh(ht:∀d x v,t d=some x->VD K m H d v->Dw.Br [] H x v):∀ {ds:List D} {xs:List Dw.D} {vs:List V},eB t ds=some xs->VDs K m H ds vs->Dw.BrL [] H xs vs
 |[],xs,vs,e,h=>by rw[VDs] at h;simp only[eB] at e;cases e;rw[h,Dw.BrL]
 |d::ds,xs,vs,e,h=>by
  rw[VDs] at h;obtain⟨y,r,rfl,p,q⟩:=h;simp only[eB] at e;cases h1:t d with
  |none=>rw[h1] at e;cases e
  |some x=>
   cases h2:eB t ds with
   |none=>rw[h1,h2] at e;cases e
   |some ys=>
    rw[h1,h2] at e;cases e;rw[Dw.BrL];exact⟨y,r,rfl,ht _ _ _ h1 p,kh ht h2 q⟩
theorem nW(R:Rel K m S H):∀ (n:Nat) (d:D) (x:Dw.D) (v:V),cM n S d=some x->VD K m H d v->Dw.Br [] H x v
 |0,_,_,_,e,_=>by simp[cM] at e
 |n+1,d,x,v,e,h=>by
  cases d with
  |non=>simp only[cM] at e;cases e;rw[Dw.Br];exact h.nons
  |bl _=>simp only[cM] at e;cases e;rw[Dw.Br];exact h.bls
  |int _=>simp only[cM] at e;cases e;rw[Dw.Br];exact h.ints
  |str _=>simp only[cM] at e;cases e;rw[Dw.Br];exact h.strs
  |tup ds=>
   simp only[cM] at e;cases ht:eB (cM n S) ds with
   |none=>rw[ht] at e;cases e
   |some xs=>
    rw[ht] at e;cases e;obtain⟨a,vs,rfl,sq,p⟩:=h.tups;rw[Dw.Br];exact⟨a,vs,rfl,sq,kh (nW R n) ht p⟩
  |ref k=>
   simp only[cM] at e;obtain⟨a,ha,rfl⟩:=h.refs;cases hk:S[k]? with
   |none=>rw[hk] at e;cases e
   |some o=>
    rw[hk] at e;obtain⟨a',ha',r⟩:=R.ob k o hk;rw[ha] at ha';cases ha';cases o with
    |lst ds=>
     dsimp only at e;cases ht:eB (cM n S) ds with
     |none=>rw[ht] at e;cases e
     |some xs=>
      rw[ht] at e;cases e;obtain⟨vs,hH,p⟩:=r;rw[Dw.Br];exact⟨a,vs,rfl,by simp,hH,kh (nW R n) ht p⟩
    |frz ds=>cases e
    |dic ks ds=>cases e
open Classical in
abbrev kj(d:D)(S:Sto):Option (D × Sto):=match cM 100 S d with
 |some t=>if Dw.Shn t then some (.str (Dw.aZ t).shown,S) else none
 |none=>none
theorem rV{k:Nat}(hr:Room k X.A):aV X (.builtin "repr") (r1 (rS1 X.K kj)):=by
 refine aV.imp (Dw.rl hr) λxs H Q h=>?_;obtain⟨x,rfl,m,S,a,d,S',R,va,e,q⟩:=cp h;unfold kj at e;cases ht:cM 100 S a with
 |none=>rw[ht] at e;cases e
 |some t=>
  rw[ht] at e;dsimp only at e;split at e
  ·rename_i hs;cases e;exact⟨x,[],t,rfl,nW R 100 a t x ht va,hs,q m H _ (Aft.refl R) nB⟩
  ·cases e
end
section
variable {X:Cx} {K:W7} {m:List Addr} {H:Hp} {S:Sto}
abbrev rX(d:D)(as:List D)(S:Sto):Option (D × Sto):=match d,as with
 | .ref n,[.ref k]=>(match S[k]? with
  |some (.lst ys)=>chg n S λds=>if ds.length+ys.length<=100000 then some (.non,ds++ys) else none
  | _=>none)
 |_,_=>none
theorem B4:MtR X "list.extend" (rM X.K rX):=by
 intro pins s σ H x xs v us Q I rx rs h;refine u0 pins s σ H x xs v us Q I rx rs ?_;obtain⟨m,S,a,as,d,S',R,va,vs,e,q⟩:=h;unfold rX at e;split at e
 ·rename_i n k;split at e
  ·rename_i ys hk;obtain⟨ds,es,hn,hf,rfl⟩:=kf e;split at hf
   ·rename_i hl;cases hf;obtain⟨p,ws,rfl,hp,hH,vds⟩:=kg R va hn;obtain⟨y,rfl,v1⟩:=BZ vs;obtain⟨p2,ws2,rfl,hp2,hH2,pS⟩:=kg R v1 hk;exact⟨p,p2,ws,ws2,rfl,rfl,hH,hH2,by rw[V4,<-vds.length,<-pS.length];lia,q m _ _ (fI R hp (vds.append pS)) jX⟩
   ·cases hf
  ·cases e
 ·cases e
end
@[inline]abbrev Nxt:=Nat->Sto->Option (Option D)
@[inline]abbrev XI:=Rho->Sto->Option (Nxt × Sto)
structure ExtB(B:List Addr)(m:List Addr)(H:Hp)(m':List Addr)(H':Hp):Prop where
 pre:m <+: m'
 keep:∀a o,H a=some o->a ∉ m->a ∉ B->H' a=some o
 new:∀a,a ∈ m'->a ∉ m->H a=none
 nb:∀b,b ∈ B->b ∉ m'
def AtB(B:List Addr)(m:List Addr)(H:Hp):Prop:=∀b,b ∈ B->(∃vs,H b=some (.lst vs))/\b ∉ m
theorem Ext.toB(hB:AtB B m H)(x:Ext m H m' H'):ExtB B m H m' H':=⟨x.pre,λa o h n _=>x.keep a o h n,x.new,λb hb z=>by
 obtain⟨⟨vs,e⟩,n⟩:=hB b hb;have:=x.new b z n;rw[e] at this;cases this⟩
theorem ExtB.trans(x:ExtB B m H m1 H1)(y:ExtB B m1 H1 m2 H2):ExtB B m H m2 H2:=by
 refine⟨x.pre.trans y.pre,λa o h n nb=>?_,λa h n=>?_,y.nb⟩
 ·have n1:a ∉ m1:=λz=>by have:=x.new a z n;rw[this] at h;cases h
  exact y.keep a o (x.keep a o h n nb) n1 nb
 ·by_cases h1:a ∈ m1
  ·exact x.new a h1 n
  ·cases e:H a with
   |none=>rfl
   |some o=>
    by_cases hb:a ∈ B
    ·exact absurd h (y.nb a hb)
    ·have:=x.keep a o e n hb;rw[y.new a h h1] at this;cases this
theorem AtB.ext(hB:AtB B m H)(x:Ext m H m' H'):AtB B m' H':=λb hb=>by
 obtain⟨⟨vs,e⟩,n⟩:=hB b hb;exact⟨⟨vs,x.keep _ _ e n⟩,(x.toB hB).nb b hb⟩
def IOk(K:W7)(B:List Addr)(J:It)(nx:Nxt)(m0:List Addr)(H0:Hp):Prop:=∀ (m:List Addr) (S:Sto) (H:Hp) (i:Nat),ExtB B m0 H0 m H->Rel K m S H ->
 (nx i S=some none->J.stop i H)/\(∀d,nx i S=some (some d)->J.go i H/\∀x H',J.yld i H x H'->Aft K m H S m H'/\VD K m H' d x)
def tIt(K:W7)(B:List Addr)(x:XI):TI:=λσ H R=>∃m ρ S nx S',EnvR K m H ρ σ/\Rel K m S H/\AtB B m H/\x ρ S=some (nx,S')/\∀m' H' J,Aft K m H S' m' H'->IOk K B J nx m' H'->R J H'
abbrev nxL(ds:List D):Nxt:=λi _=>some ds[i]?
abbrev nxS(n:Nat):Nxt:=λi S=>(ak S n).map λds=>ds[i]?
abbrev nxR(lo:Int)(n:Nat):Nxt:=λi _=>some (if i < n then some (.int (lo+i)) else none)
abbrev mo(i:Nat)(d:D):D:=.tup [.int i,d]
abbrev enm(ds:List D)(i:Nat):Option (Option D):=if i<=ds.length then some (ds[i]?.map (mo i)) else none
abbrev rY(ds:List D):Nxt:=λi _=>enm ds i
abbrev B5(n:Nat):Nxt:=λi S=>(ak S n).bind λds=>enm ds i
section
variable {X:Cx} {K:W7} {m B:List Addr} {H:Hp} {S:Sto}
theorem B6(R:Rel K m0 S0 H0)(hB:AtB B m0 H0)(x:ExtB B m0 H0 m H)(h:H0 a=some (.tup xs)):H a=some (.tup xs):=x.keep _ _ h (R.notTup h) λz=>by
 obtain⟨⟨vs,e⟩,_⟩:=hB a z;rw[e] at h;cases h
theorem VDs.monoB(R:Rel K m0 S0 H0)(hB:AtB B m0 H0)(x:ExtB B m0 H0 m H)(h:VDs K m0 H0 ds vs):VDs K m H ds vs:=VDs.mono0 x.pre (λ_ _=>B6 R hB x) h
theorem VD.monoB(R:Rel K m0 S0 H0)(hB:AtB B m0 H0)(x:ExtB B m0 H0 m H)(h:VD K m0 H0 d v):VD K m H d v:=VD.mono0 x.pre (λ_ _=>B6 R hB x) h
theorem EnvR.monoB(R:Rel K m0 S0 H0)(hB:AtB B m0 H0)(x:ExtB B m0 H0 m H)(h:EnvR K m0 H0 ρ σ):EnvR K m H ρ σ:=
 ⟨h.len,λi d e=>let ⟨v,p,q⟩:=h.at_ i d e;⟨v,p,VD.monoB R hB x q⟩⟩
theorem pZ(h:∀m S H i o,ExtB B m0 H0 m H->Rel K m S H->nx i S=some o->∃ds vs,o=ds[i]?/\SqL K H a vs/\VDs K m H ds vs):IOk K B (Itl K a) nx m0 H0:=by
 intro m S H i x R;refine⟨λe=>?_,λd e=>?_⟩
 ·obtain⟨ds,vs,e',sq,vd⟩:=h m S H i _ x R e;exact⟨vs,sq,by rw[<-vd.length];exact Z7.mp e'.symm⟩
 ·obtain⟨ds,vs,e',sq,vd⟩:=h m S H i _ x R e;obtain⟨v,hv,vv⟩:=vd.get e'.symm;refine⟨⟨vs,v,sq,hv⟩,λy H' ⟨eH,hy⟩=>?_⟩;subst eH;have:=hy vs sq;rw[hv] at this;cases this;exact⟨Aft.refl R,vv⟩
theorem B7(R0:Rel K m0 S0 H0)(hB:AtB B m0 H0)(sq:H0 a=some (.tup vs))(vd:VDs K m0 H0 ds vs):IOk K B (Itt K a) (nxL ds) m0 H0:=by
 intro m S H i x R;have sq':SqT K H a vs:=.of (B6 R0 hB x sq);have vd':=vd.monoB R0 hB x;refine⟨λe=>⟨vs,sq',?_⟩,λd e=>?_⟩
 ·rw[<-vd'.length];exact Z7.mp (Option.some.inj e)
 ·obtain⟨v,hv,vv⟩:=vd'.get (Option.some.inj e);refine⟨⟨vs,v,sq',hv⟩,λy H' ⟨eH,hy⟩=>?_⟩;subst eH;have:=hy vs sq';rw[hv] at this;cases this;exact⟨Aft.refl R,vv⟩
theorem tR{lo:Int}{n:Nat}:IOk K B (Itr lo n) (nxR lo n) m0 H0:=by
 intro m S H i x R;unfold nxR;refine⟨λe=>?_,λd e=>?_⟩
 ·split at e
  ·cases e
  ·show n<=i;lia
 ·split at e
  ·rename_i hi;cases e;exact⟨hi,λy H' ⟨eH,hy⟩=>by subst eH;subst hy;exact⟨Aft.refl R,bc⟩⟩
  ·cases e
theorem nX(h:∀m S H i o,ExtB B m0 H0 m H->Rel K m S H->nx i S=some o->∃ds vs,enm ds i=some o/\sqf K H a vs/\VDs K m H ds vs):IOk K B (Ite K a sqf) nx m0 H0:=by
 intro m S H i x R;refine⟨λe=>?_,λd e=>?_⟩
 ·obtain⟨ds,vs,e',sq,vd⟩:=h m S H i _ x R e;unfold enm at e';split at e'
  ·rename_i hl;refine⟨vs,sq,?_⟩;rw[<-vd.length];cases hd:ds[i]? with
   |none=>have:=Z7.mp hd;lia
   |some z=>rw[hd] at e';cases e'
  ·cases e'
 ·obtain⟨ds,vs,e',sq,vd⟩:=h m S H i _ x R e;unfold enm at e';split at e'
  ·cases hd:ds[i]? with
   |none=>rw[hd] at e';cases e'
   |some z=>
    rw[hd] at e';cases e';obtain⟨v,hv,vv⟩:=vd.get hd;refine⟨⟨vs,v,sq,hv⟩,λy H' ⟨T,hT,ey,hy⟩=>?_⟩;subst ey;have eH:=hy vs v sq hv;subst eH;have xb:=Ext.beside R hT (.tup [.int i,v]);exact⟨⟨xb,R.beside hT _⟩,nD a8 (.cons bc (.cons (vv.mono R xb) .nil))⟩
  ·cases e'
abbrev OQ(d:D):Option Nxt:=match d with
 |.tup ds=>some (nxL ds)
 |.ref n=>some (nxS n)
 |_=>none
abbrev xIV(x:XE):XI:=λρ S=>bnd (x ρ S) λd S1=>match d with
 |.tup ds=>some (nxL ds,S1)
 |.ref n=>if (ak S1 n).isSome=true then some (nxS n,S1) else none
 |_=>none
abbrev xIT(x:XA):XI:=λρ S=>bnd (x ρ S) λds S1=>some (nxL ds,S1)
abbrev xEV(x:XE):XI:=λρ S=>bnd (x ρ S) λd S1=>match d with
 |.tup ds=>some (rY ds,S1)
 |.ref n=>if (ak S1 n).isSome=true then some (B5 n,S1) else none
 |_=>none
abbrev xET(x:XA):XI:=λρ S=>bnd (x ρ S) λds S1=>some (rY ds,S1)
abbrev lim(i:Int):Bool:=decide (-(2 ^ 62)<=i) && decide (i < 2 ^ 62)
abbrev xR1(x:XE):XI:=λρ S=>bnd (x ρ S) λd S1=>match d with
 |.int j=>if lim j=true then some (nxR 0 j.toNat,S1) else none
 |_=>none
abbrev xR2(x y:XE):XI:=λρ S=>bnd (x ρ S) λd S1=>bnd (y ρ S1) λe S2=>match d,e with
 |.int i,.int j=>if lim i=true/\lim j=true then some (nxR i (j - i).toNat,S2) else none
 |_,_=>none
theorem e8{i:Int}(h:lim i=true):-(2 ^ 62)<=i/\i < 2 ^ 62:=by simpa[lim] using h
theorem ju{n:Nat}(ha:m0[n]?=some a)(x:m0 <+: m)(R:Rel K m S H)(hs:ak S n=some ds):∃vs,SqL K H a vs/\VDs K m H ds vs:=by
 obtain⟨p,vs,hp,sq,vd⟩:=R.seq hs;have:=jm x ha;rw[this] at hp;cases hp;exact⟨vs,sq,vd⟩
theorem LK(hB:AtB B m H)(h:H a=none):a ∉ B:=λz=>by
 obtain⟨⟨vs,e⟩,_⟩:=hB a z;rw[h] at e;cases e
theorem Oh(h:tIt K B (xIV x) σ H R):xh K (tE K x) σ H R\/K5 K (tE K x) σ H R:=by
 obtain⟨m,ρ,S,nx,S',E,Rl,hB,e,q⟩:=h;obtain⟨d,S1,e1,e⟩:=ab e;cases d with
 |tup ds=>
  cases e;refine .inr ⟨m,ρ,S,_,_,E,Rl,e1,λm1 H1 v A1 vd=>?_⟩;obtain⟨a,vs,rfl,sq,vds⟩:=vd.tups;exact⟨a,rfl,⟨vs,.of sq⟩,q m1 H1 _ A1 (B7 A1.rel (hB.ext A1.ext) sq vds)⟩
 |ref n=>
  dsimp only at e;split at e
  ·rename_i hs;cases e;refine .inl ⟨m,ρ,S,_,_,E,Rl,e1,λm1 H1 v A1 vd=>?_⟩;obtain⟨a,ha,rfl⟩:=vd.refs;obtain⟨ds,hds⟩:=Z2.mp hs;obtain⟨vs,sq,vds⟩:=ju ha (Z9 _) A1.rel hds;refine⟨a,rfl,⟨vs,sq⟩,q m1 H1 _ A1 (pZ λm2 S2 H2 i o x2 R2 e2=>?_)⟩;unfold nxS at e2;cases h2:ak S2 n with
   |none=>rw[h2] at e2;cases e2
   |some es=>
    rw[h2] at e2;cases e2;obtain⟨ws,sq2,vd2⟩:=ju ha x2.pre R2 h2;exact⟨es,ws,rfl,sq2,vd2⟩
  ·cases e
 |_=>cases e
theorem Oi(h:tIt K B (xIT x) σ H R):xh K (gm K x) σ H R:=by
 obtain⟨m,ρ,S,nx,S',E,Rl,hB,e,q⟩:=h;obtain⟨ds,S1,e1,e⟩:=ab e;cases e;refine⟨m,ρ,S,_,_,E,Rl,e1,λm1 H1 a vs A1 sq n1 n2 n3 vd=>⟨a,rfl,⟨vs,.of sq⟩,q m1 H1 _ A1 (pZ λm2 S2 H2 i o x2 R2 e2=>?_)⟩⟩;cases e2;exact⟨ds,vs,rfl,.of (x2.keep _ _ sq n1 (LK hB n3)),vd.monoB A1.rel (hB.ext A1.ext) x2⟩
theorem LL(h:tIt K B (xEV x) σ H R):GG K (bR (tE K x) ij) σ H R\/Ly K (bR (tE K x) ij) σ H R:=by
 obtain⟨m,ρ,S,nx,S',E,Rl,hB,e,q⟩:=h;obtain⟨d,S1,e1,e⟩:=ab e;cases d with
 |tup ds=>
  cases e;refine .inr ⟨m,ρ,S,_,_,E,Rl,e1,λm1 H1 v A1 vd=>?_⟩;obtain⟨a,vs,rfl,sq,vds⟩:=vd.tups;refine⟨a,vs,rfl,.of sq,q m1 H1 _ A1 (nX λm2 S2 H2 i o x2 R2 e2=>⟨ds,vs,e2,.of (B6 A1.rel (hB.ext A1.ext) x2 sq),vds.monoB A1.rel (hB.ext A1.ext) x2⟩)⟩
 |ref n=>
  dsimp only at e;split at e
  ·rename_i hs;cases e;refine .inl ⟨m,ρ,S,_,_,E,Rl,e1,λm1 H1 v A1 vd=>?_⟩;obtain⟨a,ha,rfl⟩:=vd.refs;obtain⟨ds,hds⟩:=Z2.mp hs;obtain⟨vs,sq,vds⟩:=ju ha (Z9 _) A1.rel hds;refine⟨a,vs,rfl,sq,q m1 H1 _ A1 (nX λm2 S2 H2 i o x2 R2 e2=>?_)⟩;unfold B5 at e2;cases h2:ak S2 n with
   |none=>rw[h2] at e2;cases e2
   |some es=>
    rw[h2] at e2;obtain⟨ws,sq2,vd2⟩:=ju ha x2.pre R2 h2;exact⟨es,ws,e2,sq2,vd2⟩
  ·cases e
 |_=>cases e
theorem LM(h:tIt K B (xET x) σ H R):GG K (bR (gm K x) ij) σ H R:=by
 obtain⟨m,ρ,S,nx,S',E,Rl,hB,e,q⟩:=h;obtain⟨ds,S1,e1,e⟩:=ab e;cases e;exact⟨m,ρ,S,_,_,E,Rl,e1,λm1 H1 a vs A1 sq n1 n2 n3 vd=>⟨a,vs,rfl,.of sq,q m1 H1 _ A1 (nX λm2 S2 H2 i o x2 R2 e2=>⟨ds,vs,e2,.of (x2.keep _ _ sq n1 (LK hB n3)),vd.monoB A1.rel (hB.ext A1.ext) x2⟩)⟩⟩
theorem LN(h:tIt K B (xR1 x) σ H R):EV (bR (tE K x) ij) σ H R:=by
 obtain⟨m,ρ,S,nx,S',E,Rl,hB,e,q⟩:=h;obtain⟨d,S1,e1,e⟩:=ab e;refine⟨m,ρ,S,d,S1,E,Rl,e1,λm1 H1 v A1 vd=>?_⟩;cases d with
 |int j=>
  dsimp only at e;split at e
  ·rename_i hl;cases e;exact⟨j,by rw[vd.ints],(e8 hl).1,(e8 hl).2,q m1 H1 _ A1 tR⟩
  ·cases e
 |_=>cases e
theorem LP(h:tIt K B (xR2 x y) σ H R):EW (bR (tE K x) (bR (tE K y) ij)) σ H R:=by
 obtain⟨m,ρ,S,nx,S',E,Rl,hB,e,q⟩:=h;obtain⟨d,S1,e1,e⟩:=ab e;obtain⟨c,S2,e2,e⟩:=ab e;refine⟨m,ρ,S,d,S1,E,Rl,e1,λm1 H1 v A1 vd=>⟨m1,ρ,S1,c,S2,E.mono Rl A1.ext,A1.rel,e2,λm2 H2 w A2 vc=>?_⟩⟩;cases d with
 |int i=>
  cases c with
  |int j=>
   dsimp only at e;split at e
   ·rename_i hl;cases e;exact⟨i,j,by rw[vd.ints,vc.ints],⟨(e8 hl.1).1,(e8 hl.1).2,(e8 hl.2).1,(e8 hl.2).2⟩,q m2 H2 _ (A1.trans A2) tR⟩
   ·cases e
  |_=>cases e
 |_=>cases e
inductive Tg where
 |name (i:Nat) |tup (ts:List Tg)
mutual
noncomputable def ax:Tg->D->Rho->Option Rho
 |.name i,d,ρ=>if i < ρ.length then some (ρ.set i (some d)) else none
 |.tup ts,.tup ds,ρ=>aO ts ds ρ
 |_,_,_=>none
noncomputable def aO:List Tg->List D->Rho->Option Rho
 |[],[],ρ=>some ρ
 |t::ts,d::ds,ρ=>match ax t d ρ with
  |some ρ'=>aO ts ds ρ'
  |none=>none
 |_,_,_=>none
end
def tTg(K:W7)(t:Tg):TG:=λx σ H Q=>∃m S ρ d ρ',Rel K m S H/\EnvR K m H ρ σ/\VD K m H d x/\ax t d ρ=some ρ'/\∀σ',EnvR K m H ρ' σ'->Q σ' H
def yv(K:W7)(ts:List Tg):TGs:=λxs σ H Q=>∃m S ρ ds ρ',Rel K m S H/\EnvR K m H ρ σ/\VDs K m H ds xs/\aO ts ds ρ=some ρ'/\∀σ',EnvR K m H ρ' σ'->Q σ' H
theorem EnvR.set{i:Nat}(E:EnvR K m H ρ σ)(h:VD K m H d v):EnvR K m H (ρ.set i (some d)) (σ.set i (some v)):=by
 refine⟨by simp[E.len],λj d' e=>?_⟩;rw[Yn] at e;rw[Yn,<-E.len];by_cases hj:i=j
 ·rw[if_pos hj] at e ⊢;split at e
  ·rename_i hl;rw[if_pos hl];cases e;exact⟨v,rfl,h⟩
  ·cases e
 ·rw[if_neg hj] at e ⊢;exact E.at_ j d' e
theorem nY{i:Nat}(h:tTg K (.name i) x σ H Q):o4 i x σ H Q:=by
 obtain⟨m,S,ρ,d,ρ',R,E,vd,e,q⟩:=h;simp only[ax] at e;split at e
 ·cases e;exact q _ (E.set vd)
 ·cases e
theorem Hc{n:Nat}(hn:n=ts.length)(h:tTg K (.tup ts) x σ H Q):K2 K n (yv K ts) x σ H Q:=by
 obtain⟨m,S,ρ,d,ρ',R,E,vd,e,q⟩:=h;cases d with
 |tup ds=>
  simp only[ax] at e;obtain⟨a,vs,rfl,sq,vds⟩:=vd.tups;refine⟨a,vs,rfl,.of sq,?_,m,S,ρ,ds,ρ',R,E,vds,e,q⟩
  have len:∀ (ts:List Tg) (ds:List D) (ρ ρ':Rho),aO ts ds ρ=some ρ'->ts.length=ds.length:=by
   intro ts
   induction ts with
   |nil=>intro ds ρ ρ' e;cases ds with |nil=>rfl |cons _ _=>simp[aO] at e
   |cons t ts ih=>
    intro ds ρ ρ' e;cases ds with
    |nil=>simp[aO] at e
    |cons d ds=>
     simp only[aO] at e;split at e
     ·simp[ih _ _ _ e]
     ·cases e
  rw[hn,<-vds.length];exact(len _ _ _ _ e).symm
 |_=>simp[ax] at e
theorem B8(h:yv K [] xs σ H Q):K1 xs σ H Q:=by
 obtain⟨m,S,ρ,ds,ρ',R,E,vd,e,q⟩:=h;cases ds with
 |nil=>simp[aO] at e;subst e;rw[VDs] at vd;exact⟨vd,q _ E⟩
 |cons _ _=>simp[aO] at e
theorem yw(h:yv K (t::ts) xs σ H Q):EU (tTg K t) (yv K ts) xs σ H Q:=by
 obtain⟨m,S,ρ,ds,ρ',R,E,vd,e,q⟩:=h;cases ds with
 |nil=>simp[aO] at e
 |cons d ds=>
  simp only[aO] at e;rw[VDs] at vd;obtain⟨y,r,rfl,p,p'⟩:=vd;cases hb:ax t d ρ with
  |none=>rw[hb] at e;cases e
  |some ρ1=>
   rw[hb] at e;exact⟨y,r,rfl,m,S,ρ,d,ρ1,R,E,p,hb,λσ' E'=>⟨m,S,ρ1,ds,ρ',R,E',p',e,q⟩⟩
theorem PG.imp(h:PG X e t)(f:∀x σ H Q,t' x σ H Q->t x σ H Q):PG X e t':=λpins s σ H v u Q I r q=>h pins s σ H v u Q I r (f v σ H Q q)
theorem PGs.imp(h:PGs X es t)(f:∀x σ H Q,t' x σ H Q->t x σ H Q):PGs X es t':=λpins s σ H v u Q I r q=>h pins s σ H v u Q I r (f v σ H Q q)
end
inductive Fl where
 |nx |bk |ct |rt (d:D)
@[inline]abbrev XS:=Rho->Sto->Option (Fl × Rho × Sto)
def yx(K:W7)(m:List Addr)(H:Hp)(fl:Fl)(ρ:Rho)(D:Ends):Prop:=match fl with
 |.nx=>∀σ,EnvR K m H ρ σ->D.nx σ H
 |.bk=>∀σ,EnvR K m H ρ σ->D.bk σ H
 |.ct=>∀σ,EnvR K m H ρ σ->D.ct σ H
 |.rt d=>∀v,VD K m H d v->D.rt v H
def tSt(K:W7)(x:XS):TS:=λD σ H=>∃m ρ S fl ρ' S',EnvR K m H ρ σ/\Rel K m S H/\x ρ S=some (fl,ρ',S')/\∀m' H',Aft K m H S' m' H'->yx K m' H' fl ρ' D
section
variable {X:Cx} {K:W7} {m:List Addr} {H:Hp} {S:Sto}
abbrev yy(x y:XS):XS:=λρ S=>match x ρ S with
 |none=>none
 |some (.nx,ρ1,S1)=>y ρ1 S1
 |some r=>some r
abbrev Fc:XS:=λρ S=>some (.nx,ρ,S)
theorem B9{D:Ends}{σ:L2.St}{H:Hp}(h:tSt K Fc D σ H):ER D σ H:=by
 obtain⟨m,ρ,S,fl,ρ',S',E,R,e,q⟩:=h;cases e;exact q m H (Aft.refl R) σ E
theorem Hd{x y:XS}{D:Ends}{σ:L2.St}{H:Hp}(h:tSt K (yy x y) D σ H):KW (tSt K x) (tSt K y) D σ H:=by
 obtain⟨m,ρ,S,fl,ρ',S',E,R,e,q⟩:=h;unfold yy at e;cases hx:x ρ S with
 |none=>rw[hx] at e;cases e
 |some r=>
  obtain⟨f1,ρ1,S1⟩:=r;rw[hx] at e;refine⟨m,ρ,S,f1,ρ1,S1,E,R,hx,λm1 H1 A1=>?_⟩;cases f1 with
  |nx=>exactλσ1 E1=>⟨m1,ρ1,S1,fl,ρ',S',E1,A1.rel,e,λm2 H2 A2=>q m2 H2 (A1.trans A2)⟩
  |bk=>cases e;exact q m1 H1 A1
  |ct=>cases e;exact q m1 H1 A1
  |rt d=>cases e;exact q m1 H1 A1
abbrev p0(x:XE):XS:=λρ S=>match x ρ S with
 |none=>none
 |some (_,S1)=>some (.nx,ρ,S1)
abbrev yz(x:XE):XS:=λρ S=>match x ρ S with
 |none=>none
 |some (d,S1)=>some (.rt d,ρ,S1)
abbrev LQ:XS:=λρ S=>some (.ct,ρ,S)
theorem Ca{x:XE}{D:Ends}{σ:L2.St}{H:Hp}(h:tSt K (p0 x) D σ H):ET (tE K x) D σ H:=by
 obtain⟨m,ρ,S,fl,ρ',S',E,R,e,q⟩:=h;unfold p0 at e;cases hx:x ρ S with
 |none=>rw[hx] at e;cases e
 |some r=>
  obtain⟨d,S1⟩:=r;rw[hx] at e;cases e;exact⟨m,ρ,S,d,_,E,R,hx,λm1 H1 v A1 _=>q m1 H1 A1 σ (E.mono R A1.ext)⟩
theorem He{x:XE}{D:Ends}{σ:L2.St}{H:Hp}(h:tSt K (yz x) D σ H):KY (tE K x) D σ H:=by
 obtain⟨m,ρ,S,fl,ρ',S',E,R,e,q⟩:=h;unfold yz at e;cases hx:x ρ S with
 |none=>rw[hx] at e;cases e
 |some r=>
  obtain⟨d,S1⟩:=r;rw[hx] at e;cases e;exact⟨m,ρ,S,d,_,E,R,hx,λm1 H1 v A1 vd=>q m1 H1 A1 v vd⟩
theorem Hf{D:Ends}{σ:L2.St}{H:Hp}(h:tSt K LQ D σ H):ES D σ H:=by
 obtain⟨m,ρ,S,fl,ρ',S',E,R,e,q⟩:=h;cases e;exact q m H (Aft.refl R) σ E
abbrev xIf(c:XT)(x y:XS):XS:=λρ S=>match c ρ S with
 |none=>none
 |some (b,S1)=>if b=true then x ρ S1 else y ρ S1
theorem LR{c:XT}{x y:XS}{D:Ends}{σ:L2.St}{H:Hp}(h:tSt K (xIf c x y) D σ H):KZ (tT K c) (tSt K x) (tSt K y) D σ H:=by
 obtain⟨m,ρ,S,fl,ρ',S',E,R,e,q⟩:=h;unfold xIf at e;cases hc:c ρ S with
 |none=>rw[hc] at e;cases e
 |some r=>
  obtain⟨b,S1⟩:=r;rw[hc] at e;dsimp only at e;refine⟨m,ρ,S,b,S1,E,R,hc,λm1 H1 A1=>?_⟩;dsimp only;split
  ·rename_i hb;rw[if_pos hb] at e;exact⟨m1,ρ,S1,fl,ρ',S',E.mono R A1.ext,A1.rel,e,λm2 H2 A2=>q m2 H2 (A1.trans A2)⟩
  ·rename_i hb;rw[if_neg hb] at e;exact⟨m1,ρ,S1,fl,ρ',S',E.mono R A1.ext,A1.rel,e,λm2 H2 A2=>q m2 H2 (A1.trans A2)⟩
abbrev kl(x:XE)(t:Tg):XS:=λρ S=>match x ρ S with
 |none=>none
 |some (d,S1)=>(ax t d ρ).map λρ1=>(.nx,ρ1,S1)
theorem rZ{x:XE}{t:Tg}{D:Ends}{σ:L2.St}{H:Hp}(h:tSt K (kl x t) D σ H):xf (tE K x) (tTg K t) D σ H:=by
 obtain⟨m,ρ,S,fl,ρ',S',E,R,e,q⟩:=h;unfold kl at e;cases hx:x ρ S with
 |none=>rw[hx] at e;cases e
 |some r=>
  obtain⟨d,S1⟩:=r;rw[hx] at e;dsimp only at e;cases hb:ax t d ρ with
  |none=>rw[hb] at e;cases e
  |some ρ1=>
   rw[hb] at e;cases e;exact⟨m,ρ,S,d,_,E,R,hx,λm1 H1 v A1 vd=>⟨m1,_,ρ,d,_,A1.rel,E.mono R A1.ext,vd,hb,λσ' E'=>q m1 H1 A1 σ' E'⟩⟩
abbrev p9(v o i:XE):XS:=λρ S=>match v ρ S with
 |none=>none
 |some (dv,S1)=>match o ρ S1 with
  |none=>none
  |some (d_o,S2)=>match i ρ S2 with
   |none=>none
   |some (di,S3)=>(iB d_o di dv S3).map λS4=>(.nx,ρ,S4)
theorem Cb{v o i:XE}{D:Ends}{σ:L2.St}{H:Hp}(h:tSt K (p9 v o i) D σ H):xf (tE K v) (K3 (tE K o) (tE K i) (LI K)) D σ H:=by
 obtain⟨m,ρ,S,fl,ρ',S',E,R,e,q⟩:=h;unfold p9 at e;cases h1:v ρ S with
 |none=>rw[h1] at e;cases e
 |some r1=>
  obtain⟨dv,S1⟩:=r1;rw[h1] at e;dsimp only at e;cases h2:o ρ S1 with
  |none=>rw[h2] at e;cases e
  |some r2=>
   obtain⟨d2,S2⟩:=r2;rw[h2] at e;dsimp only at e;cases h3:i ρ S2 with
   |none=>rw[h3] at e;cases e
   |some r3=>
    obtain⟨d3,S3⟩:=r3;rw[h3] at e;dsimp only at e;cases h4:iB d2 d3 dv S3 with
    |none=>rw[h4] at e;cases e
    |some S4=>
     rw[h4] at e;cases e;refine⟨m,ρ,S,dv,S1,E,R,h1,λm1 H1 v1 A1 vd1=>⟨m1,ρ,S1,d2,S2,E.mono R A1.ext,A1.rel,h2,λm2 H2 v2 A2 vd2=>⟨m2,ρ,S2,d3,S3,E.mono R (A1.trans A2).ext,A2.rel,h3,λm3 H3 v3 A3 vd3=>?_⟩⟩⟩;exact⟨m3,S3,d2,d3,dv,_,A3.rel,vd2.mono A2.rel A3.ext,vd3,vd1.mono A1.rel (A2.trans A3).ext,h4,λm4 H4 A4=>q m4 H4 (((A1.trans A2).trans A3).trans A4) σ (E.mono R (((A1.trans A2).trans A3).trans A4).ext)⟩
abbrev eI(nx:Nxt)(tg:Tg)(b:XS):Nat->Nat->XS
 |0,_=>λ_ _=>none
 |k+1,i=>λρ S=>match nx i S with
  |none=>none
  |some none=>some (.nx,ρ,S)
  |some (some d)=>match ax tg d ρ with
   |none=>none
   |some ρ1=>match b ρ1 S with
    |none=>none
    |some (.nx,ρ2,S2)=>eI nx tg b k (i+1) ρ2 S2
    |some (.ct,ρ2,S2)=>eI nx tg b k (i+1) ρ2 S2
    |some (.bk,ρ2,S2)=>some (.nx,ρ2,S2)
    |some (.rt d,ρ2,S2)=>some (.rt d,ρ2,S2)
abbrev yA(it:XI)(tg:Tg)(b:XS)(k:Nat):XS:=λρ S=>match it ρ S with
 |none=>none
 |some (nx,S1)=>eI nx tg b k 0 ρ S1
def lpW(K:W7)(nx:Nxt)(tg:Tg)(b:XS)(m1:List Addr)(H1:Hp)(D:Ends)(i k:Nat)(σ:L2.St)(H:Hp):Prop:=∃m ρ S fl ρ' S',EnvR K m H ρ σ/\Rel K m S H/\Ext m1 H1 m H/\eI nx tg b k i ρ S=some (fl,ρ',S')/\∀m' H',Aft K m H S' m' H'->yx K m' H' fl ρ' D
theorem Cc{nx:Nxt}{tg:Tg}{b:XS}{J:It}{m1:List Addr}{H1:Hp}{D:Ends}(hI:IOk K [] J nx m1 H1)(k:Nat){m:List Addr}{ρ:Rho}{S:Sto}{σ:L2.St}{H:Hp}{fl:Fl}{ρ':Rho}{S':Sto}(E:EnvR K m H ρ σ)(R:Rel K m S H)(x:Ext m1 H1 m H)(e:eI nx tg b k 0 ρ S=some (fl,ρ',S'))(q:∀m' H',Aft K m H S' m' H'->yx K m' H' fl ρ' D) :
  ∃W:Nat->Nat->L2.St->Hp->Prop,(∃m,W 0 m σ H)/\∀i m σ H,W i m σ H ->
   (J.stop i H/\D.nx σ H)\/(J.go i H/\∃N:L2.St->Hp->Prop,(∀σ' H',N σ' H'->∃m',m' < m/\W (i+1) m' σ' H')/\∀x H',J.yld i H x H'->tTg K tg x σ H' λσ2 H2=>tSt K b { D with nx:=N,ct:=N,bk:=D.nx } σ2 H2):=by
 refine⟨lpW K nx tg b m1 H1 D,⟨k,m,ρ,S,fl,ρ',S',E,R,x,e,q⟩,?_⟩;intro i k σ H z;obtain⟨m,ρ,S,fl,ρ',S',E,R,x,e,q⟩:=z;cases k with
 |zero=>simp[eI] at e
 |succ k=>
  simp only[eI] at e;cases hn:nx i S with
  |none=>rw[hn] at e;cases e
  |some o=>
   rw[hn] at e;obtain⟨h1,h2⟩:=hI m S H i (x.toB λb hb=>absurd hb (by simp)) R;cases o with
   |none=>cases e;exact .inl ⟨h1 hn,q m H (Aft.refl R) σ E⟩
   |some d=>
    obtain⟨go,hy⟩:=h2 d hn;dsimp only at e;cases hb:ax tg d ρ with
    |none=>rw[hb] at e;cases e
    |some ρ1=>
     rw[hb] at e;dsimp only at e;cases hx:b ρ1 S with
     |none=>rw[hx] at e;cases e
     |some r=>
      obtain⟨f2,ρ2,S2⟩:=r;rw[hx] at e;refine .inr ⟨go,lpW K nx tg b m1 H1 D (i+1) k,λσ' H' z=>⟨k,YQ k,z⟩,λy H' yl=>?_⟩;obtain⟨A,vd⟩:=hy y H' yl;refine⟨m,S,ρ,d,ρ1,A.rel,E.mono R A.ext,vd,hb,λσ2 E2=>⟨m,ρ1,S,f2,ρ2,S2,E2,A.rel,hx,λm3 H3 A3=>?_⟩⟩;cases f2 with
      |nx=>exactλσ3 E3=>⟨m3,ρ2,S2,fl,ρ',S',E3,A3.rel,(x.trans A.ext).trans A3.ext,e,λm4 H4 A4=>q m4 H4 ((A.trans A3).trans A4)⟩
      |ct=>exactλσ3 E3=>⟨m3,ρ2,S2,fl,ρ',S',E3,A3.rel,(x.trans A.ext).trans A3.ext,e,λm4 H4 A4=>q m4 H4 ((A.trans A3).trans A4)⟩
      |bk=>cases e;exactλσ3 E3=>q m3 H3 (A.trans A3) σ3 E3
      |rt d=>cases e;exactλv vd=>q m3 H3 (A.trans A3) v vd
theorem Hg{it:XI}{tg:Tg}{b:XS}{k:Nat}{D:Ends}{σ:L2.St}{H:Hp}(h:tSt K (yA it tg b k) D σ H):K6 (tIt K [] it) (tTg K tg) (tSt K b) D σ H:=by
 obtain⟨m,ρ,S,fl,ρ',S',E,R,e,q⟩:=h;unfold yA at e;cases hi:it ρ S with
 |none=>rw[hi] at e;cases e
 |some r=>
  obtain⟨nx,S1⟩:=r;rw[hi] at e;exact⟨m,ρ,S,nx,S1,E,R,λb hb=>absurd hb (by simp),hi,λm1 H1 J A1 hI=>Cc hI k (E.mono R A1.ext) A1.rel (Ext.refl _ _) e λm2 H2 A2=>q m2 H2 (A1.trans A2)⟩
end
mutual
noncomputable def cN:Tg->Rho->Bool
 |.name i,ρ=>match ρ[i]? with
  |some none=>true
  |_=>false
 |.tup ts,ρ=>e9 ts ρ
noncomputable def e9:List Tg->Rho->Bool
 |[],_=>true
 |t::ts,ρ=>cN t ρ && e9 ts ρ
end
structure LeR(ρ ρ':Rho):Prop where
 len:ρ.length=ρ'.length
 at_:∀ (i:Nat) (d:D),ρ[i]?=some (some d)->ρ'[i]?=some (some d)
theorem LeR.refl(ρ:Rho):LeR ρ ρ:=⟨rfl,λ_ _ h=>h⟩
mutual
theorem qa:∀ {t:Tg} {d:D} {ρ ρ':Rho},LeR ρ0 ρ->cN t ρ0=true->ax t d ρ=some ρ'->LeR ρ0 ρ'
 |.name i,d,ρ,ρ',l,f,e=>by
  simp only[ax] at e;split at e
  ·cases e;refine⟨by simp[l.len],λj d' h=>?_⟩;rw[Yn];by_cases hj:i=j
   ·subst hj;simp only[cN] at f;rw[h] at f;cases f
   ·rw[if_neg hj];exact l.at_ j d' h
  ·cases e
 |.tup ts,.tup ds,ρ,ρ',l,f,e=>by
  simp only[ax] at e;simp only[cN] at f;exact mD l f e
 |.tup ts,.non,_,_,_,_,e=>by simp[ax] at e
 |.tup ts,.bl _,_,_,_,_,e=>by simp[ax] at e
 |.tup ts,.int _,_,_,_,_,e=>by simp[ax] at e
 |.tup ts,.str _,_,_,_,_,e=>by simp[ax] at e
 |.tup ts,.ref _,_,_,_,_,e=>by simp[ax] at e
theorem mD:∀ {ts:List Tg} {ds:List D} {ρ ρ':Rho},LeR ρ0 ρ->e9 ts ρ0=true->aO ts ds ρ=some ρ'->LeR ρ0 ρ'
 |[],[],ρ,ρ',l,_,e=>by simp only[aO] at e;cases e;exact l
 |[],_::_,_,_,_,_,e=>by simp[aO] at e
 |_::_,[],_,_,_,_,e=>by simp[aO] at e
 |t::ts,d::ds,ρ,ρ',l,f,e=>by
  simp only[aO] at e;simp only[e9,bAE] at f;cases hb:ax t d ρ with
  |none=>rw[hb] at e;cases e
  |some ρ1=>rw[hb] at e;exact mD (qa l f.1 hb) f.2 e
end
section
variable {X:Cx} {K:W7} {m:List Addr} {H:Hp} {S:Sto}
theorem EnvR.weaken(E:EnvR K m H ρ' σ)(l:LeR ρ ρ'):EnvR K m H ρ σ:=⟨l.len.trans E.len,λi d h=>E.at_ i d (l.at_ i d h)⟩
abbrev be(nx:Nxt)(tg:Tg)(c:XA)(ρ:Rho):Nat->Nat->Sto->Option (List D × Sto)
 |0,_,_=>none
 |k+1,i,S=>match nx i S with
  |none=>none
  |some none=>some ([],S)
  |some (some d)=>match ax tg d ρ with
   |none=>none
   |some ρ1=>bnd (c ρ1 S) λes S1=>bnd (be nx tg c ρ k (i+1) S1) λrs S2=>some (es++rs,S2)
abbrev yB(t:XT)(c:XA):XA:=λρ S=>bnd (t ρ S) λb S1=>if b=true then c ρ S1 else some ([],S1)
abbrev Fd(x:XE):XA:=λρ S=>bnd (x ρ S) λd S1=>some ([d],S1)
abbrev iC(it:XI)(tg:Tg)(c:XA)(k:Nat):XA:=λρ S=>if cN tg ρ=true then bnd (it ρ S) λnx S1=>be nx tg c ρ k 0 S1 else none
abbrev km(own:Nat)(it:XI)(tg:Tg)(c:XA)(k:Nat):XA:=λρ S=>bnd (it ρ S) λnx S1=>if cN tg (ρ++Zw own none)=true then
 (bnd (be nx tg c (ρ++Zw own none) k 0 S1) λes S2=>if es.length<=100000 then some (es,S2) else none) else none
def tCl(K:W7)(acc:Addr)(c:XA):TS:=λD σ H=>∃m ρ S es S' zs vs,EnvR K m H ρ σ/\Rel K m S H/\acc ∉ m/\H acc=some (.lst vs)/\VDs K m H zs vs/\zs.length+es.length<=100000/\c ρ S=some (es,S') ∧
 ∀m' H' σ' vs',ExtB [acc] m H m' H'->Rel K m' S' H'->H' acc=some (.lst vs')->VDs K m' H' (zs++es) vs'->EnvR K m' H' ρ σ'->D.nx σ' H'
theorem yC(h:H acc=some (.lst vs))(n:acc ∉ m):AtB [acc] m H:=λb hb=>by simp at hb;subst hb;exact⟨⟨vs,h⟩,n⟩
theorem ExtB.refl(n:acc ∉ m):ExtB [acc] m H m H:=⟨Z9 m,λ_ _ h _ _=>h,λ_ h n=>absurd h n,λb hb=>by simp at hb;subst hb;exact n⟩
theorem ExtB.put(n:acc ∉ m)(o:HO):ExtB [acc] m H m (upd H acc o):=⟨Z9 m,λa u h _ nb=>by
 rw[av (λz=>nb (by simp[z]))];exact h,λ_ h n=>absurd h n,λb hb=>by simp at hb;subst hb;exact n⟩
theorem Rel.extB(R:Rel K m S H)(hB:AtB [acc] m H)(x:ExtB [acc] m H m H')(k:∀b ∈ m,H' b=H b):Rel K m S H':=by
 refine⟨R.len,R.nd,λi o e=>?_⟩;obtain⟨b,hb,r⟩:=R.ob i o e;have hm:b ∈ m:=Ze hb;refine⟨b,hb,?_⟩;cases o with
 |lst ds=>obtain⟨vs,p,q⟩:=r;exact⟨vs,(k b hm).trans p,VDs.monoB R hB x q⟩
 |frz ds=>obtain⟨o,vs,p,q⟩:=r;exact⟨o,vs,(k b hm).trans p,VDs.monoB R hB x q⟩
 |dic ks ds=>obtain⟨vs,p,l,q⟩:=r;exact⟨vs,(k b hm).trans p,l,VDs.monoB R hB x q⟩
theorem Cd{acc:Addr}{x:XE}{D:Ends}{σ:L2.St}{H:Hp}(h:tCl K acc (Fd x) D σ H):E6 acc (tE K x) D σ H:=by
 obtain⟨m,ρ,S,es,S',zs,vs,E,R,na,ha,vz,hl,e,q⟩:=h;obtain⟨d,S1,e1,e⟩:=ab e;cases e;refine⟨m,ρ,S,d,_,E,R,e1,λm1 H1 v A1 vd=>?_⟩;have hB:=yC ha na;have ha1:H1 acc=some (.lst vs):=A1.ext.keep _ _ ha na;have xB:=A1.ext.toB hB;have na1:acc ∉ m1:=xB.nb acc (by simp);have xp:=ExtB.put (H:=H1) na1 (.lst (vs++[v]));have hB1:=yC ha1 na1;have lz:=vz.length;simp only[Zm] at hl;refine⟨vs,ha1,by rw[V4];lia,q m1 _ σ (vs++[v]) (xB.trans xp) (A1.rel.extB hB1 xp λb hb=>av λz=>na1 (z ▸ hb)) a8 ?_ ((E.mono R A1.ext).monoB A1.rel hB1 xp)⟩;exact VDs.append ((vz.mono R A1.ext).monoB A1.rel hB1 xp) (.cons (vd.monoB A1.rel hB1 xp) .nil)
theorem Ce{acc:Addr}{t:XT}{c:XA}{D:Ends}{σ:L2.St}{H:Hp}(h:tCl K acc (yB t c) D σ H):eA (tT K t) (tCl K acc c) D σ H:=by
 obtain⟨m,ρ,S,es,S',zs,vs,E,R,na,ha,vz,hl,e,q⟩:=h;obtain⟨b,S1,e1,e⟩:=ab e;refine⟨m,ρ,S,b,S1,E,R,e1,λm1 H1 A1=>?_⟩;have hB:=yC ha na;have ha1:H1 acc=some (.lst vs):=A1.ext.keep _ _ ha na;have xB:=A1.ext.toB hB;have na1:acc ∉ m1:=xB.nb acc (by simp);dsimp only;split
 ·rename_i hb;rw[if_pos hb] at e;exact⟨m1,ρ,S1,es,S',zs,vs,E.mono R A1.ext,A1.rel,na1,ha1,vz.mono R A1.ext,hl,e,λm2 H2 σ2 vs2 x2 R2 h2 v2 E2=>q m2 H2 σ2 vs2 (xB.trans x2) R2 h2 v2 E2⟩
 ·rename_i hb;rw[if_neg hb] at e;cases e;refine q m1 H1 σ vs xB A1.rel ha1 ?_ (E.mono R A1.ext);rw[ZW];exact vz.mono R A1.ext
theorem qb{t:TS}{D:Ends}{σ:L2.St}{H:Hp}(h:t D σ H):eA Bu t D σ H:=by
 show if true=true then t D σ H else D.nx σ H
 rw[if_pos rfl];exact h
theorem Hh{acc:Addr}{c:XA}{D:Ends}{σ:L2.St}{H:Hp}(h:tCl K acc c D σ H):eA Bu (tCl K acc c) D σ H:=by
 exact qb h
def clW(K:W7)(acc:Addr)(nx:Nxt)(tg:Tg)(c:XA)(ρ:Rho)(m1:List Addr)(H1:Hp)(EE:Ends)(i k:Nat)(σ:L2.St)(H:Hp):Prop:=∃m S S' es zs vs,EnvR K m H ρ σ/\Rel K m S H/\ExtB [acc] m1 H1 m H/\H acc=some (.lst vs)/\VDs K m H zs vs/\zs.length+es.length<=100000/\be nx tg c ρ k i S=some (es,S')/\∀m' H' σ' vs',ExtB [acc] m H m' H'->Rel K m' S' H'->H' acc=some (.lst vs')->VDs K m' H' (zs++es) vs'->EnvR K m' H' ρ σ'->EE.nx σ' H'
theorem tS(hI:IOk K [acc] J nx m1 H1)(hts:∀D σ H,tCl K acc c D σ H->ts D σ H)(k:Nat)
  (fr:cN tg ρ=true) (E:EnvR K m H ρ σ) (R:Rel K m S H) (x:ExtB [acc] m1 H1 m H) (ha:H acc=some (.lst vs)) (vz:VDs K m H zs vs) (hl:zs.length+es.length<=100000) (e:be nx tg c ρ k 0 S=some (es,S'))
  (q:∀m' H' σ' vs',ExtB [acc] m H m' H'->Rel K m' S' H'->H' acc=some (.lst vs')->VDs K m' H' (zs++es) vs'->EnvR K m' H' ρ σ'->EE.nx σ' H'):pc J (tTg K tg) ts EE σ H:=by
 refine⟨clW K acc nx tg c ρ m1 H1 EE,⟨k,m,S,S',es,zs,vs,E,R,x,ha,vz,hl,e,q⟩,?_⟩;intro i k σ H z;obtain⟨m,S,S',es,zs,vs,E,R,x,ha,vz,hl,e,q⟩:=z;have na:acc ∉ m:=x.nb acc (by simp);have hB:=yC ha na;cases k with
 |zero=>simp[be] at e
 |succ k=>
  simp only[be] at e;cases hn:nx i S with
  |none=>rw[hn] at e;cases e
  |some o=>
   rw[hn] at e;obtain⟨h1,h2⟩:=hI m S H i x R;cases o with
   |none=>
    cases e;exact .inl ⟨h1 hn,q m H σ vs (ExtB.refl na) R ha (by rw[ZW];exact vz) E⟩
   |some d=>
    obtain⟨go,hy⟩:=h2 d hn;dsimp only at e;cases hb:ax tg d ρ with
    |none=>rw[hb] at e;cases e
    |some ρ1=>
     rw[hb] at e;dsimp only at e;obtain⟨e1,S1,c1,e⟩:=ab e;obtain⟨rs,S2,c2,e⟩:=ab e;cases e;rw[Zh] at hl;refine .inr ⟨go,clW K acc nx tg c ρ m1 H1 EE (i+1) k,λσ' H' z=>⟨k,YQ k,z⟩,λy H' yl=>?_⟩;obtain⟨A,vd⟩:=hy y H' yl;have xA:=A.ext.toB hB;have ha':H' acc=some (.lst vs):=A.ext.keep _ _ ha na;refine⟨m,S,ρ,d,ρ1,A.rel,E.mono R A.ext,vd,hb,λσ2 E2=>hts _ _ _ ⟨m,ρ1,S,e1,S1,zs,vs,E2,A.rel,na,ha',vz.mono R A.ext,by lia,c1,λm3 H3 σ3 vs3 x3 R3 h3 v3 E3=>?_⟩⟩;refine⟨m3,S1,_,rs,zs++e1,vs3,E3.weaken (qa (LeR.refl ρ) fr hb),R3,(x.trans xA).trans x3,h3,v3,by rw[Zh];lia,c2,λm4 H4 σ4 vs4 x4 R4 h4 v4 E4=>?_⟩;refine q m4 H4 σ4 vs4 ((xA.trans x3).trans x4) R4 h4 ?_ E4;rw[<-Yz];exact v4
theorem yD{acc:Addr}{it:XI}{tg:Tg}{t:TT}{c c':XA}{k:Nat}{D:Ends}{σ:L2.St}{H:Hp}(hts:∀D σ H,tCl K acc c D σ H->eA t (tCl K acc c') D σ H)(h:tCl K acc (iC it tg c k) D σ H):xF (tIt K [acc] it) (tTg K tg) t (tCl K acc c') D σ H:=by
 obtain⟨m,ρ,S,es,S',zs,vs,E,R,na,ha,vz,hl,e,q⟩:=h;unfold iC at e;split at e
 ·rename_i fr;obtain⟨nx,S1,e1,e⟩:=ab e;have hB:=yC ha na;refine⟨m,ρ,S,nx,S1,E,R,hB,e1,λm1 H1 J A1 hI=>?_⟩;have xB:=A1.ext.toB hB;have na1:acc ∉ m1:=xB.nb acc (by simp);exact tS hI hts k fr (E.mono R A1.ext) A1.rel (ExtB.refl na1) (A1.ext.keep _ _ ha na) (vz.mono R A1.ext) hl e λm2 H2 σ2 vs2 x2 R2 h2 v2 E2=>q m2 H2 σ2 vs2 (xB.trans x2) R2 h2 v2 E2
 ·cases e
theorem EnvR.more(E:EnvR K m H ρ σ)(n:Nat):EnvR K m H (ρ++Zw n none) (σ++Zw n none):=by
 refine⟨by simp[E.len],λi d e=>?_⟩;by_cases hi:i < ρ.length
 ·rw[Zu hi] at e;rw[Zu (by rw[<-E.len];exact hi)];exact E.at_ i d e
 ·rw[Zp (by lia),Yr] at e;split at e <;> cases e
theorem tU{own:Nat}{k:Nat}(hts:∀acc D σ H,tCl K acc c D σ H->eA t (tCl K acc c') D σ H)(h:gm K (km own it tg c k) σ H Q):xG own (tIt K [] it) (tTg K tg) (λacc=>eA t (tCl K acc c')) σ H Q:=by
 obtain⟨m,ρ,S,es,S',E,R,e,q⟩:=h;obtain⟨nx,S1,e1,e⟩:=ab e;split at e
 ·rename_i fr;obtain⟨es',S2,e2,e⟩:=ab e;split at e
  ·rename_i hl;cases e;refine⟨m,ρ,S,nx,S1,E,R,λb hb=>absurd hb (by simp),e1,λm1 H1 J A1 hI acc hacc=>?_⟩;have x0:=Ext.beside A1.rel hacc (.lst []);have R0:=A1.rel.beside hacc (.lst []);have na:=A1.rel.no hacc
   have hI':IOk K [acc] J nx m1 (upd H1 acc (.lst [])):=by
    intro m2 S2 H2 i x2 R2;refine hI m2 S2 H2 i ⟨x2.pre,λa o h n _=>?_,λa h n=>?_,λb hb=>absurd hb (by simp)⟩ R2
    ·have ne:a ≠ acc:=aQ h hacc;exact x2.keep a o (by rw[av ne];exact h) n (by simp[ne])
    ·have:=x2.new a h n;by_cases hz:a=acc
     ·subst hz;exact hacc
     ·rw[av hz] at this;exact this
   refine tS (zs:=[]) (vs:=[]) hI' (hts acc) k fr ((E.mono R A1.ext |>.mono A1.rel x0).more own) R0 (ExtB.refl na) a8 .nil (by simpa using hl) e2 λm2 H2 σ2 vs2 x2 R2 h2 v2 E2=>?_
   have xx:Ext m1 H1 m2 H2:=⟨x2.pre,λa o h n=>by
    have ne:a ≠ acc:=aQ h hacc;exact x2.keep a o (by rw[av ne];exact h) n (by simp[ne]),λa h n=>by
    have:=x2.new a h n;by_cases hz:a=acc
    ·subst hz;exact hacc
    ·rw[av hz] at this;exact this⟩
   have hn:H acc=none:=by
    cases eh:H acc with
    |none=>rfl
    |some o=>
     by_cases hm:acc ∈ m
     ·exact absurd (A1.ext.pre.subset hm) na
     ·have:=A1.ext.keep acc o eh hm;rw[hacc] at this;cases this
   exact q m2 H2 acc vs2 (A1.trans ⟨xx,R2⟩) h2 (x2.nb acc (by simp)) (λb hb z=>na (A1.ext.pre.subset (z ▸ hb))) hn (by simpa using v2)
  ·cases e
 ·cases e
end
section
variable {X:Cx} {K:W7} {m:List Addr} {H:Hp} {S:Sto}
abbrev yE(x y:XE):XE:=λρ S=>bnd (x ρ S) λd S1=>match d with
 |.bl true=>y ρ S1
 |.bl false=>some (.bl false,S1)
 |_=>none
abbrev xOr(x y:XE):XE:=λρ S=>bnd (x ρ S) λd S1=>match d with
 |.bl true=>some (.bl true,S1)
 |.bl false=>y ρ S1
 |_=>none
abbrev vW:D->Sto->Option (D × Sto)
 |.bl b,S=>some (.bl (!b),S)
 |_,_=>none
abbrev Hi:D->Sto->Option (D × Sto)
 |.int i,S=>some (.int (-i),S)
 |_,_=>none
abbrev Hj(c:XT)(x y:XE):XE:=λρ S=>bnd (c ρ S) λb S1=>if b=true then x ρ S1 else y ρ S1
theorem yF(h:tE K (yE x y) σ H Q):EM (tE K x) (tE K y) σ H Q:=by
 obtain⟨m,ρ,S,d,S',E,R,e,q⟩:=h;obtain⟨a,S1,e1,e⟩:=ab e;refine⟨m,ρ,S,a,S1,E,R,e1,λm1 H1 v A1 va=>?_⟩;cases a with
 |bl b=>
  refine⟨b,va.bls,?_⟩;cases b with
  |true=>exact⟨m1,ρ,S1,d,S',E.mono R A1.ext,A1.rel,e,λm2 H2 w A2 vd=>q m2 H2 w (A1.trans A2) vd⟩
  |false=>cases e;exact q m1 H1 _ A1 bC
 |_=>cases e
theorem Fe(h:tE K (xOr x y) σ H Q):KU (tE K x) (tE K y) σ H Q:=by
 obtain⟨m,ρ,S,d,S',E,R,e,q⟩:=h;obtain⟨a,S1,e1,e⟩:=ab e;refine⟨m,ρ,S,a,S1,E,R,e1,λm1 H1 v A1 va=>?_⟩;cases a with
 |bl b=>
  refine⟨b,va.bls,?_⟩;cases b with
  |false=>exact⟨m1,ρ,S1,d,S',E.mono R A1.ext,A1.rel,e,λm2 H2 w A2 vd=>q m2 H2 w (A1.trans A2) vd⟩
  |true=>cases e;exact q m1 H1 _ A1 bC
 |_=>cases e
theorem Hk(h:tE K (xUn vW x) σ H Q):EN (tE K x) σ H Q:=by
 obtain⟨m,ρ,S,d,S',E,R,e,q⟩:=h;obtain⟨a,S1,e1,e⟩:=ab e;refine⟨m,ρ,S,a,S1,E,R,e1,λm1 H1 v A1 va=>?_⟩;cases a with
 |bl b=>cases e;exact⟨b,va.bls,q m1 H1 _ A1 bC⟩
 |_=>cases e
theorem Cf:UnR X (unaryOp .USub) (rS1 X.K Hi):=by
 intro pins s σ H x v Q I rx h;refine qT pins s σ H x v Q I rx ?_;obtain⟨m,S,a,d,S',R,va,e,q⟩:=h;cases a with
 |int i=>cases e;exact⟨i,va.ints,q m H _ (Aft.refl R) bc⟩
 |_=>cases e
theorem Hl(h:tE K (Hj c x y) σ H Q):tIf (tT K c) (tE K x) (tE K y) σ H Q:=by
 obtain⟨m,ρ,S,d,S',E,R,e,q⟩:=h;obtain⟨b,S1,e1,e⟩:=ab e;refine⟨m,ρ,S,b,S1,E,R,e1,λm1 H1 A1=>?_⟩;dsimp only;split
 ·rename_i hb;rw[if_pos hb] at e;exact⟨m1,ρ,S1,d,S',E.mono R A1.ext,A1.rel,e,λm2 H2 w A2 vd=>q m2 H2 w (A1.trans A2) vd⟩
 ·rename_i hb;rw[if_neg hb] at e;exact⟨m1,ρ,S1,d,S',E.mono R A1.ext,A1.rel,e,λm2 H2 w A2 vd=>q m2 H2 w (A1.trans A2) vd⟩
abbrev vX(f g:D->D->Sto->Option (D × Sto))(x y z:XE):XE:=λρ S=>bnd (x ρ S) λa S1=>bnd (y ρ S1) λb S2=>bnd (f a b S2) λr S3=>match r with
 |.bl true=>bnd (z ρ S3) λc S4=>g b c S4
 |.bl false=>some (.bl false,S3)
 |_=>none
theorem yG(h:tE K (vX f g x y z) σ H Q):qU (rS K f) (rS K g) (tE K x) (tE K y) (tE K z) σ H Q:=by
 obtain⟨m,ρ,S,d,S',E,R,e,q⟩:=h;obtain⟨a,S1,e1,e⟩:=ab e;obtain⟨b,S2,e2,e⟩:=ab e;obtain⟨r,S3,e3,e⟩:=ab e;refine⟨m,ρ,S,a,S1,E,R,e1,λm1 H1 v A1 va=>⟨m1,ρ,S1,b,S2,E.mono R A1.ext,A1.rel,e2,λm2 H2 w A2 vb=>?_⟩⟩;refine⟨m2,S2,a,b,r,S3,A2.rel,va.mono A1.rel A2.ext,vb,e3,λm3 H3 u A3 vr=>?_⟩;cases r with
 |bl k=>
  refine⟨k,vr.bls,?_⟩;cases k with
  |true=>
   dsimp only at e;obtain⟨c,S4,e4,e⟩:=ab e;exact⟨m3,ρ,S3,c,S4,E.mono R ((A1.trans A2).trans A3).ext,A3.rel,e4,λm4 H4 y A4 vc=>⟨m4,S4,b,c,d,S',A4.rel,vb.mono A2.rel (A3.trans A4).ext,vc,e,λm5 H5 t A5 vd=>q m5 H5 t ((((A1.trans A2).trans A3).trans A4).trans A5) vd⟩⟩
  |false=>cases e;exact q m3 H3 _ ((A1.trans A2).trans A3) bC
 |_=>cases e
abbrev yH(x y:XT):XT:=λρ S=>bnd (x ρ S) λb S1=>if b=true then y ρ S1 else some (false,S1)
abbrev Hm(x y:XT):XT:=λρ S=>bnd (x ρ S) λb S1=>if b=true then some (true,S1) else y ρ S1
abbrev yI(x:XT):XT:=λρ S=>bnd (x ρ S) λb S1=>some (!b,S1)
theorem yJ(h:tT K (yH x y) σ H Q):KR (tT K x) (tT K y) σ H Q:=by
 obtain⟨m,ρ,S,d,S',E,R,e,q⟩:=h;obtain⟨b,S1,e1,e⟩:=ab e;refine⟨m,ρ,S,b,S1,E,R,e1,λm1 H1 A1=>?_⟩;dsimp only;split
 ·rename_i hb;rw[if_pos hb] at e;exact⟨m1,ρ,S1,d,S',E.mono R A1.ext,A1.rel,e,λm2 H2 A2=>q m2 H2 (A1.trans A2)⟩
 ·rename_i hb;rw[if_neg hb] at e;cases e;exact q m1 H1 A1
theorem Ff(h:tT K (Hm x y) σ H Q):tOr (tT K x) (tT K y) σ H Q:=by
 obtain⟨m,ρ,S,d,S',E,R,e,q⟩:=h;obtain⟨b,S1,e1,e⟩:=ab e;refine⟨m,ρ,S,b,S1,E,R,e1,λm1 H1 A1=>?_⟩;dsimp only;split
 ·rename_i hb;rw[if_pos hb] at e;cases e;exact q m1 H1 A1
 ·rename_i hb;rw[if_neg hb] at e;exact⟨m1,ρ,S1,d,S',E.mono R A1.ext,A1.rel,e,λm2 H2 A2=>q m2 H2 (A1.trans A2)⟩
theorem Hn(h:tT K (yI x) σ H Q):KS (tT K x) σ H Q:=by
 obtain⟨m,ρ,S,d,S',E,R,e,q⟩:=h;obtain⟨b,S1,e1,e⟩:=ab e;cases e;exact⟨m,ρ,S,b,_,E,R,e1,λm1 H1 A1=>q m1 H1 A1⟩
@[inline]abbrev Calls:=Nat->List D->Sto->Option (D × Sto)
def spC(K:W7)(g:List D->Sto->Option (D × Sto))(n:Nat):Sp:=λvs H Q _=>∃m ds S d S',VDs K m H ds vs/\Rel K m S H/\ds.length=n/\g ds S=some (d,S')/\∀m' H' v,Aft K m H S' m' H'->VD K m' H' d v->Q v H'
abbrev qc(g:List D->Sto->Option (D × Sto))(n:Nat)(x:XA):XE:=λρ S=>bnd (x ρ S) λds S1=>if ds.length=n then g ds S1 else none
theorem Cg{n:Nat}(h:tE K (qc g n x) σ H Q):EY (spC K g n) [] E0 (tAr K x) σ H Q:=by
 obtain⟨m,ρ,S,d,S',E,R,e,q⟩:=h;obtain⟨ds,S1,e1,e⟩:=ab e;split at e
 ·rename_i hl;refine⟨m,ρ,S,ds,S1,E,R,e1,λm1 H1 vs A1 vd=>⟨m1,ds,S1,d,S',by rw[ZW];exact vd,A1.rel,hl,e,λm2 H2 v A2 vv=>q m2 H2 v (A1.trans A2) vv⟩⟩
 ·cases e
end
abbrev fZ(x y:Int × List Int):Bool:=if x.1=y.1 then HT.cz x.2 y.2 else decide (x.1 < y.1)
theorem qd:∀ns:List Int,HT.cz ns ns=false
 |[]=>rfl
 |n::ns=>by rw[HT.jH,if_pos rfl];exact qd ns
theorem jv{vs:List Value}{ns:List Int}(h:IntsAre vs ns):∀ (j:Nat) v,vs[j]?=some v->∃n t,ns[j]?=some n/\v = .int n t:=by
 induction h with
 |nil=>intro j v e;simp at e
 |cons a t _ ih=>
  intro j v e;cases j with
  |zero=>cases e;exact⟨a,t,rfl,rfl⟩
  |succ j=>exact ih j v (by simpa using e)
theorem vY{A:Around}{s:Shared}{p q:Addr}{xs ys:Array Value}{ns ms:List Int}(hu:A.units < cLine)(h1:s.heap.IsTuple p xs)(h2:s.heap.IsTuple q ys)(i1:IntsAre xs.toList ns)(i2:IntsAre ys.toList ms):∃e,WZ A s (.ref p) (.ref q) e/\(e=true ↔ ns=ms):=by
 by_cases e:p=q
 ·subst e;obtain⟨o,ho,_,n,hd⟩:=h1;obtain⟨o',ho',_,n',hd'⟩:=h2;rw[ho] at ho';cases ho';rw[hd] at hd';cases hd'
  have en:ns=ms:=by
   have l1:=i1.length;have l2:=i2.length;refine YJ λj=>?_;cases hj:xs.toList[j]? with
   |none=>
    have:=Z7.mp hj;rw[Zs (by lia),Zs (by lia)]
   |some v=>
    obtain⟨a,t,e1,rfl⟩:=jv i1 j v hj;obtain⟨b,t',e2,e3⟩:=jv i2 j _ hj;cases e3;rw[e1,e2]
  exact⟨true,.same _,by simp[en]⟩
 ·refine⟨_,.of_refs e (SeqAt.RcAt.tuples (e:=λj=>decide (ns[j]?=ms[j]?)) h1 h2 hu λj j1 j2=>?_),?_⟩
  ·obtain⟨a,t,e1,e3⟩:=jv i1 j xs[j] (by simp[j1]);obtain⟨b,u,e2,e4⟩:=jv i2 j ys[j] (by simp[j2]);rw[e1,e2,e3,e4,show decide (some a=some b)=(a == b) by simp[YM]];exact .int_int a t b u
  ·have l1:ns.length=xs.size:=by rw[<-i1.length];exact Zy
   have l2:ms.length=ys.size:=by rw[<-i2.length];exact Zy
   rw[<-l1,<-l2,qO,decide_eq_true_eq]
section
open PySem.SeqAt
open PySem.AutoSeq1 (wpAny_loadPart')
open PySem.MeetsSeq PySem.MeetsSeq2 PySem.MeetsSeq3
theorem lP(l b:Addr)(x y:Int)(t u:Tok)(p q:Addr)(n n2:Nat)(dd dd2:Option Addr)(sl sl2:Array (Option Value))(ns ms:List Int) :
  Meets (Builtin.«tuple.__lt__» ⟨[.ref l,.ref b],[]⟩)
   (λA R s=>s.heap.get? l=some { cls:=.type "tuple", dict:=dd,data:=.seq #[.int x t,.ref p] n,slots:=sl }/\s.heap.get? b=some { cls:=.type "tuple", dict:=dd2,data:=.seq #[.int y u,.ref q] n2,slots:=sl2 } ∧
    (∃xs ys,IsTup s.heap p xs/\IsTup s.heap q ys/\IntsAre xs.toList ns/\IntsAre ys.toList ms)/\A.in1.units < cLine ∧
    R (.ok (.ret (.bool (fZ (x,ns) (y,ms))))) s):=
 .of_wp λprog w A R s h=>by
  obtain⟨hp,g,d,tk,os⟩:=s;obtain⟨hl,hb,⟨xs,ys,tp,tq,i1,i2⟩,hu,h⟩:=h;have f2:=AutoSeq1.sub_tuple_tuple
  wp_walk using Ur hl,Ur hb,Ul _ (λrest b s'=>b.1=none/\s'=⟨hp,g,d,tk,os⟩/\((rest=[(.int x t,.int y u),(.ref p,.ref q)])\/(rest=[(.ref p,.ref q)]/\x=y)\/(rest=[]/\x=y/\ns=ms))) _
  case turn=>
   rintro⟨v,z⟩ rest b s' ⟨hb',rfl,hr⟩;rcases hr with hr |⟨hr,hxy⟩ |⟨hr,_⟩
   ·injection hr with hvz hrest;injection hvz with hv hz;subst hv hz;obtain⟨e,he,hiff⟩:=HT.o8 A.in1 ⟨hp,g,d,tk,os⟩ x t y u;refine Uf (he prog w _ _ ?_);cases e with
    |true=>
     wp_walk
     exact⟨rfl,rfl,.inr (.inl ⟨hrest,hiff.mp rfl⟩)⟩
    |false=>
     have hri:=HT.jK A.in1 ⟨hp,g,d,tk,os⟩ x t y u prog w
     wp_walk using hri
     refine⟨_,rfl,?_⟩;unfold fZ at h;rw[if_neg (λq=>absurd (hiff.mpr q) Zd)] at h
     simpa using h
   ·injection hr with hvz hrest;injection hvz with hv hz;subst hv hz hxy;obtain⟨e,he,hiff⟩:=vY (A:=A.in1) (s:=⟨hp,g,d,tk,os⟩) hu tp tq i1 i2;refine Uf (he prog w _ _ ?_);unfold fZ at h;rw[if_pos rfl] at h;cases e with
    |true=>
     wp_walk
     exact⟨rfl,rfl,.inr (.inr ⟨hrest,rfl,hiff.mp rfl⟩)⟩
    |false=>
     have hri:∀ (E:Value->Shared->Prop) (Q:Value->Shared->Prop),Q (.bool (HT.cz ns ms)) ⟨hp,g,d,tk,os⟩->wpAny (model prog w) A.in1 (VY .Lt (.ref p) (.ref q)) Q E ⟨hp,g,d,tk,os⟩:=λE Q hq=>HT.qZ (s:=⟨hp,g,d,tk,os⟩) tp tq i1 i2 hu hq
     wp_walk using hri
     exact⟨_,rfl,by simpa using h⟩
   ·cases hr
  case fin=>
   rintro⟨b1,b2⟩ s' ⟨hb',rfl,hr⟩;simp only at hb';subst hb';rcases hr with hr |⟨hr,_⟩ |⟨_,hxy,hnm⟩
   ·cases hr
   ·cases hr
   ·subst hxy hnm;unfold fZ at h;rw[if_pos rfl,qd] at h
    wp_walk
    exact⟨_,rfl,by simpa[Builtin.Tuple.tupleCompareSizes] using h⟩
  case h=>exact⟨rfl,rfl,.inl rfl⟩
end
section
variable {prog:Program} {w:World} {A:Around} {R:Result->Shared->Prop} {I S:Addr} {fp wr:List Addr} {n:Nat} {P:Nat->Value->Prop} {St:Nat->Heap->Prop} {bt:Nat->Nat->Bool} {base:Heap} {d:Value}
def Ho(prog:Program)(w:World)(A:Around)(base:Heap)(P:Nat->Value->Prop)(bt:Nat->Nat->Bool):Prop:=
 ∀i j vi vj (s:Shared) (Q:Value->Shared->Prop) (E:Value->Shared->Prop),(∀a o,base.get? a=some o->s.heap.get? a=some o)->P i vi->P j vj->Q (.bool (bt i j)) s->wpAny (model prog w) A (VY .Lt vi vj) Q E s
theorem yK(a d:Value):argsOk "min" ⟨[a],[(Str.ofString "default", d)]⟩:=by unfold argsOk;kernel_rfl
theorem tV:(toString "min" ++ toString ".loop" : String) = "min.loop" := by decide
theorem ko(W:Walks prog w A.in1 I fp wr n P St)(gc:Ho prog w A.in1 base P bt)(gS:S ∉ fp)(bw:∀a ∈ wr,base.get? a=none)(bS:base.get? S=none):∀ (m i:Nat) (s:Shared) (b:Value) (c:Nat),i+1+m=n->St (i+1) s.heap->P (argBest bt i) b->(∀a o,base.get? a=some o->s.heap.get? a=some o)->s.heap.get? S=some { cls:=.type "list", dict:=none,data:=.seq #[b,b] c,slots:=#[] } ->
  (∀v h' tk,P (argBest bt (n - 1)) v->(∀a o,a ∉ wr->a ≠ S->s.heap.get? a=some o->h'.get? a=some o)->R (.ok (.ret v)) { s with heap:=h',toks:=tk })->codeAny (model prog w) A (.builtin "min.loop" ⟨[.ref I,.none,.ref S],[(Str.ofString "default", d)]⟩) R s
 |0,i,s,b,c,e,st,pb,kb,gs,r=>by
  have sw:S ∉ wr:=λh=>gS (W.sub _ h);refine Vy Wz ?_;rw[Around.under_plainId WF _];show wpAny _ A.in1 (V2 (.ref S) >>= _) _ _ s;refine Uf (UF gs rfl ?_);show wpAny _ A.in1 (tryCatch (pyNext (.ref I)) _ >>= _) _ _ s;refine Uf (UK (W.done s _ _ (by rw[<-e];exact st) λh' tk kk=>?_));show wpAny _ A.in1 (Ud S (λ_=>#[]) >>= _) _ _ _;refine Uf (UM (kk S _ sw gs) rfl (Uf (Up (Uw ?_))));exact r b _ tk (by rw[<-e];exact pb) λa o aw aS z=>(ZH _ _ (Ne.symm aS)).trans (kk a o aw z)
 |m+1,i,s,b,c,e,st,pb,kb,gs,r=>by
  have sw:S ∉ wr:=λh=>gS (W.sub _ h);refine Vy Wz ?_;rw[Around.under_plainId WF _];show wpAny _ A.in1 (V2 (.ref S) >>= _) _ _ s;refine Uf (UF gs rfl ?_);show wpAny _ A.in1 (tryCatch (pyNext (.ref I)) _ >>= _) _ _ s;refine Uf (UK (W.item (i+1) s _ _ (by lia) st λv h' tk pv st' kk=>?_));have gs':=kk S _ sw gs;have nw:∀a o,base.get? a=some o->a ∉ wr/\a ≠ S:=λa o h=>⟨λz=>(by rw[bw a z] at h;cases h),λz=>(by rw[z,bS] at h;cases h)⟩;have kb':∀a o,base.get? a=some o->h'.get? a=some o:=λa o h=>kk a o (nw a o h).1 (kb a o h);show wpAny _ A.in1 (tryCatch (holding [v,v] (VY .Lt v b >>= _)) _ >>= _) _ _ _;refine Uf (UK (Uo (Uf (gc (i+1) (argBest bt i) v b _ _ _ kb' pv pb ?_))));refine Uf (Uo (UJ ?_));refine Uf (Up (Uw ?_));cases hb:bt (i+1) (argBest bt i) with
  |true=>
   simp only[if_true];refine Uf (UM gs' rfl (Uf (Up ?_)));rw[tV];refine Uw ⟨VV WF _,ko W gc gS bw bS m (i+1) _ v _ (by lia) (W.frame _ _ _ st' λa af o z=>?_) (by simp only[argBest,hb,if_true];exact pv) (λa o h=>(ZH _ _ (Ne.symm (nw a o h).2)).trans (kb' a o h)) (Z8 _ gs' rfl) λv' h'' tk'' pv' k2=>?_⟩
   ·exact(ZH _ _ (λz:S=a=>gS (by rw[z];exact af))).trans z
   ·exact r v' h'' tk'' pv' λa o aw aS z=>k2 a o aw aS ((ZH _ _ (Ne.symm aS)).trans (kk a o aw z))
  |false=>
   simp only[ZK,if_false];refine Uf (Up ?_);rw[tV];refine Uw ⟨VV WF _,ko W gc gS bw bS m (i+1) _ b c (by lia) st' (by simp only[argBest,hb,ZK,if_false];exact pb) kb' gs' λv' h'' tk'' pv' k2=>?_⟩;exact r v' h'' tk'' pv' λa o aw aS z=>k2 a o aw aS (kk a o aw z)
theorem vZ{s:Shared}(W:Walks prog w A.in1 I fp wr n P St)(gc:Ho prog w A.in1 base P bt)(gS:S ∉ fp)(bw:∀a ∈ wr,base.get? a=none)(bS:base.get? S=none)(gn:0 < n){c:Nat}(st:St 0 s.heap)(kb:∀a o,base.get? a=some o->s.heap.get? a=some o)(gs:s.heap.get? S=some { cls:=.type "list", dict:=none,data:=.seq #[] c,slots:=#[] })
  (r:∀v h' tk,P (argBest bt (n - 1)) v->(∀a o,a ∉ wr->a ≠ S->s.heap.get? a=some o->h'.get? a=some o)->R (.ok (.ret v)) { s with heap:=h',toks:=tk }):codeAny (model prog w) A (.builtin "min.loop" ⟨[.ref I,.none,.ref S],[(Str.ofString "default", d)]⟩) R s:=by
 have sw:S ∉ wr:=λh=>gS (W.sub _ h);refine Vy Wz ?_;rw[Around.under_plainId WF _];show wpAny _ A.in1 (V2 (.ref S) >>= _) _ _ s;refine Uf (UF gs rfl ?_);show wpAny _ A.in1 (tryCatch (pyNext (.ref I)) _ >>= _) _ _ s;refine Uf (UK (W.item 0 s _ _ gn st λv h' tk pv st' kk=>?_));have gs':=kk S _ sw gs;have nw:∀a o,base.get? a=some o->a ∉ wr/\a ≠ S:=λa o h=>⟨λz=>(by rw[bw a z] at h;cases h),λz=>(by rw[z,bS] at h;cases h)⟩;show wpAny _ A.in1 (Ud S (λ_=>#[v,v]) >>= _) _ _ _;refine Uf (UM gs' rfl ?_);rw[tV];refine Uw ⟨VV WF _,ko W gc gS bw bS (n - 1) 0 _ v _ (by lia) (W.frame _ _ _ st' λa af o z=>?_) pv (λa o h=>(ZH _ _ (Ne.symm (nw a o h).2)).trans (kk a o (nw a o h).1 (kb a o h))) (Z8 _ gs' rfl) λv' h'' tk'' pv' k2=>?_⟩
 ·exact(ZH _ _ (λz:S=a=>gS (by rw[z];exact af))).trans z
 ·exact r v' h'' tk'' pv' λa o aw aS z=>k2 a o aw aS ((ZH _ _ (Ne.symm aS)).trans (kk a o aw z))
theorem yL{s:Shared}(W:Walks prog w A.in1 I fp wr 0 P St)(gS:S ∉ fp){c:Nat}(st:St 0 s.heap)(gs:s.heap.get? S=some { cls:=.type "list", dict:=none,data:=.seq #[] c,slots:=#[] })
  (r:∀h' tk,(∀a o,a ∉ wr->s.heap.get? a=some o->h'.get? a=some o)->R (.ok (.ret d)) { s with heap:=h',toks:=tk }):codeAny (model prog w) A (.builtin "min.loop" ⟨[.ref I,.none,.ref S],[(Str.ofString "default", d)]⟩) R s:=by
 refine Vy Wz ?_;rw[Around.under_plainId WF _];show wpAny _ A.in1 (V2 (.ref S) >>= _) _ _ s;refine Uf (UF gs rfl ?_);show wpAny _ A.in1 (tryCatch (pyNext (.ref I)) _ >>= _) _ _ s;refine Uf (UK (W.done s _ _ st λh' tk kk=>?_));exact Uf (UE (Uw (r h' tk kk)))
variable {E:Value->Shared->Prop} {s:Shared} {l:Addr} {its:Array Value} {Q:Value->Shared->Prop}
theorem yM(hl:s.heap.IsList l its)
  (h:∀s₂:Shared,s₂={ s with heap:=s.heap.push { cls:=.type "list_iterator", data:=.fields #[.ref l,.int 0 0] } } ->
   (s₂.heap.IsListIter s.heap.objs.size l 0/\s₂.heap.IsList l its)->(∀b ∈ [s.heap.objs.size,l],b < s₂.heap.objs.size)->l ≠ s.heap.objs.size->Q (.ref s.heap.objs.size) s₂) :
  wpAny (model prog w) A (pyIter (.ref l)) Q E s:=by
 have hlt:l < s.heap.objs.size:=by obtain⟨_,e,_⟩:=hl;exact Zr e
 refine Uy hl (h _ rfl ⟨⟨_,Zz _ rfl,rfl,rfl⟩,hl.push _⟩ (λb hb=>?_) (ZF hlt));show b < (s.heap.push _).objs.size;rw[Yi];simp only[Zn,Xb,or_false] at hb;rcases hb with rfl |rfl
 ·exact YQ _
 ·exact YL hlt
theorem yN(hh:A.handled=none)(hl:s.heap.IsList l its)(gc:Ho prog w A.in1 s.heap (λi v=>its[i]?=some v) bt)
  (h1:0 < its.size->∀v h' tk,its[argBest bt (its.size - 1)]?=some v->(∀b o,s.heap.get? b=some o->h'.get? b=some o)->Q v { s with heap:=h',toks:=tk })
  (h2:its.size=0->∀h' tk,(∀b o,s.heap.get? b=some o->h'.get? b=some o)->Q d { s with heap:=h',toks:=tk }):wpAny (model prog w) A (call (.builtin "min") [.ref l] [(Str.ofString "default", d)]) Q E s:=by
 refine kmb_tree F.kind_min F.plain_min F.entry_min (yK _ _) ?_;show wpAny _ A.in1 (Builtin.Builtins.bindParams "min" ["key", "default"] 0 ⟨[],[(Str.ofString "default", d)]⟩ >>= _) _ _ s;refine Uf (Uu (show Builtin.Builtins.bindParams "min" ["key", "default"] 0 ⟨[],[(Str.ofString "default", d)]⟩=pure [none,some d] from rfl) ?_);refine Uf (Uw ?_);refine Uf (yM hl λs2 e st fpl lI=>?_);subst e;have W:=Walks.list (prog:=prog) (w:=w) (A:=A.in1) hh s.heap.objs.size l lI its;refine Uf (Ut ?_);have gS:∀b ∈ [s.heap.objs.size,l],b < (s.heap.push { cls:=.type "list_iterator", data:=.fields #[.ref l,.int 0 0] }).objs.size:=fpl;rw[tV]
 have b0:s.heap.get? s.heap.objs.size=none:=by
  cases q:s.heap.get? s.heap.objs.size with
  |none=>rfl
  |some o=>exact absurd (Zr q) (ZN _)
 by_cases hz:its.size=0
 ·rw[hz] at W;refine Uw ⟨VV WF _,yL W (λhm=>ZN _ (fpl _ hm)) (W.frame _ _ _ st λb _ o e=>Zc _ e) (Zz _ rfl) λh' tk hk=>?_⟩;exact h2 hz h' tk (VU λb o hb e=>hk b o hb (Zc _ e))
 ·refine Uw ⟨VV WF _,vZ (base:=s.heap) W gc (λhm=>ZN _ (fpl _ hm)) ?_ ?_ (by lia) (W.frame _ _ _ st λb _ o e=>Zc _ e) (λa o e=>Zc _ (Zc _ e)) (Zz _ rfl) λv h' tk pv hk=>?_⟩
  ·intro a ha;rw[Zx.mp ha];exact b0
  ·cases q:s.heap.get? (s.heap.push { cls:=.type "list_iterator", data:=.fields #[.ref l,.int 0 0] }).objs.size with
   |none=>rfl
   |some o=>have:=Zr q;rw[Yi] at this;lia
  ·exact h1 (by lia) v h' tk pv (VU λb o hb e=>hk b o hb (ZF (Zr e)) (Zc _ e))
end
abbrev yO:D->Option (Int × List Int)
 |.tup [.int n,.tup es]=>(dq es).map λns=>(n,ns)
 |_=>none
abbrev kq:List D->Option (List (Int × List Int))
 |[]=>some []
 |d::ds=>match yO d,kq ds with
  |some w,some ws=>some (w::ws)
  |_,_=>none
abbrev kr(ws:List (Int × List Int))(i j:Nat):Bool:=fZ (ws.getD i (0,[])) (ws.getD j (0,[]))
abbrev iT(ns:List Int)(i j:Nat):Bool:=decide (ns.getD i 0 < ns.getD j 0)
abbrev Ch(ds:List D):Option (Nat->Nat->Bool):=match kq ds with
 |some ws=>some (kr ws)
 |none=>(dq ds).map iT
abbrev jj(tu:Bool)(ds:List D)(S:Sto):Option (D × Sto):=match tu,Ch ds with
 |false,some bt=>some (ds.getD (argBest bt (ds.length - 1)) .non,S)
 |_,_=>none
theorem tW:∀ {ds:List D} {ws:List (Int × List Int)},kq ds=some ws->ws.length=ds.length/\∀ (i:Nat) d,ds[i]?=some d->∃w,ws[i]?=some w/\d = .tup [.int w.1,.tup (w.2.map D.int)]
 |[],_,e=>by cases e;exact⟨rfl,λi d h=>by simp at h⟩
 |d::ds,ws,e=>by
  simp only[kq] at e;split at e
  ·rename_i w ws' h1 h2;cases e;obtain⟨l,r⟩:=tW h2;refine⟨by rw[Zv,Zv,l],λi d' h=>?_⟩;cases i with
   |zero=>
    cases h;refine⟨w,rfl,?_⟩;unfold yO at h1;split at h1
    ·rename_i n es;obtain⟨ns,e1,rfl⟩:=ZL.mp h1;rw[cE e1]
    ·cases h1
   |succ i=>exact r i d' (by simpa using h)
  ·cases e
section
variable {X:Cx} {K:W7} {m:List Addr} {H:Hp} {S:Sto} {e:Expr} {t:TA} {p pos kp vp:Pos} {j:Nat}
theorem mE{pins:List (Addr × Obj)}{σ:L2.St}{s:Shared}(I:Inv X pins σ H s){n:Int}{ns:List Int}{v:V}{u:Value}(vd:VD X.K m H (.tup [.int n,.tup (ns.map D.int)]) v)(r:aB v u) :
  ∃l t q o nn dd sl xs,u = .ref l/\o=(⟨.type "tuple", dd,.seq #[.int n t,.ref q] nn,sl⟩:Obj)/\s.heap.get? l=some o/\IsTup s.heap q xs/\IntsAre xs.toList ns:=by
 obtain⟨l,vs,rfl,hl,q0⟩:=vd.tups;obtain⟨a,b,rfl,va,vb⟩:=pS q0;clear q0;cases va.ints;obtain⟨q,ws,rfl,hq,qs⟩:=vb.tups;have ew:=cw qs;subst ew;cases r;obtain⟨_,its,rv,o,h1,h2,nn,h3,h4⟩:=I.hok l _ hl;obtain⟨x,y,rfl,r1,r2⟩:=o6 rv;obtain⟨tk,rfl⟩:=r1;cases r2;obtain⟨xs,rx,tx,_⟩:=I.tuple (.of hq);obtain⟨cls,dd,data,sl⟩:=o;simp only at h2 h3;subst h2 h3;exact⟨l,tk,q,_,nn,dd,sl,xs.toArray,rfl,rfl,h1,tx,by simpa using bj rx⟩
theorem Hq(hu:X.A.units+64 < cLine)(hc:X.calm=true)(hg:Gl X "min")(hm:X.mg "min" = none)(hdb:(("min" : Str) == ("__debug__" : Str))=false)(ha:PA X [e] t)(he:V6 [e] X.env=(false,eval e X.env)::V6 [] X.env) :
  PE X (.Call (.Name "min" p) [e] [⟨some "default", .Constant .none j vp,kp⟩] pos) (tCB (r1 (rSq X.K jj)) t):=by
 intro pins s σ H Q I h;refine Ue (cV I hg hm Wo ?_ (by decide) hdb);refine callWith_kw (thn (ha pos pins s σ H _ I h) λus s1 ⟨vs,H1,I1,r,q1⟩=>?_) (by rw[he];rfl) (by rw[he];rfl) rfl rfl;refine thn (sW (nm:=some "default") (kpos:=kp) (wZ (X:=X) (j:=j) (pos:=vp)) xo pos pins s1 σ H1 _ I1 (show bR (tC .non) ij σ H1 (λzs H2=>zs=[.non]/\H2=H1) from ⟨rfl,rfl⟩)) λks s2 ⟨zs,H2,I2,rz,ez,eH⟩=>?_;subst ez eH;obtain⟨u,rfl,ru⟩:=b9 rz;cases ru;obtain⟨_,rfl,m,S,tu,ds,a,ws,d,S',R,rfl,sq,vd,e',q⟩:=cp q1;obtain⟨u',rfl,ru'⟩:=b9 r;cases ru';unfold jj at e';split at e'
 ·rename_i bt hw;cases e';have sq:SqL X.K H2 a ws:=sq;obtain⟨its,rv,pl,hz⟩:=I2.list sq;have ld:=vd.length;have lr:=rv.length
  have there:∀ (i:Nat) v,its.toArray[i]?=some v->∃d,ds[i]?=some d/\∃y,VD X.K m H2 d y/\aB y v:=λi v hv=>by
   have hv:its[i]?=some v:=by simpa using hv
   have hi:i < ds.length:=by have:=(Zb.mp hv).1;lia
   obtain⟨y,hy,vy⟩:=vd.get (gEG hi);obtain⟨v',hv',ry⟩:=rv.get hy;rw[hv] at hv';cases hv';exact⟨_,gEG hi,y,vy,ry⟩
  refine yN (bt:=bt) (I2.ok.hd hc) pl.isList ?_ (λhsz v h' tk' hv hk=>?_) (λhsz h' tk' hk=>?_)
  ·intro i j vi vj s3 Q3 E3 kp pi pj hq;obtain⟨d1,hd1,y1,v1,r1⟩:=there i vi pi;obtain⟨d2,hd2,y2,v2,r2⟩:=there j vj pj;unfold Ch at hw;split at hw
   ·rename_i wl hwl;cases hw;obtain⟨_,at_⟩:=tW hwl;obtain⟨x,hx,rfl⟩:=at_ i _ hd1;obtain⟨y,hy,rfl⟩:=at_ j _ hd2;obtain⟨l1,t1,p1,o1,n1,dd1,sl1,xs1,rfl,rfl,g1,tp1,i1⟩:=mE I2 v1 r1;obtain⟨l2,t2,p2,o2,n2,dd2,sl2,xs2,rfl,rfl,g2,tp2,i2⟩:=mE I2 v2 r2
    have e:kr wl i j=fZ x y:=by
     unfold kr;rw[Zt,Zt,hx,hy];rfl
    rw[e] at hq
    exact VZ (op:=.Lt) ⟨_,kp _ _ g1,rfl⟩ ⟨_,kp _ _ g2,rfl⟩ WN WC (Wx _ _) (lP l1 l2 x.1 y.1 t1 t2 p1 p2 n1 n2 dd1 dd2 sl1 sl2 x.2 y.2)
     ⟨kp _ _ g1,kp _ _ g2,⟨xs1,xs2,tp1.keeps kp,tp2.keeps kp,i1,i2⟩,(show X.A.units+1+1 < cLine by lia),show Value.bool (fZ x y) ≠ Value.notImplemented/\Q3 (.bool (fZ x y)) s3 from ⟨(λz=>nomatch z),hq⟩⟩ (show X.A.units+1 < cLine by lia)
   ·obtain⟨ns,hi,rfl⟩:=ZL.mp hw;have ed:=cE hi;subst ed;rw[Zo] at hd1 hd2;obtain⟨x,hx,rfl⟩:=ZL.mp hd1;obtain⟨y,hy,rfl⟩:=ZL.mp hd2;cases v1.ints;cases v2.ints;obtain⟨t1,rfl⟩:=r1;obtain⟨t2,rfl⟩:=r2
    have e:iT ns i j=decide (x < y):=by
     unfold iT;rw[Zt,Zt,hx,hy];rfl
    rw[e] at hq;exact HT.jK _ s3 x t1 y t2 _ _ _ _ hq
  ·have hn:0 < ds.length:=by have:its.toArray.size=its.length:=Zk;lia
   obtain⟨d1,hd1,y1,v1,r1⟩:=there _ v hv;have e:its.toArray.size=ds.length:=by rw[Zk];lia
   rw[e] at hd1;refine⟨y1,H2,I2.kept hk,r1,?_⟩;rw[show ds.getD (argBest bt (ds.length - 1)) .non=d1 by rw[Zt,hd1];rfl] at q;exact q m H2 _ (Aft.refl R) v1
  ·have en:ds=[]:=ZV.mp (by rw[Zk] at hsz;lia);subst en;exact⟨.non,H2,I2.kept hk,rfl,q m H2 _ (Aft.refl R) jX⟩
 ·cases e'
end
end Ev
namespace L2
open PySem PySem.Spec PyProof.Rows
abbrev Itd(hi:Int)(n:Nat):It:=⟨λi _=>i < n,λi H x H'=>H'=H/\x = .int (hi - i),λi _=>n<=i⟩
theorem v0{P:Program}{w:World}{K:W7}{tg:Expr}(it:Addr)(lo:Int)(n:Nat):Turn P w K tg (Itd lo n) [it] it (λi h=>WQ h it (lo+(i:Nat) * (-1)) ((n:Int) - (i:Nat)) (-1)) where
 mem:=by simp
 obj:=λi h st b hb=>by
  have e:b=it:=by simpa using hb
  subst e
  exact⟨_,st,λv z=>by
   have z':Data.fields _=Data.cell v:=z;cases z'⟩
 keep:=λi h h' st k=>k it (by simp) _ st
 item:=by
  intro X hP hw hK hc i pins s σ H E I hf st hg;subst hP hw hK;obtain⟨f0,f1,f2,f3,f4,f5⟩:=hf it (by simp);have W:=Walks.range (prog:=X.prog) (w:=X.w) (I.ok.hd hc) it lo (-1) n;refine W.item i s _ _ hg st λv h' tk hv st' kk=>?_;obtain⟨t,rfl⟩:=hv;have I1:Inv X pins σ H { s with heap:=h',toks:=tk }:=I.turned (λb o hb e=>kk b o (by simpa using hb) e) f0 f1 f3 f4 f5;refine⟨_,rfl,sU (s:={ s with heap:=h',toks:=tk }) (n := "range_iterator") st' rfl rfl (by decide) ⟨.int (lo - i),H,I1,⟨t,?_⟩,⟨rfl,rfl⟩,st',λb hb=>(hf b hb).1⟩⟩
  congr 1
  omega
 done:=by
  intro X hP hw hK hc i pins s σ H E I hf st hg;subst hP hw hK;obtain⟨f0,f1,f2,f3,f4,f5⟩:=hf it (by simp);exact UD (I.ok.hd hc) st (by have:n<=i:=hg;omega) λh' eb=>⟨rfl,I.turned (t':=s.toks) (λb o hb e=>eb b o hb e) f0 f1 f3 f4 f5⟩
 self:=λ_ _ _ _ _ st h=>Uz st h
section
variable {X:Cx} {tg:Expr}
theorem r9{a:Int}(ha:-(2 ^ 62)<=a)(ha':a < 2 ^ 62):Builtin.Range.small a (-1) (-1)=true:=by
 unfold Builtin.Range.small;rw[Vm];simp only[Builtin.Range.rangeFitsLong,bAE,YH,decide_eq_true_eq,beq_iff_eq,show ¬ (-1:Int) > 0 by decide,if_false];split <;> omega
theorem Ci{pins:List (Addr × Obj)}{σ:St}{H:Hp}{s:Shared}{R:It->Hp->Prop}{E:Value->Shared->Prop}{lo:Int}{t u v:Tok}{tk:Nat}(I:Inv X pins σ H s)(h1:-(2 ^ 62)<=lo)(h2:lo < 2 ^ 62)
  (q:R (Itd lo (lo+1).toNat) H):wpAny (model X.prog X.w) X.A (pyIter (.ref s.heap.objs.size)) (PIE X pins σ tg R) E { s with heap:=s.heap.push { cls:=.type "range", data:=.fields #[.int lo t,.int (-1) u,.int (-1) v] },toks:=tk }:=by
 refine wpAny_pyIter_range (IsRange.new ..) (r9 h1 h2) ?_;have I1:Inv X pins σ H { s with heap:=s.heap.push { cls:=.type "range", data:=.fields #[.int lo t,.int (-1) u,.int (-1) v] },toks:=tk }:=I.kept λb o e=>Zc _ e
 refine⟨(s.heap.push { cls:=.type "range", data:=.fields #[.int lo t,.int (-1) u,.int (-1) v] }).objs.size,[(s.heap.push { cls:=.type "range", data:=.fields #[.int lo t,.int (-1) u,.int (-1) v] }).objs.size],_,_,H,rfl,
  I1.kept (t':=tk) λb o e=>Zc _ e,v0 _ lo (lo+1).toNat,?_,λb hb=>?_,q⟩
 ·have e1:lo+((0:Nat):Int) * (-1)=lo:=by simp
  have e2:(((lo+1).toNat:Nat):Int) - ((0:Nat):Int)=Builtin.Range.rangeSize lo (-1) (-1):=by rw[Vm];split <;> omega
  show WQ _ _ (lo+((0:Nat):Int) * (-1)) ((((lo+1).toNat:Nat):Int) - ((0:Nat):Int)) (-1);rw[e1,e2];exact Zz _ rfl
 ·have e:b=(s.heap.push { cls:=.type "range", data:=.fields #[.int lo t,.int (-1) u,.int (-1) v] }).objs.size:=by simpa using hb
  subst e;exact I1.fpOk (Zf _) (I1.hok.fresh (Zf _))
def iDn(ta:TA):TI:=λσ H R=>ta σ H λvs H1=>∃i:Int,vs=[.int i,.int (-1),.int (-1)]/\(-(2 ^ 62)<=i/\i < 2 ^ 62)/\R (Itd i (i+1).toNat) H1
theorem LS{a b c:Expr}{ta:TA}{p pos:Pos}(hg:Gl X "range")(hm:X.mg "range" = none)(ha:PA X [a,b,c] ta)(hs:V6 [a,b,c] X.env=(false,eval a X.env)::V6 [b,c] X.env)(hs2:(backTo pos (V6 [b,c] X.env)).any (·.1)=false) :
  PI X tg (.Call (.Name "range" p) [a,b,c] [] pos) (iDn ta):=by
 intro pins s σ H R I h;refine Call_ (cV I hg hm boot_range (Wr (thn (ha pos pins s σ H _ I h) λus s1 ⟨vs,H1,I1,r1,q1⟩=>?_) hs hs2));obtain⟨i,e,⟨q1,q2⟩,q⟩:=q1;subst e;cases r1 with
 |cons r rr=>
  cases rr with
  |cons r' rr=>
   cases rr with
   |cons r'' rr=>
    cases rr;obtain⟨t,rfl⟩:=r;obtain⟨t',rfl⟩:=r';obtain⟨t'',rfl⟩:=r'';exact call_range_3 (by decide) (Ci I1 q1 q2 q) (.inl (PyProof.noPylong_of_log2 (by decide +kernel)))
end
end L2
namespace Ev
open PySem PySem.Spec PyProof.Rows L2
abbrev nxD(hi:Int)(n:Nat):Nxt:=λi _=>some (if i < n then some (.int (hi - i)) else none)
section
variable {K:W7} {m m0:List Addr} {H H0:Hp} {S:Sto} {B:List Addr}
theorem Hr{lo:Int}{n:Nat}:IOk K B (Itd lo n) (nxD lo n) m0 H0:=by
 intro m S H i x R;unfold nxD;refine⟨λe=>?_,λd e=>?_⟩
 ·split at e
  ·cases e
  ·show n<=i;lia
 ·split at e
  ·rename_i hi;cases e;exact⟨hi,λy H' ⟨eH,hy⟩=>by subst eH;subst hy;exact⟨Aft.refl R,bc⟩⟩
  ·cases e
abbrev xDn(x:XE):XI:=λρ S=>bnd (x ρ S) λd S1=>match d with
 |.int j=>if lim j=true then some (nxD j (j+1).toNat,S1) else none
 |_=>none
theorem LU(h:tIt K B (xDn x) σ H R):iDn (bR (tE K x) (bR (tC (.int (-1))) (bR (tC (.int (-1))) ij))) σ H R:=by
 obtain⟨m,ρ,S,nx,S',E,Rl,hB,e,q⟩:=h;obtain⟨d,S1,e1,e⟩:=ab e;refine⟨m,ρ,S,d,S1,E,Rl,e1,λm1 H1 v A1 vd=>?_⟩;cases d with
 |int i=>
  dsimp only at e;split at e
  ·rename_i hl;cases e;exact⟨i,by rw[vd.ints],⟨(e8 hl).1,(e8 hl).2⟩,q m1 H1 _ A1 Hr⟩
  ·cases e
 |_=>cases e
end
mutual
inductive CE where |non |bl (b:Bool) |int (i:Int) |str (x:Str) |var (i:Nat) |con (k:Nat)(v:Int) |tup (es:List CE) |lst (es:List CE) |dic0 |bin (o:BOp)(a b:CE) |neg (a:CE) |cmp (o:COp)(a b:CE) |chn (o p:COp)(a b c:CE) |and (a b:CE) |or (a b:CE) |not (a:CE) |ite (c a b:CE) |ix (a b:CE) |sl (a:CE)(lo hi:Option CE) |call (f:Nat)(es:List CE) |inst (t:Ty)(a:CE) |len (a:CE) |all (a:CE) |tupOf (a:CE) |listR (a:CE) |srt (a:CE) |mxL (a:CE) |mxD (a:CE)(c:Int) |sm (a:CE) |rev (a:CE) |mnN (a:CE) |mx (a b:CE) |mn (a b:CE) |rep (a:CE) |comp (own:List Str)(elt:CE)(cls:List Cl) |app (o e:CE) |ext (o e:CE) |popAt (o e:CE) |cnt (o e:CE)
inductive CI where
 |val (a:CE) |r1 (a:CE) |r2 (a b:CE) |dn (a:CE) |en (a:CE)
inductive Cl where
 |mk (tg:Tg) (it:CI) (cond:Option CE)
end
abbrev ac:CE->Bool
 |.lst _=>true |.comp _ _ _=>true |.listR _=>true |.srt _=>true
 |_=>false
abbrev LF:Nat:=1000000
abbrev xNo{α:Type}:Rho->Sto->Option (α × Sto):=λ_ _=>none
abbrev cq(tu:Bool)(ds:List D):Option (List D):=if tu=false then yq tu ds else none
abbrev v5(f:Bool->List D->Option (List D))(x:XA):XA:=λρ S=>bnd (x ρ S) λds S1=>(f false ds).map λes=>(es,S1)
abbrev v7(f:Bool->List D->Option (List D))(x:XE):XA:=λρ S=>bnd (x ρ S) λd S1=>match ay d S1 with
 |some r=>(f r.1 r.2).map λes=>(es,S1)
 |none=>none
abbrev v8(x:XE):XA:=λρ S=>bnd (x ρ S) λd S1=>match d with
 |.int i=>if 0<=i/\i<=1000 then some ((Zl i.toNat).map λj=>.int (Int.ofNat j),S1) else none
 |_=>none
abbrev yP:XE:=λ_ S=>some (.ref S.length,S++[.dic [] []])
abbrev cnd(t:CE->XT):Option CE->XA->XA
 |some c,x=>yB (t c) x
 |none,x=>x
abbrev opt(t:CE->XE):Option CE->XO
 |some l=>rD (t l)
 |none=>rC
mutual
noncomputable def evE(C:Calls)(ar:Nat->Nat):Nat->CE->XE
 |0,_=>xNo
 |n+1,e=>match e with
  |.non=>xC .non
  |.bl b=>xC (.bl b)
  |.int i=>xC (.int i)
  |.str x=>xC (.str x)
  |.var i=>vB i
  |.con _ v=>xC (.int v)
  |.tup es=>jf jg (evA C ar n es)
  |.lst es=>dH (mq (evA C ar n es))
  |.dic0=>yP
  |.bin o a b=>pJ (bE o) (evE C ar n a) (evE C ar n b)
  |.neg a=>xUn Hi (evE C ar n a)
  |.cmp o a b=>pJ (am o) (evE C ar n a) (evE C ar n b)
  |.chn o p a b c=>vX (am o) (am p) (evE C ar n a) (evE C ar n b) (evE C ar n c)
  |.and a b=>yE (evE C ar n a) (evE C ar n b)
  |.or a b=>xOr (evE C ar n a) (evE C ar n b)
  |.not a=>xUn vW (evE C ar n a)
  |.ite c a b=>Hj (evT C ar n c) (evE C ar n a) (evE C ar n b)
  |.ix a b=>if ac a=true then rq (cF C ar n a) (evE C ar n b) else pJ ixS (evE C ar n a) (evE C ar n b)
  |.sl a lo hi=>xSl (evE C ar n a) (opt (evE C ar n) lo) (opt (evE C ar n) hi)
  |.call f es=>qc (C f) (ar f) (evA C ar n es)
  |.inst t a=>xUn (j8 t) (evE C ar n a)
  |.len a=>if ac a=true then lB cB (cF C ar n a) else lH cB (evE C ar n a)
  |.all a=>if ac a=true then lB ji (cF C ar n a) else lH ji (evE C ar n a)
  |.tupOf a=>if ac a=true then lB cL (cF C ar n a) else lH cL (evE C ar n a)
  |.listR a=>dH (v8 (evE C ar n a))
  |.srt a=>dH (if ac a=true then v5 cq (cF C ar n a) else v7 cq (evE C ar n a))
  |.mxL a=>if ac a=true then lB lK (cF C ar n a) else lH lK (evE C ar n a)
  |.mxD a c=>if ac a=true then lB (fY c) (cF C ar n a) else lH (fY c) (evE C ar n a)
  |.sm a=>if ac a=true then lB pX (cF C ar n a) else lH pX (evE C ar n a)
  |.rev a=>xUn rG (evE C ar n a)
  |.mnN a=>if ac a=true then lB jj (cF C ar n a) else lH jj (evE C ar n a)
  |.mx a b=>jf (two yi) (evA C ar n [a,b])
  |.mn a b=>jf (two yj) (evA C ar n [a,b])
  |.rep a=>xUn kj (evE C ar n a)
  | .comp own elt cls=>dH (match cls with
   |[]=>xNo
   | ⟨tg,it,cond⟩::rest=>km own.length (evI C ar n it) tg (cnd (evT C ar n) cond (fT C ar n elt rest)) LF)
  |.app o a=>vU dr rR (evE C ar n o) (evA C ar n [a])
  |.ext o a=>vU dr rX (evE C ar n o) (evA C ar n [a])
  |.popAt o a=>vU dr gr (evE C ar n o) (evA C ar n [a])
  |.cnt o a=>vU (λd _=>isTup d) rT (evE C ar n o) (evA C ar n [a])
noncomputable def evA(C:Calls)(ar:Nat->Nat):Nat->List CE->XA
 |0,_=>xNo
 |n+1,es=>match es with
  |[]=>BL
  |e::es=>tK (evE C ar n e) (evA C ar n es)
noncomputable def cF(C:Calls)(ar:Nat->Nat):Nat->CE->XA
 |0,_=>xNo
 |n+1,e=>match e with
  |.lst es=>mq (evA C ar n es)
  |.listR a=>v8 (evE C ar n a)
  |.srt a=>if ac a=true then v5 cq (cF C ar n a) else v7 cq (evE C ar n a)
  |.comp own elt cls=>match cls with
   |[]=>xNo
   |⟨tg,it,cond⟩::rest=>km own.length (evI C ar n it) tg (cnd (evT C ar n) cond (fT C ar n elt rest)) LF
  |_=>xNo
noncomputable def fT(C:Calls)(ar:Nat->Nat):Nat->CE->List Cl->XA
 |0,_,_=>xNo
 |n+1,elt,cls=>match cls with
  |[]=>Fd (evE C ar n elt)
  |⟨tg,it,cond⟩::rest=>iC (evI C ar n it) tg (cnd (evT C ar n) cond (fT C ar n elt rest)) LF
noncomputable def evI(C:Calls)(ar:Nat->Nat):Nat->CI->XI
 |0,_=>xNo
 |n+1,it=>match it with
  |.val a=>if ac a=true then xIT (cF C ar n a) else xIV (evE C ar n a)
  |.r1 a=>xR1 (evE C ar n a)
  |.dn a=>xDn (evE C ar n a)
  |.r2 a b=>xR2 (evE C ar n a) (evE C ar n b)
  |.en a=>if ac a=true then xET (cF C ar n a) else xEV (evE C ar n a)
noncomputable def evT(C:Calls)(ar:Nat->Nat):Nat->CE->XT
 |0,_=>xNo
 |n+1,e=>match e with
  |.cmp o a b=>xB (pJ (am o) (evE C ar n a) (evE C ar n b))
  |.chn o p a b c=>xB (vX (am o) (am p) (evE C ar n a) (evE C ar n b) (evE C ar n c))
  |.and a b=>yH (evT C ar n a) (evT C ar n b)
  |.or a b=>Hm (evT C ar n a) (evT C ar n b)
  |.not a=>yI (evT C ar n a)
  |.ite _ _ _=>xNo
  |e=>BX (evE C ar n e)
end
abbrev g6:List Str:=["len", "isinstance", "all", "any", "tuple", "list", "max", "min", "repr", "range", "enumerate", "int", "bool", "str", "sorted", "zip", "sum"]
structure Tab where
 con:List (Str × Int)
 fns:List (Str × Nat)
structure Blk where
 sc:Scope
 fs:Option Scope
 N:List Str
abbrev Blk.glo(b:Blk)(x:Str):Bool:=b.sc.names.lookup x == some .globalImplicit && !(x == ("__debug__" : Str))
abbrev Blk.vis(b:Blk)(x:Str):Bool:=(match b.sc.names.lookup x with
 |some .local=>true
 |some .cell=>true
 |some .free=>true
 | _=>false) && !(x == ("__debug__" : Str)) && !(x == ("__classdict__" : Str))
abbrev Blk.own(b:Blk)(x:Str):Bool:=match b.sc.names.lookup x with
 |some .local=>true
 | some .cell=>(match b.fs with
  |none=>true
  | some sc=>sc.names.lookup x == some .cell)
 |_=>false
theorem bF{P:Prop}[Decidable P]{f:P->Bool}(h:(if p:P then f p else false)=true):∃p,f p=true:=by
 by_cases p:P
 ·rw[dif_pos p] at h;exact⟨p,h⟩
 ·rw[dif_neg p] at h;cases h
theorem an2{a b:Bool}(h:(a && b)=true):a=true/\b=true:=by cases a;cases h;exact⟨rfl,h⟩
theorem an3{a b c:Bool}(h:(a && b && c)=true):a=true/\b=true/\c=true:=⟨(an2 (an2 h).1).1,(an2 (an2 h).1).2,(an2 h).2⟩
theorem an4{a b c d:Bool}(h:(a && b && c && d)=true):a=true/\b=true/\c=true/\d=true:=⟨(an3 (an2 h).1).1,(an3 (an2 h).1).2.1,(an3 (an2 h).1).2.2,(an2 h).2⟩
theorem an5{a b c d e:Bool}(h:(a && b && c && d && e)=true):a=true/\b=true/\c=true/\d=true/\e=true:=⟨(an4 (an2 h).1).1,(an4 (an2 h).1).2.1,(an4 (an2 h).1).2.2.1,(an4 (an2 h).1).2.2.2,(an2 h).2⟩
theorem an6{a b c d e f:Bool}(h:(a && b && c && d && e && f)=true):a=true/\b=true/\c=true/\d=true/\e=true/\f=true:=⟨(an5 (an2 h).1).1,(an5 (an2 h).1).2.1,(an5 (an2 h).1).2.2.1,(an5 (an2 h).1).2.2.2.1,(an5 (an2 h).1).2.2.2.2,(an2 h).2⟩
abbrev l1{α:Type}(l:List α)(k:α->Bool):Bool:=match l with
 |[]=>false
 |x::t=>t.isEmpty && k x
abbrev lC{α:Type}(l:List α)(k:α->List α->Bool):Bool:=match l with
 |[]=>false
 |x::t=>k x t
theorem dJ{α:Type}{l:List α}{k:α->List α->Bool}(h:lC l k=true):∃x t,l=x::t/\k x t=true:=by
 cases l with
 |nil=>cases h
 |cons x t=>exact⟨x,t,rfl,h⟩
theorem eJ{α:Type}{l:List α}(h:l.isEmpty=true):l=[]:=by cases l;rfl;cases h
theorem gu{α:Type}{l:List α}{k:α->Bool}(h:l1 l k=true):∃x,l=[x]/\k x=true:=by
 cases l with
 |nil=>cases h
 |cons x t=>obtain⟨h1,h2⟩:=an2 h;cases eJ h1;exact⟨x,rfl,h2⟩
abbrev aF(e:Expr):Bool:=!(e.ctorIdx == 22 || e.ctorIdx == 26 || e.ctorIdx == 7)
abbrev nZ(e:Expr)(k:BoolOp->List Expr->Pos->Bool):Bool:=if h:e.ctorIdx=0 then @Expr.BoolOp.elim (λ_=>Bool) e h k else false
theorem mF{e:Expr}{k:BoolOp->List Expr->Pos->Bool}(h:nZ e k=true):∃x0 x1 x2,e = .BoolOp x0 x1 x2/\k x0 x1 x2=true:=by
 obtain⟨h1,h⟩:=bF h;exact Expr.BoolOp.elim (motive_1:=λe=>∀h',@Expr.BoolOp.elim (λ_=>Bool) e h' k=true->∃x0 x1 x2,e = .BoolOp x0 x1 x2/\k x0 x1 x2=true) e h1 (λx0 x1 x2 _ hh=>⟨x0,x1,x2,rfl,hh⟩) h1 h
abbrev yQ(e:Expr)(k:Expr->WT->Expr->Pos->Bool):Bool:=if h:e.ctorIdx=2 then @Expr.BinOp.elim (λ_=>Bool) e h k else false
theorem yR{e:Expr}{k:Expr->WT->Expr->Pos->Bool}(h:yQ e k=true):∃x0 x1 x2 x3,e = .BinOp x0 x1 x2 x3/\k x0 x1 x2 x3=true:=by
 obtain⟨h1,h⟩:=bF h;exact Expr.BinOp.elim (motive_1:=λe=>∀h',@Expr.BinOp.elim (λ_=>Bool) e h' k=true->∃x0 x1 x2 x3,e = .BinOp x0 x1 x2 x3/\k x0 x1 x2 x3=true) e h1 (λx0 x1 x2 x3 _ hh=>⟨x0,x1,x2,x3,rfl,hh⟩) h1 h
abbrev g8(e:Expr)(k:UnaryOp->Expr->Pos->Bool):Bool:=if h:e.ctorIdx=3 then @Expr.UnaryOp.elim (λ_=>Bool) e h k else false
theorem ku{e:Expr}{k:UnaryOp->Expr->Pos->Bool}(h:g8 e k=true):∃x0 x1 x2,e = .UnaryOp x0 x1 x2/\k x0 x1 x2=true:=by
 obtain⟨h1,h⟩:=bF h;exact Expr.UnaryOp.elim (motive_1:=λe=>∀h',@Expr.UnaryOp.elim (λ_=>Bool) e h' k=true->∃x0 x1 x2,e = .UnaryOp x0 x1 x2/\k x0 x1 x2=true) e h1 (λx0 x1 x2 _ hh=>⟨x0,x1,x2,rfl,hh⟩) h1 h
abbrev yS(e:Expr)(k:Expr->Expr->Expr->Pos->Bool):Bool:=if h:e.ctorIdx=5 then @Expr.IfExp.elim (λ_=>Bool) e h k else false
theorem yT{e:Expr}{k:Expr->Expr->Expr->Pos->Bool}(h:yS e k=true):∃x0 x1 x2 x3,e = .IfExp x0 x1 x2 x3/\k x0 x1 x2 x3=true:=by
 obtain⟨h1,h⟩:=bF h;exact Expr.IfExp.elim (motive_1:=λe=>∀h',@Expr.IfExp.elim (λ_=>Bool) e h' k=true->∃x0 x1 x2 x3,e = .IfExp x0 x1 x2 x3/\k x0 x1 x2 x3=true) e h1 (λx0 x1 x2 x3 _ hh=>⟨x0,x1,x2,x3,rfl,hh⟩) h1 h
abbrev Fg(e:Expr)(k:List (Option Expr)->List Expr->Pos->Bool):Bool:=if h:e.ctorIdx=6 then @Expr.Dict.elim (λ_=>Bool) e h k else false
theorem Cj{e:Expr}{k:List (Option Expr)->List Expr->Pos->Bool}(h:Fg e k=true):∃x0 x1 x2,e = .Dict x0 x1 x2/\k x0 x1 x2=true:=by
 obtain⟨h1,h⟩:=bF h;exact Expr.Dict.elim (motive_1:=λe=>∀h',@Expr.Dict.elim (λ_=>Bool) e h' k=true->∃x0 x1 x2,e = .Dict x0 x1 x2/\k x0 x1 x2=true) e h1 (λx0 x1 x2 _ hh=>⟨x0,x1,x2,rfl,hh⟩) h1 h
abbrev iE(e:Expr)(k:Expr->List Wu->Scope->Pos->Bool):Bool:=if h:e.ctorIdx=8 then @Expr.ListComp.elim (λ_=>Bool) e h k else false
theorem iU{e:Expr}{k:Expr->List Wu->Scope->Pos->Bool}(h:iE e k=true):∃x0 x1 x2 x3,e = .ListComp x0 x1 x2 x3/\k x0 x1 x2 x3=true:=by
 obtain⟨h1,h⟩:=bF h;exact Expr.ListComp.elim (motive_1:=λe=>∀h',@Expr.ListComp.elim (λ_=>Bool) e h' k=true->∃x0 x1 x2 x3,e = .ListComp x0 x1 x2 x3/\k x0 x1 x2 x3=true) e h1 (λx0 x1 x2 x3 _ hh=>⟨x0,x1,x2,x3,rfl,hh⟩) h1 h
abbrev kx(e:Expr)(k:Expr->List CmpOp->List Expr->Pos->Bool):Bool:=if h:e.ctorIdx=15 then @Expr.Compare.elim (λ_=>Bool) e h k else false
theorem ky{e:Expr}{k:Expr->List CmpOp->List Expr->Pos->Bool}(h:kx e k=true):∃x0 x1 x2 x3,e = .Compare x0 x1 x2 x3/\k x0 x1 x2 x3=true:=by
 obtain⟨h1,h⟩:=bF h;exact Expr.Compare.elim (motive_1:=λe=>∀h',@Expr.Compare.elim (λ_=>Bool) e h' k=true->∃x0 x1 x2 x3,e = .Compare x0 x1 x2 x3/\k x0 x1 x2 x3=true) e h1 (λx0 x1 x2 x3 _ hh=>⟨x0,x1,x2,x3,rfl,hh⟩) h1 h
abbrev tX(e:Expr)(k:Expr->List Expr->List Keyword->Pos->Bool):Bool:=if h:e.ctorIdx=16 then @Expr.Call.elim (λ_=>Bool) e h k else false
theorem tY{e:Expr}{k:Expr->List Expr->List Keyword->Pos->Bool}(h:tX e k=true):∃x0 x1 x2 x3,e = .Call x0 x1 x2 x3/\k x0 x1 x2 x3=true:=by
 obtain⟨h1,h⟩:=bF h;exact Expr.Call.elim (motive_1:=λe=>∀h',@Expr.Call.elim (λ_=>Bool) e h' k=true->∃x0 x1 x2 x3,e = .Call x0 x1 x2 x3/\k x0 x1 x2 x3=true) e h1 (λx0 x1 x2 x3 _ hh=>⟨x0,x1,x2,x3,rfl,hh⟩) h1 h
abbrev dw(e:Expr)(k:Const->Nat->Pos->Bool):Bool:=if h:e.ctorIdx=19 then @Expr.Constant.elim (λ_=>Bool) e h k else false
theorem cO{e:Expr}{k:Const->Nat->Pos->Bool}(h:dw e k=true):∃x0 x1 x2,e = .Constant x0 x1 x2/\k x0 x1 x2=true:=by
 obtain⟨h1,h⟩:=bF h;exact Expr.Constant.elim (motive_1:=λe=>∀h',@Expr.Constant.elim (λ_=>Bool) e h' k=true->∃x0 x1 x2,e = .Constant x0 x1 x2/\k x0 x1 x2=true) e h1 (λx0 x1 x2 _ hh=>⟨x0,x1,x2,rfl,hh⟩) h1 h
abbrev kz(e:Expr)(k:Expr->Str->Pos->Bool):Bool:=if h:e.ctorIdx=20 then @Expr.Attribute.elim (λ_=>Bool) e h k else false
theorem n4{e:Expr}{k:Expr->Str->Pos->Bool}(h:kz e k=true):∃x0 x1 x2,e = .Attribute x0 x1 x2/\k x0 x1 x2=true:=by
 obtain⟨h1,h⟩:=bF h;exact Expr.Attribute.elim (motive_1:=λe=>∀h',@Expr.Attribute.elim (λ_=>Bool) e h' k=true->∃x0 x1 x2,e = .Attribute x0 x1 x2/\k x0 x1 x2=true) e h1 (λx0 x1 x2 _ hh=>⟨x0,x1,x2,rfl,hh⟩) h1 h
abbrev cG(e:Expr)(k:Expr->Expr->Pos->Bool):Bool:=if h:e.ctorIdx=21 then @Expr.Subscript.elim (λ_=>Bool) e h k else false
theorem cr{e:Expr}{k:Expr->Expr->Pos->Bool}(h:cG e k=true):∃x0 x1 x2,e = .Subscript x0 x1 x2/\k x0 x1 x2=true:=by
 obtain⟨h1,h⟩:=bF h;exact Expr.Subscript.elim (motive_1:=λe=>∀h',@Expr.Subscript.elim (λ_=>Bool) e h' k=true->∃x0 x1 x2,e = .Subscript x0 x1 x2/\k x0 x1 x2=true) e h1 (λx0 x1 x2 _ hh=>⟨x0,x1,x2,rfl,hh⟩) h1 h
abbrev yU(e:Expr)(k:Str->Pos->Bool):Bool:=if h:e.ctorIdx=23 then @Expr.Name.elim (λ_=>Bool) e h k else false
theorem tZ{e:Expr}{k:Str->Pos->Bool}(h:yU e k=true):∃x0 x1,e = .Name x0 x1/\k x0 x1=true:=by
 obtain⟨h1,h⟩:=bF h;exact Expr.Name.elim (motive_1:=λe=>∀h',@Expr.Name.elim (λ_=>Bool) e h' k=true->∃x0 x1,e = .Name x0 x1/\k x0 x1=true) e h1 (λx0 x1 _ hh=>⟨x0,x1,rfl,hh⟩) h1 h
abbrev Fh(e:Expr)(k:List Expr->Pos->Bool):Bool:=if h:e.ctorIdx=24 then @Expr.List.elim (λ_=>Bool) e h k else false
theorem Ck{e:Expr}{k:List Expr->Pos->Bool}(h:Fh e k=true):∃x0 x1,e = .List x0 x1/\k x0 x1=true:=by
 obtain⟨h1,h⟩:=bF h;exact Expr.List.elim (motive_1:=λe=>∀h',@Expr.List.elim (λ_=>Bool) e h' k=true->∃x0 x1,e = .List x0 x1/\k x0 x1=true) e h1 (λx0 x1 _ hh=>⟨x0,x1,rfl,hh⟩) h1 h
abbrev yV(e:Expr)(k:List Expr->Nat->Pos->Bool):Bool:=if h:e.ctorIdx=25 then @Expr.Tuple.elim (λ_=>Bool) e h k else false
theorem yW{e:Expr}{k:List Expr->Nat->Pos->Bool}(h:yV e k=true):∃x0 x1 x2,e = .Tuple x0 x1 x2/\k x0 x1 x2=true:=by
 obtain⟨h1,h⟩:=bF h;exact Expr.Tuple.elim (motive_1:=λe=>∀h',@Expr.Tuple.elim (λ_=>Bool) e h' k=true->∃x0 x1 x2,e = .Tuple x0 x1 x2/\k x0 x1 x2=true) e h1 (λx0 x1 x2 _ hh=>⟨x0,x1,x2,rfl,hh⟩) h1 h
abbrev sd(e:Expr)(k:Option Expr->Option Expr->Option Expr->Pos->Bool):Bool:=if h:e.ctorIdx=26 then @Expr.Slice.elim (λ_=>Bool) e h k else false
theorem qe{e:Expr}{k:Option Expr->Option Expr->Option Expr->Pos->Bool}(h:sd e k=true):∃x0 x1 x2 x3,e = .Slice x0 x1 x2 x3/\k x0 x1 x2 x3=true:=by
 obtain⟨h1,h⟩:=bF h;exact Expr.Slice.elim (motive_1:=λe=>∀h',@Expr.Slice.elim (λ_=>Bool) e h' k=true->∃x0 x1 x2 x3,e = .Slice x0 x1 x2 x3/\k x0 x1 x2 x3=true) e h1 (λx0 x1 x2 x3 _ hh=>⟨x0,x1,x2,x3,rfl,hh⟩) h1 h
abbrev se(e:Expr):Bool:=!(e.ctorIdx == 22 || tX e λf es ks _=>f.ctorIdx == 23 && es.isEmpty && ks.isEmpty)
abbrev Hs(e:Expr):Bool:=!(e.ctorIdx == 0 || e.ctorIdx == 5 || e.ctorIdx == 15 || g8 e λo _ _=>decide (o = .Not))
abbrev kB(own N:List Str):List Nat:=(Zl N.length).filter λi=>match N[i]? with
 |some x=>own.contains x
 |none=>false
abbrev Blk.inner(b:Blk)(own:List Str)(scope:Scope):Blk:=⟨eP scope b.sc,some scope,cA (kB own b.N) b.N++own⟩
abbrev yX(e:Expr):Option (Str × Pos):=if h:e.ctorIdx=23 then some (@Expr.Name.elim (λ_=>Str × Pos) e h λx p=>(x,p)) else none
abbrev v9(e:Expr):Option (List Expr × Nat × Pos):=if h:e.ctorIdx=25 then some (@Expr.Tuple.elim (λ_=>List Expr × Nat × Pos) e h λes k p=>(es,k,p)) else none
theorem Fi{α:Type}{P:Prop}[Decidable P]{f:P->α}{r:α}(h:(if p:P then some (f p) else none)=some r):∃p,f p=r:=by
 by_cases p:P
 ·rw[dif_pos p] at h;cases h;exact⟨p,rfl⟩
 ·rw[dif_neg p] at h;cases h
theorem n5{e:Expr}{x:Str}{p:Pos}(h:yX e=some (x,p)):e = .Name x p:=by
 obtain⟨h1,h⟩:=Fi h;exact Expr.Name.elim (motive_1:=λe=>∀h',Expr.Name.elim (motive_1:=λ_=>Str × Pos) e h' (λx p=>(x,p))=(x,p)->e = .Name x p) e h1 (λ_ _ _ hh=>by cases hh;rfl) h1 h
theorem n6{e:Expr}{es:List Expr}{k:Nat}{p:Pos}(h:v9 e=some (es,k,p)):e = .Tuple es k p:=by
 obtain⟨h1,h⟩:=Fi h;exact Expr.Tuple.elim (motive_1:=λe=>∀h',Expr.Tuple.elim (motive_1:=λ_=>List Expr × Nat × Pos) e h' (λes k p=>(es,k,p))=(es,k,p)->e = .Tuple es k p) e h1 (λ_ _ _ _ hh=>by cases hh;rfl) h1 h
abbrev oA{α:Type}(o:Option α)(k:α->Bool):Bool:=match o with
 |some r=>k r
 |none=>false
theorem wa{α:Type}{o:Option α}{k:α->Bool}(h:oA o k=true):∃r,o=some r/\k r=true:=by
 cases o with
 |none=>cases h
 |some r=>exact⟨r,rfl,h⟩
theorem Cm{a b:Bool}(h:(a || b)=true):a=true\/b=true:=by cases a;exact .inr h;exact .inl rfl
mutual
noncomputable def sf(b:Blk)(e:Expr):Tg->Bool
 |.name i=>oA (yX e) λr=>b.N[i]? == some r.1 && b.own r.1
 |.tup ts=>oA (v9 e) λr=>kC b r.1 ts
noncomputable def kC(b:Blk)(es:List Expr):List Tg->Bool
 |[]=>es.isEmpty
 |t::ts=>lC es λe es=>sf b e t && aF e && kC b es ts
end
abbrev Ht(e:Expr):Bool:=dw e λc _ _=>decide (c = .none)
abbrev sBl(v:Bool)(e:Expr):Bool:=dw e λc _ _=>decide (c = .bool v)
abbrev wb(v:Int)(e:Expr):Bool:=dw e λc _ _=>decide (c = .int v)
abbrev LV(v:Str)(e:Expr):Bool:=dw e λc _ _=>decide (c = .str v)
abbrev t5(k:Str->Bool)(e:Expr):Bool:=yU e λx _=>k x
abbrev Hu(k:List Expr->Bool)(e:Expr):Bool:=yV e λes _ _=>k es
abbrev LW(k:List Expr->Bool)(e:Expr):Bool:=Fh e λes _=>k es
abbrev LX(o:WT)(k l:Expr->Bool)(e:Expr):Bool:=yQ e λx op y _=>decide (op=o) && k x && l y
abbrev yY(k:Expr->Bool)(e:Expr):Bool:=g8 e λo x _=>decide (o = .USub) && k x
abbrev Hv(k:Expr->Bool)(e:Expr):Bool:=g8 e λo x _=>decide (o = .Not) && k x
abbrev Hw(o:CmpOp)(k l:Expr->Bool)(e:Expr):Bool:=kx e λx os ys _=>l1 os λop=>l1 ys λy=>decide (op=o) && k x && l y && aF y
abbrev Hx(o p:CmpOp)(k l m:Expr->Bool)(e:Expr):Bool:=kx e λx os ys _=>lC os λop os=>l1 os λop'=>lC ys λy ys=>l1 ys λz=>decide (op=o) && decide (op'=p) && k x && l y && m z && aF z
abbrev yZ(o:BoolOp)(k l:Expr->Bool)(e:Expr):Bool:=nZ e λop vs _=>lC vs λx vs=>l1 vs λy=>decide (op=o) && k x && l y
abbrev y3(o:BoolOp)(k l:Expr->Bool)(e:Expr):Bool:=nZ e λop vs p=>lC vs λx vs=>lC vs λy vs=>lC vs λz ys=>decide (op=o) && k x && l (.BoolOp o (y::z::ys) p)
abbrev LY(k l m:Expr->Bool)(e:Expr):Bool:=yS e λx y z _=>k x && l y && m z
abbrev sIx(k l:Expr->Bool)(e:Expr):Bool:=cG e λx y _=>k x && l y && aF y
abbrev sSl(k:Expr->Bool)(l m:Option Expr->Bool)(e:Expr):Bool:=cG e λx s _=>sd s λy z w _=>w.isNone && k x && l y && m z
abbrev LZ(k:Expr->Bool)(e:Expr):Bool:=cG e λx s _=>sd s λy z w _=>y.isNone && z.isNone && k x && oA w λe=>yY (wb 1) e
abbrev sCN(e:Expr)(k:Str->List Expr->List Keyword->Bool):Bool:=tX e λf es ks _=>yU f λx _=>k x es ks
abbrev Fj(k:Str->Bool)(l:List Expr->Bool)(e:Expr):Bool:=sCN e λx es ks=>lC es λe es=>ks.isEmpty && k x && l (e::es)
abbrev sg(b:Blk)(f:Str)(k:List Expr->Bool)(e:Expr):Bool:=sCN e λx es ks=>lC es λe es=>ks.isEmpty && x == f && b.glo x && k (e::es)
abbrev cf(b:Blk)(f:Str)(k:Expr->Bool)(e:Expr):Bool:=sCN e λx es ks=>l1 es λe=>ks.isEmpty && x == f && b.glo x && k e && aF e
abbrev L0(c:Int)(ks:List Keyword):Bool:=l1 ks λw=>w.arg == some (Str.ofString "default") && wb c w.value
abbrev Fk(b:Blk)(k:Expr->Bool)(e:Expr):Bool:=sCN e λx es ks=>l1 es λe=>(l1 ks λw=>w.arg == some (Str.ofString "default") && Ht w.value) && x == "min" && b.glo x && k e && aF e
abbrev sDn(b:Blk)(k:Expr->Bool)(e:Expr):Bool:=sCN e λx es ks=>lC es λe1 es=>lC es λe2 es=>l1 es λe3=>ks.isEmpty && x == "range" && b.glo x && (k e1 && aF e1 && yY (wb 1) e2 && yY (wb 1) e3)
abbrev Fm(b:Blk)(c:Int)(k:Expr->Bool)(e:Expr):Bool:=sCN e λx es ks=>l1 es λe=>L0 c ks && x == "max" && b.glo x && k e && aF e
abbrev si(b:Blk)(f:Str)(k l:Expr->Bool)(e:Expr):Bool:=sCN e λx es ks=>lC es λe es=>l1 es λe'=>ks.isEmpty && (x == f && b.glo x && k e && aF e && l e' && aF e')
abbrev y4(m:Str)(k:Expr->Bool)(l:List Expr->Bool)(e:Expr):Bool:=tX e λf es ks p=>kz f λx m' ap=>ks.isEmpty && m' == m && se x && (ap.endLine == p.line) && k x && l es
abbrev Fn(k:Expr->Expr->Expr->List Expr->List Wu->Scope->Bool)(e:Expr):Bool:=iE e λe gs scope _=>lC gs λg gs=>decide (g.is_async=0) && k e g.target g.iter g.ifs gs scope
abbrev Fo(e:Expr):Bool:=Fg e λks vs _=>ks.isEmpty && vs.isEmpty
theorem bv{x y:Str}(h:(x == y)=true):x=y:=eq_of_beq h
section
variable {e:Expr} {k l m:Expr->Bool}
theorem y6(h:Ht e=true):∃a p,e = .Constant .none a p:=by
 obtain⟨c,a,p,rfl,h⟩:=cO h;cases of_decide_eq_true h;exact⟨a,p,rfl⟩
theorem L1{v:Bool}(h:sBl v e=true):∃a p,e = .Constant (.bool v) a p:=by
 obtain⟨c,a,p,rfl,h⟩:=cO h;cases of_decide_eq_true h;exact⟨a,p,rfl⟩
theorem kD{v:Int}(h:wb v e=true):∃a p,e = .Constant (.int v) a p:=by
 obtain⟨c,a,p,rfl,h⟩:=cO h;cases of_decide_eq_true h;exact⟨a,p,rfl⟩
theorem Hy{v:Str}(h:LV v e=true):∃a p,e = .Constant (.str v) a p:=by
 obtain⟨c,a,p,rfl,h⟩:=cO h;cases of_decide_eq_true h;exact⟨a,p,rfl⟩
theorem n8{k:Str->Bool}(h:t5 k e=true):∃x p,e = .Name x p/\k x=true:=tZ h
theorem y7{k:List Expr->Bool}(h:Hu k e=true):∃x a p,e = .Tuple x a p/\k x=true:=yW h
theorem Hz{k:List Expr->Bool}(h:LW k e=true):∃x p,e = .List x p/\k x=true:=Ck h
theorem HA{o:WT}(h:LX o k l e=true):∃x y p,e = .BinOp x o y p/\k x=true/\l y=true:=by
 obtain⟨x,op,y,p,rfl,h⟩:=yR h;obtain⟨h1,z0⟩:=an3 h;cases of_decide_eq_true h1;exact⟨x,y,p,rfl,z0⟩
theorem n9(h:yY k e=true):∃x p,e = .UnaryOp .USub x p/\k x=true:=by
 obtain⟨op,x,p,rfl,h⟩:=ku h;obtain⟨h1,z0⟩:=an2 h;cases of_decide_eq_true h1;exact⟨x,p,rfl,z0⟩
theorem y8(h:Hv k e=true):∃x p,e = .UnaryOp .Not x p/\k x=true:=by
 obtain⟨op,x,p,rfl,h⟩:=ku h;obtain⟨h1,z0⟩:=an2 h;cases of_decide_eq_true h1;exact⟨x,p,rfl,z0⟩
theorem y9{o:CmpOp}(h:Hw o k l e=true):∃x y p,e = .Compare x [o] [y] p/\k x=true/\l y=true/\aF y=true:=by
 obtain⟨x,os,ys,p,rfl,h⟩:=ky h;obtain⟨op,rfl,h⟩:=gu h;obtain⟨y,rfl,h⟩:=gu h;obtain⟨h1,z0⟩:=an4 h;cases of_decide_eq_true h1;exact⟨x,y,p,rfl,z0⟩
theorem zd{o p:CmpOp}(h:Hx o p k l m e=true):∃x y z q,e = .Compare x [o,p] [y,z] q/\k x=true/\l y=true/\m z=true/\aF z=true:=by
 obtain⟨x,os,ys,q,rfl,h⟩:=ky h;obtain⟨op,os,rfl,h⟩:=dJ h;obtain⟨op',rfl,h⟩:=gu h;obtain⟨y,ys,rfl,h⟩:=dJ h;obtain⟨z,rfl,h⟩:=gu h;obtain⟨h1,h2,z0⟩:=an6 h;cases of_decide_eq_true h1;cases of_decide_eq_true h2;exact⟨x,y,z,q,rfl,z0⟩
theorem oe{o:BoolOp}(h:yZ o k l e=true):∃x y p,e = .BoolOp o [x,y] p/\k x=true/\l y=true:=by
 obtain⟨op,vs,p,rfl,h⟩:=mF h;obtain⟨x,vs,rfl,h⟩:=dJ h;obtain⟨y,rfl,h⟩:=gu h;obtain⟨h1,z0⟩:=an3 h;cases of_decide_eq_true h1;exact⟨x,y,p,rfl,z0⟩
theorem og{o:BoolOp}(h:y3 o k l e=true):∃x y z ys p,e = .BoolOp o (x::y::z::ys) p/\k x=true/\l (.BoolOp o (y::z::ys) p)=true:=by
 obtain⟨op,vs,p,rfl,h⟩:=mF h;obtain⟨x,vs,rfl,h⟩:=dJ h;obtain⟨y,vs,rfl,h⟩:=dJ h;obtain⟨z,vs,rfl,h⟩:=dJ h;obtain⟨h1,z0⟩:=an3 h;cases of_decide_eq_true h1;exact⟨x,y,z,vs,p,rfl,z0⟩
theorem HB(h:LY k l m e=true):∃x y z p,e = .IfExp x y z p/\k x=true/\l y=true/\m z=true:=by
 obtain⟨x,y,z,p,rfl,h⟩:=yT h;exact⟨x,y,z,p,rfl,an3 h⟩
theorem L3(h:sIx k l e=true):∃x y p,e = .Subscript x y p/\k x=true/\l y=true/\aF y=true:=by
 obtain⟨x,y,p,rfl,h⟩:=cr h;exact⟨x,y,p,rfl,an3 h⟩
theorem L4{l m:Option Expr->Bool}(h:sSl k l m e=true):∃x y z p q,e = .Subscript x (.Slice y z none p) q/\k x=true/\l y=true/\m z=true:=by
 obtain⟨x,s,q,rfl,h⟩:=cr h;obtain⟨y,z,w,p,rfl,h⟩:=qe h;obtain⟨h1,z0⟩:=an4 h;cases w;exact⟨x,y,z,p,q,rfl,z0⟩;cases h1
theorem HC(h:LZ k e=true):∃x n p p2 p3 p4,e = .Subscript x (.Slice none none (some (.UnaryOp .USub (.Constant (.int 1) n p3) p4)) p2) p/\k x=true:=by
 obtain⟨x,s,q,rfl,h⟩:=cr h;obtain⟨y,z,w,p,rfl,h⟩:=qe h;obtain⟨h1,h2,h3,h4⟩:=an4 h;obtain⟨u,rfl,h4⟩:=wa h4;obtain⟨v,p4,rfl,h5⟩:=n9 h4;obtain⟨n,p3,rfl⟩:=kD h5;cases y <;> cases z <;> first |exact⟨x,n,q,p,p3,p4,rfl,h3⟩ |(cases h1;done) |(cases h2;done)
theorem kE{k:Str->List Expr->List Keyword->Bool}(h:sCN e k=true):∃x p es ks q,e = .Call (.Name x p) es ks q/\k x es ks=true:=by
 obtain⟨f,es,ks,q,rfl,h⟩:=tY h;obtain⟨x,p,rfl,h⟩:=tZ h;exact⟨x,p,es,ks,q,rfl,h⟩
theorem Cn{k:Str->Bool}{l:List Expr->Bool}(h:Fj k l e=true):∃x x1 es p q,e = .Call (.Name x p) (x1::es) [] q/\k x=true/\l (x1::es)=true:=by
 obtain⟨x,p,es,ks,q,rfl,h⟩:=kE h;obtain⟨x1,es,rfl,h⟩:=dJ h;obtain⟨h1,z0⟩:=an3 h;cases eJ h1;exact⟨x,x1,es,p,q,rfl,z0⟩
theorem qf{b:Blk}{f:Str}{k:List Expr->Bool}(h:sg b f k e=true):∃x es p q,e = .Call (.Name f p) (x::es) [] q/\b.glo f=true/\k (x::es)=true:=by
 obtain⟨x,p,es,ks,q,rfl,h⟩:=kE h;obtain⟨x1,es,rfl,h⟩:=dJ h;obtain⟨h1,h2,z0⟩:=an4 h;cases eJ h1;cases bv h2;exact⟨x1,es,p,q,rfl,z0⟩
theorem bh{b:Blk}{f:Str}(h:cf b f k e=true):∃x p q,e = .Call (.Name f p) [x] [] q/\b.glo f=true/\k x=true/\aF x=true:=by
 obtain⟨x,p,es,ks,q,rfl,h⟩:=kE h;obtain⟨x1,rfl,h⟩:=gu h;obtain⟨h1,h2,z0⟩:=an5 h;cases eJ h1;cases bv h2;exact⟨x1,p,q,rfl,z0⟩
theorem HD{c:Int}{ks:List Keyword}(h:L0 c ks=true):∃j p q,ks=[⟨some "default", .Constant (.int c) j p,q⟩]:=by
 obtain⟨⟨a,v,q⟩,rfl,h⟩:=gu h;obtain⟨h1,z0⟩:=an2 h;obtain⟨j,p,e⟩:=kD z0;obtain e1:=eq_of_beq h1;exact⟨j,p,q,by rw[show v=_ from e,show a=_ from e1]⟩
theorem Co{b:Blk}{c:Int}(h:Fm b c k e=true):∃x p q j p' q',e = .Call (.Name "max" p) [x] [⟨some "default", .Constant (.int c) j p',q'⟩] q/\b.glo "max" = true/\k x=true/\aF x=true:=by
 obtain⟨x,p,es,ks,q,rfl,h⟩:=kE h;obtain⟨x1,rfl,h⟩:=gu h;obtain⟨h1,h2,z0⟩:=an5 h;obtain⟨j,p',q',rfl⟩:=HD h1;cases bv h2;exact⟨x1,p,q,j,p',q',rfl,z0⟩
theorem Cp{b:Blk}(h:Fk b k e=true):∃x p q j p' q',e = .Call (.Name "min" p) [x] [⟨some "default", .Constant .none j p',q'⟩] q/\b.glo "min" = true/\k x=true/\aF x=true:=by
 obtain⟨x,p,es,ks,q,rfl,h⟩:=kE h;obtain⟨x1,rfl,h⟩:=gu h;obtain⟨h1,h2,z0⟩:=an5 h;obtain⟨⟨a,v,q'⟩,rfl,h3⟩:=gu h1;obtain⟨h4,h5⟩:=an2 h3;obtain⟨j,p',e5⟩:=y6 h5;have e4:=eq_of_beq h4;cases bv h2;exact⟨x1,p,q,j,p',q',by rw[show v=_ from e5,show a=_ from e4],z0⟩
theorem Fp{b:Blk}(h:sDn b k e=true):∃x p q n2 p2 r2 n3 p3 r3,e = .Call (.Name "range" p) [x,.UnaryOp .USub (.Constant (.int 1) n2 p2) r2,.UnaryOp .USub (.Constant (.int 1) n3 p3) r3] [] q/\b.glo "range" = true/\k x=true/\aF x=true:=by
 obtain⟨x,p,es,ks,q,rfl,h⟩:=kE h;obtain⟨e1,es,rfl,h⟩:=dJ h;obtain⟨e2,es,rfl,h⟩:=dJ h;obtain⟨e3,rfl,h⟩:=gu h;obtain⟨h1,h2,h3,h4⟩:=an4 h;obtain⟨h5,h6,h7,h8⟩:=an4 h4;obtain⟨u,r2,rfl,h7⟩:=n9 h7;obtain⟨n2,p2,rfl⟩:=kD h7;obtain⟨u,r3,rfl,h8⟩:=n9 h8;obtain⟨n3,p3,rfl⟩:=kD h8;cases bv h2;cases eJ h1;exact⟨e1,p,q,n2,p2,r2,n3,p3,r3,rfl,h3,h5,h6⟩
theorem kF{b:Blk}{f:Str}(h:si b f k l e=true):∃x y p q,e = .Call (.Name f p) [x,y] [] q/\b.glo f=true/\k x=true/\aF x=true/\l y=true/\aF y=true:=by
 obtain⟨x,p,es,ks,q,rfl,h⟩:=kE h;obtain⟨x1,es,rfl,h⟩:=dJ h;obtain⟨y,rfl,h⟩:=gu h;obtain⟨h1,y0⟩:=an2 h;obtain⟨h2,z0⟩:=an6 y0;cases eJ h1;cases bv h2;exact⟨x1,y,p,q,rfl,z0⟩
theorem oh{m:Str}{l:List Expr->Bool}(h:y4 m k l e=true):∃x ap es p,e = .Call (.Attribute x m ap) es [] p/\se x=true/\(ap.endLine == p.line)=true/\k x=true/\l es=true:=by
 obtain⟨f,es,ks,p,rfl,h⟩:=tY h;obtain⟨x,m',ap,rfl,h⟩:=n4 h;obtain⟨h1,h2,z0⟩:=an6 h;cases eJ h1;cases bv h2;exact⟨x,ap,es,p,rfl,z0⟩
theorem t6{k:Expr->Expr->Expr->List Expr->List Wu->Scope->Bool}(h:Fn k e=true):∃el t i ifs gs scope p,e = .ListComp el (⟨t,i,ifs,0⟩::gs) scope p/\k el t i ifs gs scope=true:=by
 obtain⟨el,gs,scope,p,rfl,h⟩:=iU h;obtain⟨⟨t,i,ifs,as⟩,gs,rfl,h⟩:=dJ h;obtain⟨h1,z0⟩:=an2 h;cases of_decide_eq_true h1;exact⟨el,t,i,ifs,gs,scope,p,rfl,z0⟩
theorem Cq(h:Fo e=true):∃p,e = .Dict [] [] p:=by
 obtain⟨ks,vs,p,rfl,h⟩:=Cj h;obtain⟨h1,h2⟩:=an2 h;cases eJ h1;cases eJ h2;exact⟨p,rfl⟩
end
abbrev ze(f:Expr->CE->Bool)(l:Option Expr):Option CE->Bool
 |none=>l.isNone
 |some c=>oA l λe=>f e c
abbrev zf(f:Expr->CE->Bool)(l:List Expr):Option CE->Bool
 |none=>l.isEmpty
 |some c=>l1 l λe=>f e c
abbrev clC(cls:List Cl)(k:Tg->CI->Option CE->List Cl->Bool):Bool:=match cls with
 |[]=>false
 |⟨tg,it,cond⟩::rest=>k tg it cond rest
theorem Fq{cls:List Cl}{k:Tg->CI->Option CE->List Cl->Bool}(h:clC cls k=true):∃tg it cond rest,cls=⟨tg,it,cond⟩::rest/\k tg it cond rest=true:=by
 cases cls with
 |nil=>cases h
 |cons g rest=>obtain⟨tg,it,cond⟩:=g;exact⟨tg,it,cond,rest,rfl,h⟩
mutual
noncomputable def aI(T:Tab):Nat->Blk->Expr->CE->Bool
 |0,_,_,_=>false
 |n+1,b,e,c=>match c with
  |.non=>Ht e
  |.bl v=>sBl v e
  |.int i=>wb i e
  |.str x=>LV x e
  |.var i=>t5 (λx=>b.N[i]? == some x && b.vis x) e
  |.con k v=>t5 (λx=>T.con[k]? == some (x,v) && b.glo x) e
  |.tup cs=>Hu (λes=>eK T n b es cs) e
  |.lst cs=>LW (λes=>eK T n b es cs) e
  |.dic0=>Fo e
  |.bin o a c=>LX o.op (λx=>aI T n b x a) (λx=>aI T n b x c) e
  |.neg a=>yY (λx=>aI T n b x a) e
  |.cmp o a c=>Hw o.op (λx=>aI T n b x a) (λx=>aI T n b x c) e
  |.chn o p a c d=>Hx o.op p.op (λx=>aI T n b x a) (λx=>aI T n b x c) (λx=>aI T n b x d) e
  |.and a c=>yZ .And (λx=>aI T n b x a) (λx=>aI T n b x c) e || y3 .And (λx=>aI T n b x a) (λx=>aI T n b x c) e
  |.or a c=>yZ .Or (λx=>aI T n b x a) (λx=>aI T n b x c) e || y3 .Or (λx=>aI T n b x a) (λx=>aI T n b x c) e
  |.not a=>Hv (λx=>aI T n b x a) e
  |.ite t a c=>LY (λx=>eL T n b x t) (λx=>aI T n b x a) (λx=>aI T n b x c) e
  |.ix a c=>sIx (λx=>aI T n b x a) (λx=>aI T n b x c) e
  |.sl a lo hi=>sSl (λx=>aI T n b x a) (λl=>ze (aI T n b) l lo) (λl=>ze (aI T n b) l hi) e
  |.call f cs=>Fj (λx=>oA T.fns[f]? (λy=>y.1 == x) && b.glo x) (λes=>eK T n b es cs) e
  |.inst t a=>si b "isinstance" (λx=>aI T n b x a) (t5 λy=>y == Str.ofString t.nm && b.glo y) e
  |.len a=>cf b "len" (λx=>aI T n b x a) e
  |.all a=>cf b "all" (λx=>aI T n b x a) e
  |.tupOf a=>cf b "tuple" (λx=>aI T n b x a) e
  |.listR a=>cf b "list" (cf b "range" λx=>aI T n b x a) e
  |.srt a=>cf b "sorted" (λx=>aI T n b x a) e
  |.mxL a=>cf b "max" (λx=>aI T n b x a) e
  |.mxD a c=>Fm b c (λx=>aI T n b x a) e
  |.sm a=>cf b "sum" (λx=>aI T n b x a) e
  |.rev a=>LZ (λx=>aI T n b x a) e
  |.mnN a=>Fk b (λx=>aI T n b x a) e
  |.mx a c=>sg b "max" (λes=>eK T n b es [a,c]) e
  |.mn a c=>sg b "min" (λes=>eK T n b es [a,c]) e
  |.rep a=>cf b "repr" (λx=>aI T n b x a) e
  |.comp own elt cls=>clC cls λtg it cond rest=>Fn (λel t i ifs gs scope=>cmB own (kB own b.N) b.N scope b.sc && qg T n b t i it && sf (b.inner own scope) t tg && zf (eL T n (b.inner own scope)) ifs cond && mG T n (b.inner own scope) el gs elt rest) e
  |.app o a=>y4 "append" (λx=>aI T n b x o) (λes=>eK T n b es [a]) e
  |.ext o a=>y4 "extend" (λx=>aI T n b x o) (λes=>eK T n b es [a]) e
  |.popAt o a=>y4 "pop" (λx=>aI T n b x o) (λes=>eK T n b es [a]) e
  |.cnt o a=>y4 "count" (λx=>aI T n b x o) (λes=>eK T n b es [a]) e
noncomputable def eK(T:Tab):Nat->Blk->List Expr->List CE->Bool
 |0,_,_,_=>false
 |n+1,b,es,cs=>match cs with
  |[]=>es.isEmpty
  |c::cs=>lC es λe es=>aI T n b e c && aF e && eK T n b es cs
noncomputable def mG(T:Tab):Nat->Blk->Expr->List Wu->CE->List Cl->Bool
 |0,_,_,_,_,_=>false
 |n+1,b,e,gs,elt,cls=>match cls with
  |[]=>gs.isEmpty && aI T n b e elt
  |⟨tg,it,cond⟩::rest=>lC gs λg gs=>decide (g.is_async=0) && qg T n b g.target g.iter it && sf b g.target tg && zf (eL T n b) g.ifs cond && mG T n b e gs elt rest
noncomputable def qg(T:Tab):Nat->Blk->Expr->Expr->CI->Bool
 |0,_,_,_,_=>false
 |n+1,b,t,e,c=>match c with
  |.val a=>aI T n b e a && aF e
  |.r1 a=>cf b "range" (λx=>aI T n b x a) e
  |.dn a=>sDn b (λx=>aI T n b x a) e
  |.r2 a c=>si b "range" (λx=>aI T n b x a) (λx=>aI T n b x c) e
  |.en a=>cf b "enumerate" (λx=>aI T n b x a) e && Hu (λ_=>true) t
noncomputable def eL(T:Tab):Nat->Blk->Expr->CE->Bool
 |0,_,_,_=>false
 |n+1,b,e,c=>match c with
  |.cmp o a c=>Hw o.op (λx=>aI T n b x a) (λx=>aI T n b x c) e
  |.chn o p a c d=>Hx o.op p.op (λx=>aI T n b x a) (λx=>aI T n b x c) (λx=>aI T n b x d) e
  |.and a c=>yZ .And (λx=>eL T n b x a) (λx=>eL T n b x c) e || y3 .And (λx=>eL T n b x a) (λx=>eL T n b x c) e
  |.or a c=>yZ .Or (λx=>eL T n b x a) (λx=>eL T n b x c) e || y3 .Or (λx=>eL T n b x a) (λx=>eL T n b x c) e
  |.not a=>Hv (λx=>eL T n b x a) e
  |.ite _ _ _=>false
  |c=>aI T n b e c && Hs e
end
theorem fJ{T:Tab}{n:Nat}{b:Blk}{t e:Expr}{c:CI}(h:qg T n b t e c=true)(hp:∀e,aF e=true->∀env x,VG e env x=pure x):∀env x,VG e env x=pure x:=by
 cases n with
 |zero=>cases h
 |succ n=>
  cases c with
  |val a=>exact hp e (an2 h).2
  |r1 a=>obtain⟨x,p,q,rfl,_⟩:=bh h;intro _ _;rfl
  |dn a=>obtain⟨x,p,q,n2,p2,r2,n3,p3,r3,rfl,_⟩:=Fp h;intro _ _;rfl
  |r2 a c=>obtain⟨x,y,p,q,rfl,_⟩:=kF h;intro _ _;rfl
  |en a=>obtain⟨x,p,q,rfl,_⟩:=bh (an2 h).1;intro _ _;rfl
structure CtxOk(T:Tab)(C:Calls)(ar:Nat->Nat)(k:Nat)(b:Blk)(X:Cx):Prop where
 calm:X.calm=true
 xe:X.xe=λ_ _=>False
 hN:X.N=b.N
 hs:X.env.scope=b.sc
 nd:b.N.Nodup
 fn:∀x,(match b.fs with |none=>true |some sc=>sc.names.lookup x == some .cell)=true->X.fn x=true
 room:Room k X.A
 con:∀ (i:Nat) (x:Str) (v:Int),T.con[i]?=some (x,v)->∃tk,X.mg x=some (.int v tk)
 bl:∀x,x ∈ g6->X.mg x=none
 fns:∀ (i:Nat) (y:Str × Nat),T.fns[i]?=some y->ar i=y.2/\∃f fd ps,X.mg y.1=some (.ref f)/\Ve X.K (.ref f)=true/\lX X.K fd ps []/\FnOk X.prog X.w X.K X.mg X.base CX0 k f fd ps (spC X.K (C i) (ar i))
section
variable {T:Tab} {C:Calls} {ar:Nat->Nat} {k:Nat} {b:Blk} {X:Cx}
theorem aj{e:Expr}{es:List Expr}{env:Env}(h:aF e=true):V6 (e::es) env=(false,eval e env)::V6 es env:=by
 cases e <;> first |rfl |(exact absurd h Zd)
theorem qh{e:Expr}(h:aF e=true):tf e:=by
 intro o i;cases e <;> first |rfl |(exact absurd h Zd)
theorem gw{e:Expr}{op:CmpOp}(h:aF e=true):Vq op e=false:=by
 cases e <;> first |rfl |(exact absurd h Zd)
theorem kG{e f:Expr}{op op':CmpOp}(h:aF e=true):lastMarks [op,op'] [f,e]=false:=by
 show Vq op' e=false;exact gw h
theorem dM{e:Expr}{env:Env}(h:aF e=true):∀x,VG e env x=pure x:=by
 intro x;cases e <;> first |rfl |(exact absurd h Zd)
theorem dN{e:Expr}{m:Str}{env:Env}{w:Sem Value}(h:se e=true):attributeBase e m env w=w:=by
 cases e with
 |Call f as ks p=>
  cases f with
  |Name x q=>
   cases as with
   |nil=>cases ks with |nil=>exact absurd h Zd |cons _ _=>rfl
   |cons _ _=>rfl
  |_=>rfl
 |_=>first |rfl |(exact absurd h Zd)
theorem sj{e:Expr}{env:Env}(h:Hs e=true):∀whole,isTrue e env whole=(do let v <-whole;standAt e.pos;holding [v] (truthy v)):=by
 intro whole;cases e with
 |UnaryOp op x p=>cases op <;> first |rfl |(exact absurd h Zd)
 |_=>first |rfl |(exact absurd h Zd)
theorem iG{es:List Expr}{env:Env}{pos:Pos}(h:∀e ∈ es,aF e=true):(backTo pos (V6 es env)).any (·.1)=false:=by
 induction es with
 |nil=>rfl
 |cons e es ih=>
  rw[aj (h e Zi)];show(false || (backTo pos (V6 es env)).any (·.1))=false;rw[ih λe he=>h e (Zg _ he)];rfl
theorem bx:∀ {n:Nat} {es:List Expr} {cs:List CE},eK T n b es cs=true->∀e ∈ es,aF e=true
 |0,_,_,h=>absurd h Zd
 |n+1,es,[],h=>λx hx=>by rw[eJ h] at hx;cases hx
 |n+1,es,c::cs,h=>by
  obtain⟨e,es,rfl,h⟩:=dJ h;obtain⟨_,h1,h⟩:=an3 h;intro x hx;rcases Zn.mp hx with rfl |hx
  ·exact h1
  ·exact bx h x hx
theorem CtxOk.gl(G:CtxOk T C ar k b X){x:Str}(h:b.glo x=true):Gl X x/\(x == ("__debug__" : Str))=false:=by
 unfold Blk.glo at h;rw[bAE] at h;refine⟨?_,by simpa using h.2⟩;show X.env.scope.names.lookup x=_;rw[G.hs]
 simpa using h.1
theorem CtxOk.vis(G:CtxOk T C ar k b X){x:Str}(h:b.vis x=true):Vis X.env.scope x/\(x == ("__debug__" : Str))=false/\(x == ("__classdict__" : Str))=false:=by
 unfold Blk.vis at h;rw[bAE,bAE] at h;refine⟨?_,by simpa using h.1.2,by simpa using h.2⟩;unfold Vis;rw[G.hs];have h1:=h.1.1;split at h1
 ·rename_i e;exact .inl e
 ·rename_i e;exact .inr (.inl e)
 ·rename_i e;exact .inr (.inr e)
 ·cases h1
theorem CtxOk.own(G:CtxOk T C ar k b X){x:Str}(h:b.own x=true):L2.Loc X.env.scope x/\(X.fn x=true\/X.env.scope.names.lookup x=some .local):=by
 unfold Blk.own at h;unfold L2.Loc;rw[G.hs];split at h
 ·rename_i e;exact⟨.inl e,.inr e⟩
 ·rename_i e;refine⟨.inr e,.inl (G.fn x ?_)⟩;cases hf:b.fs with
  |none=>rfl
  |some sc=>rw[hf] at h;exact h
 ·cases h
theorem CtxOk.inner(G:CtxOk T C ar k b X){own:List Str}{scope:Scope}(S:CmScope own (kB own b.N) b.N scope b.sc){C':Addr}{ex:List Addr}{s:Shared}{H:Hp}:CtxOk T C ar k (b.inner own scope) (cxC X own (kB own b.N) scope C' ex s H):=
 ⟨G.calm,rfl,by show cA (kB own b.N) X.N++own=_;rw[G.hN];rfl,by show eP scope X.env.scope=_;rw[G.hs];rfl,S.nd,λx h=>h,G.room,G.con,G.bl,G.fns⟩
theorem mH{e:Expr}{es:List Expr}{env:Env}(h:aF e=true):Vn (e::es) env=(false,assign e env)::Vn es env:=by
 cases e <;> first |rfl |(exact absurd h Zd)
mutual
theorem fK(G:CtxOk T C ar k b X):∀ {e:Expr} {t:Tg},sf b e t=true->PG X e (tTg X.K t)
 |e,.name i,h=>by
  obtain⟨r,hx,h⟩:=wa h;obtain⟨h1,h2⟩:=an2 h;rw[n5 hx];have o:=G.own h2;exact PG.imp (A9 (i:=i) (x:=r.1) (by rw[G.hN];exact G.nd) (by rw[G.hN];exact eq_of_beq h1) o.1 o.2) λx σ H Q q=>nY q
 |e,.tup ts,h=>by
  obtain⟨r,hx,h⟩:=wa h;rw[n6 hx];have hl:=mI h;exact PG.imp (F8 G.calm (qi G h) rfl hl.2) λx σ H Q q=>Hc hl.1 q
theorem qi(G:CtxOk T C ar k b X):∀ {es:List Expr} {ts:List Tg},kC b es ts=true->PGs X es (yv X.K ts)
 |es,[],h=>by
  rw[eJ h];exact PGs.imp Ba λx σ H Q q=>B8 q
 |es,t::ts,h=>by
  obtain⟨e,es,rfl,h⟩:=dJ h;obtain⟨h1,h2,h⟩:=an3 h;exact PGs.imp (xc (fK G h1) (qi G h) (by rw[mH h2];rfl)) λx σ H Q q=>yw q
theorem mI:∀ {es:List Expr} {ts:List Tg},kC b es ts=true->(Vn es X.env).length=ts.length/\(Vn es X.env).findIdx? (·.1)=none
 |es,[],h=>by
  rw[eJ h];exact⟨rfl,rfl⟩
 |es,t::ts,h=>by
  obtain⟨e,es,rfl,h⟩:=dJ h;obtain⟨h1,h2,h⟩:=an3 h;have ih:=mI h;rw[mH h2];refine⟨congrArg (·+1) ih.1,?_⟩;rw[List.findIdx?_cons];simp[ih.2]
end
end
structure Snd(T:Tab)(C:Calls)(ar:Nat->Nat)(k n:Nat):Prop where
 e:∀ (b:Blk) (X:Cx) (e:Expr) (c:CE),CtxOk T C ar k b X->aI T n b e c=true->PE X e (tE X.K (evE C ar n c))
 tm:∀ (b:Blk) (X:Cx) (e:Expr) (c:CE),CtxOk T C ar k b X->ac c=true->aI T n b e c=true->PE X e (gm X.K (cF C ar n c))
 a:∀ (b:Blk) (X:Cx) (es:List Expr) (cs:List CE),CtxOk T C ar k b X->eK T n b es cs=true->PA X es (tAr X.K (evA C ar n cs))
 t:∀ (b:Blk) (X:Cx) (e:Expr) (c:CE),CtxOk T C ar k b X->eL T n b e c=true->PT X e (tT X.K (evT C ar n c))
 i:∀ (B:List Addr) (b:Blk) (X:Cx) (t e:Expr) (c:CI),CtxOk T C ar k b X->qg T n b t e c=true->PI X t e (tIt X.K B (evI C ar n c))
 cl:∀ (b:Blk) (X:Cx) (e:Expr) (gs:List Wu) (elt:CE) (cls:List Cl),CtxOk T C ar k b X->mG T n b e gs elt cls=true ->
  ∀ (gens:List Wu) (scope:Scope) (pos:Pos) (acc:Addr) (d:Nat),gens.drop (d+1)=gs->PTl X e gens scope pos acc d (tCl X.K acc (fT C ar n elt cls))
section
variable {T:Tab} {C:Calls} {ar:Nat->Nat} {k n:Nat} {b:Blk} {X:Cx}
theorem dz{e:Expr}{es:List Expr}{te:TE}{t:TA}(ha:PE X e te)(hr:PA X es t)(hp:aF e=true):PA X (e::es) (bR te t):=Bi ha hr (aj hp)
theorem L5(ih:Snd T C ar k n)(es:List Expr)(cs:List CE)(G:CtxOk T C ar k b X)(h:eK T (n+1) b es cs=true):PA X es (tAr X.K (evA C ar (n+1) cs)):=by
 cases cs with
 |nil=>rw[eJ h];exact PA.imp xn λσ H Q q=>GP q
 |cons c cs=>
  obtain⟨e,es,rfl,h⟩:=dJ h;obtain⟨h1,h2,h⟩:=an3 h;exact PA.imp (dz (ih.e b X e c G h1) (ih.a b X es cs G h) h2) λσ H Q q=>BM q
theorem bU{e:Expr}{te:TE}(h:PE X e te)(hp:aF e=true):PA X [e] (bR te ij):=dz h xn hp
theorem dP{x:Str}{id:String}{e:Expr}{te:TE}{r:V->Hp->VK->Prop}{p pos:Pos}(hc:aV X (.builtin id) (r1 r))(G:CtxOk T C ar k b X)(hg:b.glo x=true)(hb:x ∈ g6)(hv:Vt x=some (.builtin id))(hn:x ≠ "__name__")(h:PE X e te)(hp:aF e=true) :
  PE X (.Call (.Name x p) [e] [] pos) (tUn r te):=
 PE.imp (gN hc (G.gl hg).1 (G.bl x hb) hv (bU h hp) hn (G.gl hg).2 (aj hp) rfl) λσ H Q q=>q
theorem Cr{x:Str}{id:String}{e:Expr}{te:TE}{r:V->Hp->VK->Prop}{p pos:Pos}(hc:aV X (.type id) (r1 r))(G:CtxOk T C ar k b X)(hg:b.glo x=true)(hb:x ∈ g6)(hv:Vt x=some (.type id))(hn:x ≠ "__name__")(h:PE X e te)(hp:aF e=true) :
  PE X (.Call (.Name x p) [e] [] pos) (tUn r te):=
 PE.imp (ik hc (G.gl hg).1 (G.bl x hb) hv (bU h hp) hn (G.gl hg).2 (aj hp) rfl) λσ H Q q=>q
theorem gx{x:Str}{e:Expr}{a:CE}{f:Bool->List D->Sto->Option (D × Sto)}{ks:List Keyword}{p pos:Pos}(ih:Snd T C ar k n)(G:CtxOk T C ar k b X)(hq:∀te:TE,PE X e te->PE X (.Call (.Name x p) [e] ks pos) (tUn (rSq X.K f) te))(h:aI T n b e a=true) :
  PE X (.Call (.Name x p) [e] ks pos) (tE X.K (if ac a=true then lB f (cF C ar n a) else lH f (evE C ar n a))):=by
 split
 ·rename_i ht;exact PE.imp (hq _ (ih.tm b X e a G ht h)) λσ H Q q=>GN q
 ·exact PE.imp (hq _ (ih.e b X e a G h)) λσ H Q q=>GR q
theorem t7{x y:Str}(h:(x == y)=true):x=y:=eq_of_beq h
theorem oi{K:W7}{x:XE}{σ:L2.St}{H:Hp}{Q Q':VK}(h:tE K x σ H Q)(f:∀v H',Q v H'->Q' v H'):tE K x σ H Q':=by
 obtain⟨m,ρ,S,d,S',E,R,e,q⟩:=h;exact⟨m,ρ,S,d,S',E,R,e,λm' H' v A vd=>f _ _ (q m' H' v A vd)⟩
abbrev ifT(C:Calls)(ar:Nat->Nat)(n:Nat)(K:W7):Option CE->TT
 |none=>Bu
 |some c=>tT K (evT C ar n c)
theorem kH(ih:Snd T C ar k n)(G:CtxOk T C ar k b X){ifs:List Expr}{cond:Option CE}(h:zf (eL T n b) ifs cond=true):PTs X ifs (ifT C ar n X.K cond):=by
 cases cond with
 |none=>rw[eJ h];exact Bv
 |some c=>obtain⟨e,rfl,h⟩:=gu h;exact Bw (ih.t b X e c G h)
theorem sr{K:W7}{cond:Option CE}{acc:Addr}{c:XA}{D:Ends}{σ:L2.St}{H:Hp}(q:tCl K acc (cnd (evT C ar n) cond c) D σ H):eA (ifT C ar n K cond) (tCl K acc c) D σ H:=by
 cases cond with
 |none=>exact Hh q
 |some c=>exact Ce q
theorem qj(ih:Snd T C ar k n)(G:CtxOk T C ar k b X){l:Option Expr}{lo:Option CE}(h:ze (aI T n b) l lo=true):PO X l (tOI X.K (opt (evE C ar n) lo)):=by
 cases lo with
 |none=>
  cases l with
  |none=>exact PO.imp Bl λσ H Q q=>BV q
  |some _=>cases h
 |some c=>obtain⟨e,rfl,h⟩:=wa h;exact PO.imp (sZ (ih.e b X e c G h)) λσ H Q q=>BW q
theorem HE(ih:Snd T C ar k n)(e:Expr)(gs:List Wu)(elt:CE)(cls:List Cl)(G:CtxOk T C ar k b X)(h:mG T (n+1) b e gs elt cls=true)(gens:List Wu)(scope:Scope)(pos:Pos)(acc:Addr)(d:Nat)(hd:gens.drop (d+1)=gs) :
  PTl X e gens scope pos acc d (tCl X.K acc (fT C ar (n+1) elt cls)):=by
 have imp:∀ {t t':TS},PTl X e gens scope pos acc d t->(∀D σ H,t' D σ H->t D σ H)->PTl X e gens scope pos acc d t':=λh f pins s σ H D I q=>h pins s σ H D I (f D σ H q);cases cls with
 |nil=>
  obtain⟨h0,h⟩:=an2 h;cases eJ h0
  have hn:gens[d+1]?=none:=by
   have:=congrArg Zj hd;simp at this;exact Z7.mpr (by omega)
  exact imp (xE G.xe hn (ih.e b X e elt G h)) λD σ H q=>Cd q
 |cons g rest=>
  obtain⟨tg,it,cond⟩:=g;obtain⟨⟨t,i,ifs,as⟩,gs',rfl,h⟩:=dJ h;obtain⟨h0,h1,h2,h3,h4⟩:=an5 h;cases of_decide_eq_true h0
  have hn:gens[d+1]?=some ⟨t,i,ifs,0⟩:=by
   have:=congrArg (·[0]?) hd
   simpa using this
  have hd':gens.drop (d+1+1)=gs':=by
   have:=congrArg (Xc 1) hd
   simpa[List.drop_drop] using this
  have hpl:=fJ h1 (λe he env=>dM he) X.env;exact imp (Bx hn (ih.i [acc] b X t i it G h1) (fK G h2) (kH ih G h3) (ih.cl b X e gs' elt rest G h4 gens scope pos acc (d+1) hd') G.xe G.calm hpl) λD σ H q=>yD (λD σ H z=>sr z) q
theorem L6(ih:Snd T C ar k n)(B:List Addr)(t e:Expr)(c:CI)(G:CtxOk T C ar k b X)(h:qg T (n+1) b t e c=true):PI X t e (tIt X.K B (evI C ar (n+1) c)):=by
 cases c with
 |val a=>
  have h:=an2 h;show PI X t _ (tIt X.K B (if ac a=true then xIT (cF C ar n a) else xIV (evE C ar n a)));split
  ·rename_i ht;exact PI.imp (sV (ih.tm b X _ a G ht h.1)) λσ H R q=>Oi q
  ·exact PI.imp (PI.or (sV (ih.e b X _ a G h.1)) (Gc (ih.e b X _ a G h.1))) λσ H R q=>Oh q
 |r1 a=>
  obtain⟨x,p,q,rfl,h2,h3,h4⟩:=bh h;exact PI.imp (uR (G.gl h2).1 (G.bl _ (by decide)) (bU (ih.e b X x a G h3) h4) (aj h4)) λσ H R q=>LN q
 |dn a=>
  obtain⟨x,p,q,n2,p2,r2,n3,p3,r3,rfl,h2,h3,h4⟩:=Fp h;have m1:∀ {n p r},PE X (.UnaryOp .USub (.Constant (.int 1) n p) r) (tC (.int (-1))):=λ{n p r}=>PE.imp (xi qT nh) λσ H Q q=>⟨1,rfl,q⟩;exact PI.imp (LS (G.gl h2).1 (G.bl _ (by decide)) (dz (ih.e b X x a G h3) (dz m1 (bU m1 rfl) rfl) h4) (aj h4) rfl) λσ H R q=>LU q
 |r2 a c=>
  obtain⟨x,y,p,q,rfl,h2,h3,h4,h5,h6⟩:=kF h;exact PI.imp (uS (G.gl h2).1 (G.bl _ (by decide)) (dz (ih.e b X x a G h3) (bU (ih.e b X y c G h5) h6) h4) (by rw[aj h4,aj h6];rfl) (aj h6)) λσ H R q=>LP q
 |en a=>
  have h:=an2 h;obtain⟨x,p,q,rfl,h2,h3,h4⟩:=bh h.1;obtain⟨elts,x1,tp,rfl,_⟩:=y7 h.2;show PI X _ _ (tIt X.K B (if ac a=true then xET (cF C ar n a) else xEV (evE C ar n a)));split
  ·rename_i ht;exact PI.imp (xP (G.gl h2).1 (G.bl _ (by decide)) (bU (ih.tm b X x a G ht h3) h4) (aj h4)) λσ H R q=>LM q
  ·exact PI.imp (PI.or (xP (G.gl h2).1 (G.bl _ (by decide)) (bU (ih.e b X x a G h3) h4) (aj h4)) (GH (G.gl h2).1 (G.bl _ (by decide)) (bU (ih.e b X x a G h3) h4) (aj h4))) λσ H R q=>LL q
end
section
variable {T:Tab} {C:Calls} {ar:Nat->Nat} {k n:Nat} {b:Blk} {X:Cx}
theorem kI{k:Nat}{A:Around}(r:Room k A):A.units+64 < cLine:=r.units
theorem g9(K:W7)(m:List Addr)(H:Hp):∀l:List Nat,VDs K m H (l.map λj=>D.int (Int.ofNat j)) (l.map λ(j:Nat)=>V.int j)
 |[]=>by rw[Yb,Yb,VDs]
 |a::l=>by rw[ZC,ZC,VDs];exact⟨_,_,rfl,bc,g9 K m H l⟩
theorem Rel.adoptO{K:W7}{m:List Addr}{S:Sto}{H:Hp}{a:Addr}(R:Rel K m S H)(n:a ∉ m){ob:Ob}(h:ObR K (m++[a]) H a ob):Rel K (m++[a]) (S++[ob]) H:=by
 have p:=Yv m [a];have g:∀ {es:List D} {ws:List V},VDs K m H es ws->VDs K (m++[a]) H es ws:=λz=>VDs.mono0 p (λ_ _ t=>t) z;refine⟨by simp[R.len],Y4.mpr ⟨R.nd,by simp,λx hx y hy=>by simp at hy;subst hy;exactλz=>n (z ▸ hx)⟩,λi o e=>?_⟩;by_cases hi:i < S.length
 ·rw[Zu hi] at e;obtain⟨b,hb,r⟩:=R.ob i o e;refine⟨b,jm p hb,?_⟩;cases o with
  |lst ds=>obtain⟨vs,p,q⟩:=r;exact⟨vs,p,g q⟩
  |frz ds=>obtain⟨o,vs,p,q⟩:=r;exact⟨o,vs,p,g q⟩
  |dic ks ds=>obtain⟨vs,p,l,q⟩:=r;exact⟨vs,p,l,g q⟩
 ·rw[Zp (by lia)] at e
  have hz:i - S.length=0:=by
   have:=(Zb.mp e).1;simp at this;lia
  rw[hz] at e;have e':ob=o:=by simpa using e
  subst e';refine⟨a,?_,h⟩;rw[Zp (by rw[R.len];lia),R.len,hz];rfl
theorem Cs{K:W7}{m:List Addr}{H:Hp}{S:Sto}{p:Addr}{ks:List (List NK)}{ds:List D}{vs:List V}{Q:VK}(R:Rel K m S H)(hp:H p=none)(vd:VDs K m H ds vs)(hl:ks.length=ds.length)(q:∀m' H' u,Aft K m H (S++[.dic ks ds]) m' H'->VD K m' H' (.ref S.length) u->Q u H'):Q (.ref p) (upd H p (.dT (ks.zip vs))):=by
 have x:=Ext.beside R hp (.dT (ks.zip vs));have R1:=R.beside hp (.dT (ks.zip vs));refine q (m++[p]) _ _ ⟨x.adopt hp,?_⟩ ?_
 ·exact R1.adoptO (R.no hp) (ob:=.dic ks ds) ⟨vs,a8,hl,VDs.mono0 (Yv m [p]) (λ_ _ t=>t) (vd.mono R x)⟩
 ·rw[VD];exact⟨p,by rw[Zp (by rw[R.len];exact Zf _),R.len,Yo];rfl,rfl⟩
theorem oj{es:List Expr}{a:CE}(h:eK T n b es [a]=true):∃y,es=[y]:=by
 cases n with
 |zero=>exact absurd h Zd
 |succ n=>
  obtain⟨e,es,rfl,h⟩:=dJ h;have h:=(an2 h).2;cases n with
  |zero=>exact absurd h Zd
  |succ n=>cases eJ h;exact⟨e,rfl⟩
theorem Ct(ih:Snd T C ar k n){own:List Str}{elt:CE}{tg:Tg}{it:CI}{cond:Option CE}{rest:List Cl}{e t i:Expr}{ifs:List Expr}{gs:List Wu}{scope:Scope}{pos:Pos}(G:CtxOk T C ar k b X)
  (h0:cmB own (kB own b.N) b.N scope b.sc=true) (h1:qg T n b t i it=true) (h2:sf (b.inner own scope) t tg=true) (h3:zf (eL T n (b.inner own scope)) ifs cond=true) (h4:mG T n (b.inner own scope) e gs elt rest=true) :
  PE X (.ListComp e (⟨t,i,ifs,0⟩::gs) scope pos) (gm X.K (km own.length (evI C ar n it) tg (cnd (evT C ar n) cond (fT C ar n elt rest)) LF)):=by
 have S:CmScope own (kB own b.N) b.N scope b.sc:=xQ _ h0;have S':CmScope own (kB own b.N) X.N scope X.env.scope:=by rw[G.hN,G.hs];exact S
 have hpl:=fJ h1 (λe he env=>dM he) X.env
 refine PE.imp (Bz (g:=tTg X.K tg) (ti:=ifT C ar n X.K cond) (t:=λacc=>tCl X.K acc (fT C ar n elt rest)) G.calm S' (ih.i [] b X t i it G h1) (λC' ex s H=>fK (G.inner S (C':=C') (ex:=ex) (s:=s) (H:=H)) h2) (λC' ex s H=>kH ih (G.inner S (C':=C') (ex:=ex) (s:=s) (H:=H)) h3)
  (λC' ex s H acc=>ih.cl _ _ e gs elt rest (G.inner S (C':=C') (ex:=ex) (s:=s) (H:=H)) h4 _ scope pos acc 0 rfl) hpl) λσ H Q q=>?_
 exact tU (λacc D σ H z=>sr z) q
theorem HF{x:XE}{σ:L2.St}{H:Hp}{Q:VK}{K:W7}(h:gm K (v8 x) σ H Q):tE K x σ H λv H1=>∃i:Nat,v = .int i/\i<=1000/\∀p,H1 p=none->∀l,upd H1 p (.rng 0 i) l=none->Q (.ref l) (upd (upd H1 p (.rng 0 i)) l (.lst ((Zl i).map λ(j:Nat)=>V.int j))):=by
 obtain⟨m,ρ,S,ds,S',E,R,e,q⟩:=h;obtain⟨d,S1,e1,e⟩:=ab e;cases d with
 |int i=>
  dsimp only at e;split at e
  ·rename_i hi;cases e;refine⟨m,ρ,S,.int i,_,E,R,e1,λm1 H1 v A1 vd=>⟨i.toNat,by rw[vd.ints];congr 1;lia,by lia,λp hp l hl=>?_⟩⟩;have A2:Aft K m1 H1 S' m1 (upd H1 p (.rng 0 i.toNat)):=⟨Ext.beside A1.rel hp _,A1.rel.beside hp _⟩;have A3:Aft K m1 (upd H1 p (.rng 0 i.toNat)) S' m1 (upd (upd H1 p (.rng 0 i.toNat)) l (.lst ((Zl i.toNat).map λ(j:Nat)=>V.int j))):=⟨Ext.beside A2.rel hl _,A2.rel.beside hl _⟩;have nl:l ∉ m1:=A2.rel.no hl
   have n1:H1 l=none:=by
    cases hh:H1 l with
    |none=>rfl
    |some o=>rw[(Ext.beside A1.rel hp (.rng 0 i.toNat)).keep l o hh nl] at hl;cases hl
   have nH:H l=none:=by
    cases hh:H l with
    |none=>rfl
    |some o=>
     by_cases hm:l ∈ m
     ·exact absurd (A1.ext.pre.subset hm) nl
     ·rw[A1.ext.keep l o hh hm] at n1;cases n1
   refine q m1 _ l _ (A1.trans (A2.trans A3)) a8 nl (λb hb z=>nl (z ▸ A1.ext.pre.subset hb)) nH ?_;exact g9 _ _ _ _
  ·cases e
 |_=>cases e
theorem Cu{σ:L2.St}{H:Hp}{Q:VK}{K:W7}(h:tE K yP σ H Q):xM σ H Q:=by
 obtain⟨m,ρ,S,d,S',E,R,e,q⟩:=h;cases e;exactλp hp=>Cs R hp (show VDs K m H [] [] by rw[VDs]) rfl q
theorem HG{f:Bool->List D->Option (List D)}{x:XE}{σ:L2.St}{H:Hp}{Q:VK}{K:W7}(h:gm K (v7 f x) σ H Q):tUn (rTm K f) (tE K x) σ H Q:=by
 obtain⟨m,ρ,S,ds,S',E,R,e,q⟩:=h;obtain⟨d,S1,e1,e⟩:=ab e;cases hi:ay d S1 with
 |none=>rw[hi] at e;cases e
 |some r=>
  rw[hi] at e;dsimp only at e;cases hf:f r.1 r.2 with
  |none=>rw[hf] at e;cases e
  |some es=>
  rw[hf] at e;cases e;refine⟨m,ρ,S,d,_,E,R,e1,λm1 H1 v A1 vd=>?_⟩;obtain⟨a,vs,ev,sq,vds⟩:=eV (tu:=r.1) (ds:=r.2) A1.rel vd hi;refine⟨m1,_,r.1,r.2,a,vs,ds,A1.rel,ev,sq,vds,hf,λm2 H2 p ws A2 hp n1 n2 n3 vw=>?_⟩
  have hn:H p=none:=by
   cases eh:H p with
   |none=>rfl
   |some o=>
    by_cases hm:p ∈ m
    ·exact absurd rfl (n2 p (A1.ext.pre.subset hm))
    ·have:=A1.ext.keep p o eh hm;rw[n3] at this;cases this
  exact q m2 H2 p ws (A1.trans A2) hp n1 (λb hb=>n2 b (A1.ext.pre.subset hb)) hn vw
theorem HH{f:Bool->List D->Option (List D)}{x:XA}{σ:L2.St}{H:Hp}{Q:VK}{K:W7}(h:gm K (v5 f x) σ H Q):tUn (rTm K f) (gm K x) σ H Q:=by
 obtain⟨m,ρ,S,es,S',E,R,e,q⟩:=h;obtain⟨ds,S1,e1,e⟩:=ab e;cases hf:f false ds with
 |none=>rw[hf] at e;cases e
 |some es'=>
 rw[hf] at e;cases e;refine⟨m,ρ,S,ds,_,E,R,e1,λm1 H1 a vs A1 ha na _ _ vd=>?_⟩;refine⟨m1,_,false,ds,a,vs,es,A1.rel,rfl,show SqL K H1 a vs from SqL.of ha,vd,hf,λm2 H2 p ws A2 hp n1 n2 n3 vw=>?_⟩
 have hn:H p=none:=by
  cases eh:H p with
  |none=>rfl
  |some o=>
   by_cases hm:p ∈ m
   ·exact absurd rfl (n2 p (A1.ext.pre.subset hm))
   ·have:=A1.ext.keep p o eh hm;rw[n3] at this;cases this
 exact q m2 H2 p ws (A1.trans A2) hp n1 (λb hb=>n2 b (A1.ext.pre.subset hb)) hn vw
theorem zg(ih:Snd T C ar k n)(e:Expr)(c:CE)(G:CtxOk T C ar k b X)(ht:ac c=true)(h:aI T (n+1) b e c=true):PE X e (gm X.K (cF C ar (n+1) c)):=by
 cases c with
 |lst cs=>
  obtain⟨es,p,rfl,hh⟩:=Hz h;exact PE.imp (Gp (ih.a b X es cs G hh)) λσ H Q q=>BN q
 |listR a=>
  obtain⟨x,p,q,rfl,h2,h3,h4⟩:=bh h;obtain⟨y,p',q',rfl,h5,h6,h7⟩:=bh h3
  exact PE.imp (ik (nv G.calm) (G.gl h2).1 (G.bl _ (by decide)) Wm (bU (ik pB (G.gl h5).1 (G.bl _ (by decide)) PyProof.Rows.boot_range (bU (ih.e b X y a G h6) h7) (by decide) (G.gl h5).2 (aj h7) rfl) h4) (by decide) (G.gl h2).2 (aj h4) rfl) λσ H Q q=>oi (HF q) λv H1 ⟨i,ev,hi,z⟩=>by
    subst ev;exact⟨i,rfl,λp hp=>⟨p,i,rfl,a8,hi,λl hl=>z p hp l hl⟩⟩
 |srt a=>
  obtain⟨x,p,q,rfl,h2,h3,h4⟩:=bh h;show PE X _ (gm X.K (if ac a=true then v5 cq (cF C ar n a) else v7 cq (evE C ar n a)));split
  ·rename_i ht;exact PE.imp (dP mB G h2 (by decide) Wp (by decide) (ih.tm b X x a G ht h3) h4) λσ H Q q=>HH (f:=cq) q
  ·exact PE.imp (dP mB G h2 (by decide) Wp (by decide) (ih.e b X x a G h3) h4) λσ H Q q=>HG (f:=cq) q
 |comp own elt cls=>
  obtain⟨tg,it,cond,rest,rfl,hc⟩:=Fq h;obtain⟨el,t,i,ifs,gs,scope,p,rfl,hh⟩:=t6 hc;obtain⟨h0,h1,h2,h3,h4⟩:=an5 hh;exact Ct ih G h0 h1 h2 h3 h4
 |_=>cases ht
theorem jw{y:Expr}{pos:Pos}(h:aF y=true):((backTo pos (V6 [y] X.env)).all (λx=>!x.1) && (Vp pos (VL [] X.env)).all (λx=>x.1.isSome) && decide (([y]:List Expr).length+([]:List Keyword).length+(if ([]:List Keyword).isEmpty then 0 else 1) < 30))=true:=by
 rw[aj h];rfl
theorem L7(ih:Snd T C ar k n)(e:Expr)(c:CE)(G:CtxOk T C ar k b X)(h:aI T (n+1) b e c=true):PE X e (tE X.K (evE C ar (n+1) c)):=by
 have hu:=kI G.room
 have tmp:ac c=true->evE C ar (n+1) c=dH (cF C ar (n+1) c)->PE X e (tE X.K (evE C ar (n+1) c)):=λht he=>by
  rw[he];exact PE.imp (zg ih e c G ht h) λσ H Q q=>pK q
 cases c with
 |non=>obtain⟨_,_,rfl⟩:=y6 h;exact PE.imp wZ λσ H Q q=>xY (λ_ _=>jX) q
 |bl v=>obtain⟨_,_,rfl⟩:=L1 h;exact PE.imp KQ λσ H Q q=>xY (λ_ _=>bC) q
 |int v=>obtain⟨_,_,rfl⟩:=kD h;exact PE.imp nh λσ H Q q=>xY (λ_ _=>bc) q
 |str v=>obtain⟨_,_,rfl⟩:=Hy h;exact PE.imp F1 λσ H Q q=>xY (λ_ _=>nB) q
 |var i=>
  obtain⟨x,p,rfl,hh⟩:=n8 h;have hh:=an2 hh;have v:=G.vis hh.2;exact PE.imp (F0 (i:=i) (by rw[G.hN];exact eq_of_beq hh.1) v.1 v.2.1 v.2.2) λσ H Q q=>GO q
 |con k' v=>
  obtain⟨x,p,rfl,hh⟩:=n8 h;have hh:=an2 hh;have g:=G.gl hh.2;obtain⟨tk,hm⟩:=G.con k' x v (eq_of_beq hh.1);exact PE.imp (AZ (v:=.int v) g.1 hm ⟨tk,rfl⟩ g.2) λσ H Q q=>xY (λ_ _=>bc) q
 |tup cs=>obtain⟨es,_,_,rfl,hh⟩:=y7 h;exact PE.imp (Go (ih.a b X es cs G hh)) λσ H Q q=>GQ q
 |lst cs=>exact tmp rfl rfl
 |dic0=>obtain⟨p,rfl⟩:=Cq h;exact PE.imp xN λσ H Q q=>Cu q
 |bin o a c'=>obtain⟨l,r,p,rfl,h2,h3⟩:=HA h;exact PE.imp (K7 (BU o) (ih.e b X l a G h2) (ih.e b X r c' G h3)) λσ H Q q=>nA q
 |neg a=>obtain⟨x,p,rfl,hh⟩:=n9 h;exact PE.imp (xi Cf (ih.e b X x a G hh)) λσ H Q q=>xW q
 |cmp o a c'=>obtain⟨l,r,p,rfl,h2,h3,h4⟩:=y9 h;exact PE.imp (Be (fH hu o) (ih.e b X l a G h2) (ih.e b X r c' G h3) (gw h4)) λσ H Q q=>nA q
 |chn o p' a c' d=>obtain⟨l,r,s,p,rfl,h2,h3,h4,h5⟩:=zd h;exact PE.imp (xk (fH hu o) (fH hu p') (ih.e b X l a G h2) (ih.e b X r c' G h3) (ih.e b X s d G h4) (kG h5)) λσ H Q q=>yG q
 |and a c'=>
  rcases Cm h with h |h
  ·obtain⟨x,y,p,rfl,h1,h2⟩:=oe h;exact PE.imp (w6 (ih.e b X x a G h1) (w5 (ih.e b X y c' G h2))) λσ H Q q=>yF q
  ·obtain⟨x,y,z,ys,p,rfl,h1,h2⟩:=og h;exact PE.imp (w6 (ih.e b X x a G h1) (ih.e b X _ c' G h2)) λσ H Q q=>yF q
 |or a c'=>
  rcases Cm h with h |h
  ·obtain⟨x,y,p,rfl,h1,h2⟩:=oe h;exact PE.imp (EO (ih.e b X x a G h1) (w5 (ih.e b X y c' G h2))) λσ H Q q=>Fe q
  ·obtain⟨x,y,z,ys,p,rfl,h1,h2⟩:=og h;exact PE.imp (EO (ih.e b X x a G h1) (ih.e b X _ c' G h2)) λσ H Q q=>Fe q
 |not a=>obtain⟨x,p,rfl,hh⟩:=y8 h;exact PE.imp (F4 (ih.e b X x a G hh)) λσ H Q q=>Hk q
 |ite t a c'=>obtain⟨x,y,z,p,rfl,h1,h2,h3⟩:=HB h;exact PE.imp (w8 (ih.t b X x t G h1) (ih.e b X y a G h2) (ih.e b X z c' G h3)) λσ H Q q=>Hl q
 |ix a c'=>
  obtain⟨x,y,p,rfl,h1,h2,h3⟩:=L3 h;show PE X _ (tE X.K (if ac a=true then rq (cF C ar n a) (evE C ar n c') else pJ ixS (evE C ar n a) (evE C ar n c')));split
  ·rename_i ht;exact PE.imp (E5 xv (ih.tm b X x a G ht h1) (ih.e b X y c' G h2) (qh h3)) λσ H Q q=>G3 q
  ·exact PE.imp (E5 (Oe hu) (ih.e b X x a G h1) (ih.e b X y c' G h2) (qh h3)) λσ H Q q=>nA q
 |sl a lo hi=>obtain⟨x,y,z,p,p',rfl,h1,h2,h3⟩:=L4 h;exact PE.imp (xt Og (ih.e b X x a G h1) (qj ih G h2) (qj ih G h3)) λσ H Q q=>LB q
 |call f cs=>
  obtain⟨x,e,es,p,p',rfl,h12,h3⟩:=Cn (k:=λx=>oA T.fns[f]? (λy=>y.1 == x) && b.glo x) (l:=λes=>eK T n b es cs) (e:=e) h;obtain⟨h1,h2⟩:=an2 h12
  ·obtain⟨y,hy,h1⟩:=wa h1;have hx:=t7 h1;subst hx;obtain⟨ha,fa,fd,ps,hm,hk,hb,F⟩:=G.fns f y hy;have hpl:=bx h3;have g:=G.gl h2;exact PE.imp (Bj F G.room g.1 hm hk hb .nil Lr (ih.a b X (e::es) cs G h3) g.2 (aj (hpl e Zi)) (iG λe he=>hpl e (Zg _ he))) λσ H Q q=>Cg q
 |inst t a=>
  obtain⟨x,y,p,p',rfl,h2,h5,h6,h7,_⟩:=kF h;obtain⟨y,p'',rfl,h8⟩:=n8 h7;obtain⟨h3,h4⟩:=an2 h8;have hy:=t7 h3;subst hy
  have ty:PE X (.Name (Str.ofString t.nm) p'') (tC (.ty t.nm)):=by
   have g:=G.gl h4;cases t with
   |int=>exact gM g.1 (G.bl _ (by decide)) PyProof.Rows.boot_int rfl (by decide) g.2
   |bool=>exact gM g.1 (G.bl _ (by decide)) PyProof.Rows.boot_bool rfl (by decide) g.2
   |tuple=>exact gM g.1 (G.bl _ (by decide)) Wq rfl (by decide) g.2
   |list=>exact gM g.1 (G.bl _ (by decide)) Wm rfl (by decide) g.2
   |str=>exact gM g.1 (G.bl _ (by decide)) PyProof.Rows.boot_str rfl (by decide) g.2
  exact PE.imp (gN (ny X.K) (G.gl h2).1 (G.bl _ (by decide)) PyProof.Rows.boot_isinstance (dz (ih.e b X x a G h5) (bU ty rfl) h6) (by decide) (G.gl h2).2 (aj h6) rfl) λσ H Q q=>B1 q
 |len a=>obtain⟨x,p,p',rfl,h2,h3,h4⟩:=bh h;exact gx ih G (λte z=>dP vI G h2 (by decide) PySem.boot_len (by decide) z h4) h3
 |all a=>obtain⟨x,p,p',rfl,h2,h3,h4⟩:=bh h;exact gx ih G (λte z=>dP (vK G.calm) G h2 (by decide) PyProof.Rows.boot_all (by decide) z h4) h3
 |mxL a=>obtain⟨x,p,p',rfl,h2,h3,h4⟩:=bh h;exact gx ih G (λte z=>dP (vP G.calm) G h2 (by decide) Wn (by decide) z h4) h3
 |mxD a c=>
  obtain⟨x,p,q,j,p',q',rfl,h2,h3,h4⟩:=Co h;exact gx ih G (λte z=>PE.imp (G9 G.calm (G.gl h2).1 (G.bl _ (by decide)) (G.gl h2).2 (bU z h4) (aj h4)) λσ H Q q=>q) h3
 |rev a=>obtain⟨x,k,p,p2,p3,p4,rfl,h1⟩:=HC h;exact PE.imp (G8 (ih.e b X x a G h1)) λσ H Q q=>xW q
 |mnN a=>
  obtain⟨x,p,q,j,p',q',rfl,h2,h3,h4⟩:=Cp h;exact gx ih G (λte z=>PE.imp (Hq hu G.calm (G.gl h2).1 (G.bl _ (by decide)) (G.gl h2).2 (bU z h4) (aj h4)) λσ H Q q=>q) h3
 |sm a=>obtain⟨x,p,p',rfl,h2,h3,h4⟩:=bh h;exact gx ih G (λte z=>dP (vR G.calm) G h2 (by decide) PyProof.Rows.boot_sum (by decide) z h4) h3
 |tupOf a=>obtain⟨x,p,p',rfl,h2,h3,h4⟩:=bh h;exact gx ih G (λte z=>Cr vJ G h2 (by decide) Wq (by decide) z h4) h3
 |listR a=>exact tmp rfl rfl
 |srt a=>exact tmp rfl rfl
 |mx a c'=>
  obtain⟨x,es,p,p',rfl,h2,h3⟩:=qf (b:=b) (f := "max") (k:=λes=>eK T n b es [a,c']) (e:=e) h;have hpl:=bx h3;exact PE.imp (gN (rE G.calm) (G.gl h2).1 (G.bl _ (by decide)) Wn (ih.a b X (x::es) [a,c'] G h3) (by decide) (G.gl h2).2 (aj (hpl x Zi)) (iG λe he=>hpl e (Zg _ he))) λσ H Q q=>xX q
 |mn a c'=>
  obtain⟨x,es,p,p',rfl,h2,h3⟩:=qf (b:=b) (f := "min") (k:=λes=>eK T n b es [a,c']) (e:=e) h;have hpl:=bx h3;exact PE.imp (gN (rF G.calm) (G.gl h2).1 (G.bl _ (by decide)) Wo (ih.a b X (x::es) [a,c'] G h3) (by decide) (G.gl h2).2 (aj (hpl x Zi)) (iG λe he=>hpl e (Zg _ he))) λσ H Q q=>xX q
 |rep a=>obtain⟨x,p,p',rfl,h2,h3,h4⟩:=bh h;exact PE.imp (dP (rV G.room) G h2 (by decide) PyProof.Rows.boot_repr (by decide) (ih.e b X x a G h3) h4) λσ H Q q=>xW q
 |comp own elt cls=>exact tmp rfl rfl
 |app o a=>
  obtain⟨x,ap,es,p,rfl,h2,h3,h4,h5⟩:=oh h;obtain⟨y,rfl⟩:=oj h5;have hpl:=bx h5 y (by simp);exact PE.imp (tj WD WH PySem.F.type_list_append Hb (ih.e b X x o G h4) (ih.a b X [y] [a] G h5) (dN h2) (jw hpl) h3 (aj hpl) rfl) λσ H Q q=>nV (λR vd c=>rQ R vd c) q
 |ext o a=>
  obtain⟨x,ap,es,p,rfl,h2,h3,h4,h5⟩:=oh h;obtain⟨y,rfl⟩:=oj h5;have hpl:=bx h5 y (by simp);exact PE.imp (tj WD WI PySem.F.type_list_extend B4 (ih.e b X x o G h4) (ih.a b X [y] [a] G h5) (dN h2) (jw hpl) h3 (aj hpl) rfl) λσ H Q q=>nV (λR vd c=>rQ R vd c) q
 |popAt o a=>
  obtain⟨x,ap,es,p,rfl,h2,h3,h4,h5⟩:=oh h;obtain⟨y,rfl⟩:=oj h5;have hpl:=bx h5 y (by simp);exact PE.imp (tj WD WJ PySem.F.type_list_pop vV (ih.e b X x o G h4) (ih.a b X [y] [a] G h5) (dN h2) (jw hpl) h3 (aj hpl) rfl) λσ H Q q=>nV (λR vd c=>rQ R vd c) q
 |cnt o a=>
  obtain⟨x,ap,es,p,rfl,h2,h3,h4,h5⟩:=oh h;obtain⟨y,rfl⟩:=oj h5;have hpl:=bx h5 y (by simp);exact PE.imp (tj PySem.F.plainAttrs_tuple WL PySem.F.type_tuple_count B3 (ih.e b X x o G h4) (ih.a b X [y] [a] G h5) (dN h2) (jw hpl) h3 (aj hpl) rfl) λσ H Q q=>nV (λR vd c=>Ha R vd c) q
end
section
variable {T:Tab} {C:Calls} {ar:Nat->Nat} {k n:Nat} {b:Blk} {X:Cx}
theorem t8{op:BoolOp}{vs:List Expr}{p:Pos}{t:TT}(h:PT X (.BoolOp op vs p) t):PW X (.BoolOp op vs p) t:=λwhole pins s σ H Q I q=>h pins s σ H Q I q
theorem L8(ih:Snd T C ar k n)(e:Expr)(c:CE)(G:CtxOk T C ar k b X)(h:eL T (n+1) b e c=true):PT X e (tT X.K (evT C ar (n+1) c)):=by
 have hu:=kI G.room
 have dflt:evT C ar (n+1) c=BX (evE C ar n c)->(aI T n b e c && Hs e)=true->PT X e (tT X.K (evT C ar (n+1) c)):=λe1 hh=>by
  rw[e1];have hh:=an2 hh;exact PT.imp (xm (ih.e b X e c G hh.1) (sj hh.2)) λσ H Q q=>G5 q
 cases c with
 |cmp o a c'=>obtain⟨l,r,p,rfl,h2,h3,h4⟩:=y9 h;exact PT.imp (Bf (fH hu o) (ih.e b X l a G h2) (ih.e b X r c' G h3) (gw h4)) λσ H Q q=>nA (LC q)
 |chn o p' a c' d=>obtain⟨l,r,s,p,rfl,h2,h3,h4,h5⟩:=zd h;exact PT.imp (xl (fH hu o) (fH hu p') (ih.e b X l a G h2) (ih.e b X r c' G h3) (ih.e b X s d G h4) (kG h5)) λσ H Q q=>yG (LC q)
 |and a c'=>
  rcases Cm h with h |h
  ·obtain⟨x,y,p,rfl,h1,h2⟩:=oe h;exact PT.imp (w4 (ih.t b X x a G h1) (A0 (ih.t b X y c' G h2))).pt λσ H Q q=>yJ q
  ·obtain⟨x,y,z,ys,p,rfl,h1,h2⟩:=og h;exact PT.imp (w4 (ih.t b X x a G h1) (t8 (ih.t b X _ c' G h2))).pt λσ H Q q=>yJ q
 |or a c'=>
  rcases Cm h with h |h
  ·obtain⟨x,y,p,rfl,h1,h2⟩:=oe h;exact PT.imp (EL (ih.t b X x a G h1) (F2 (ih.t b X y c' G h2))).pt λσ H Q q=>Ff q
  ·obtain⟨x,y,z,ys,p,rfl,h1,h2⟩:=og h;exact PT.imp (EL (ih.t b X x a G h1) (t8 (ih.t b X _ c' G h2))).pt λσ H Q q=>Ff q
 |not a=>obtain⟨x,p,rfl,h1⟩:=y8 h;exact PT.imp (F3 (ih.t b X x a G h1)) λσ H Q q=>Hn q
 |ite _ _ _=>cases h
 |_=>exact dflt rfl h
theorem snd:∀n,Snd T C ar k n
 |0=>⟨λb X e c _ h=>absurd h Zd,λb X e c _ _ h=>absurd h Zd,λb X e c _ h=>absurd h Zd,λb X e c _ h=>absurd h Zd,λB b X t e c _ h=>absurd h Zd,λb X e gs elt cls _ h=>absurd h Zd⟩
 |n+1=>⟨λb X e c G h=>L7 (snd n) e c G h,λb X e c G ht h=>zg (snd n) e c G ht h,λb X es cs G h=>L5 (snd n) es cs G h,λb X e c G h=>L8 (snd n) e c G h,λB b X t e c G h=>L6 (snd n) B t e c G h,λb X e gs elt cls G h=>HE (snd n) e gs elt cls G h⟩
end
inductive CS where |asg (t:Tg)(e:CE) |setI (v o i:CE) |ex (e:CE) |ret (e:CE) |ifs (c:CE)(a b:List CS) |for_ (t:Tg)(it:CI)(b:List CS) |cnt |never
abbrev Cv:XS:=λ_ _=>none
mutual
noncomputable def evS(C:Calls)(ar:Nat->Nat):Nat->CS->XS
 |0,_=>Cv
 |n+1,s=>match s with
  |.asg t e=>kl (evE C ar n e) t
  |.setI v o i=>p9 (evE C ar n v) (evE C ar n o) (evE C ar n i)
  |.ex e=>p0 (evE C ar n e)
  |.ret e=>yz (evE C ar n e)
  |.ifs c a b=>xIf (evT C ar n c) (gy C ar n a) (gy C ar n b)
  |.for_ t it b=>yA (evI C ar n it) t (gy C ar n b) LF
  |.cnt=>LQ
  |.never=>Cv
noncomputable def gy(C:Calls)(ar:Nat->Nat):Nat->List CS->XS
 |0,_=>Cv
 |n+1,ss=>match ss with
  |[]=>Fc
  |s::ss=>yy (evS C ar n s) (gy C ar n ss)
end
abbrev zh:Expr->Bool
 |.Starred _ _=>true
 |_=>false
abbrev fL(sc:Scope)(line:Nat)(ts:List Expr):List Str:=ts.filterMap λ
 |.Name id pos=>if sc.names.lookup id == some .local && pos.line == line then some id else none
 |_=>none
abbrev t9(sc:Scope)(ts vs:List Expr):Option (Option (List Str)):=
 if (!(ts.length == 2 || ts.length == 3) || vs.length != ts.length)=true then some none
 else if (vs.any zh)=true then some none
 else if ((fL sc ((ts.head?.map (·.pos.line)).getD 0) ts).length != ts.length || (fL sc ((ts.head?.map (·.pos.line)).getD 0) ts).eraseDups.length != (fL sc ((ts.head?.map (·.pos.line)).getD 0) ts).length)=true then some none
 else if (vs.all (foldedForSure 8))=true then some none
 else if (vs.all (constantsAlone 8))=true then none
 else some (some (fL sc ((ts.head?.map (·.pos.line)).getD 0) ts))
theorem L9{k k2:Nat}(hk:env.blockKind = .function)(hs:env.scope=sc)(h:t9 sc ts vs=some r):V8 [.Tuple ts k p] (.Tuple vs k2 p2) env=pure r:=by
 unfold t9 at h;unfold V8
 have e1:(vs.any λ|.Starred ..=>true |_=>false)=vs.any zh:=by
  congr 1
 have e2:(ts.filterMap λ
   |.Name id pos=>if env.kindOf id == some .local && pos.line == ((ts.head?.map (·.pos.line)).getD 0) then some id else none
   | _=>none)=fL sc ((ts.head?.map (·.pos.line)).getD 0) ts:=by
  unfold fL Env.kindOf;rw[hs]
 have e3:(env.blockKind != .function)=false:=by rw[hk];rfl
 simp only[e3,Wd];split at h
 ·rename_i c1;rw[if_pos c1];cases h;rfl
 rename_i c1;rw[if_neg c1];split at h
 ·rename_i c2;cases h;exact if_pos (e1.trans c2)
 rename_i c2;refine Eq.trans (if_neg λz=>c2 (e1.symm.trans z)) ?_;split at h
 ·rename_i c3;cases h;rw[<-e2] at c3;exact if_pos c3
 rename_i c3;rw[<-e2] at c3 h;refine Eq.trans (if_neg c3) ?_;split at h
 ·rename_i c4;cases h;exact if_pos c4
 rename_i c4;refine Eq.trans (if_neg c4) ?_;split at h
 ·cases h
 rename_i c5;cases h;exact if_neg c5
abbrev zi:Expr->Option (Scope × Pos)
 |.ListComp _ _ s p=>some (s,p)
 |.SetComp _ _ s p=>some (s,p)
 |.DictComp _ _ _ s p=>some (s,p)
 |_=>none
abbrev swW(sc:Scope)(v:Expr)(t:Str)(pos:Pos):Bool:=match zi v with
 |none=>false
 |some (s,p)=>sc.names.lookup t == some .local && pos.line == p.line && !(s.names.any λy=>y.1 == t && (y.2 == .local || y.2 == .cell))
theorem HI{line:Nat}(hk:env.blockKind = .function)(hs:env.scope=sc):V9 v (some (.Name t pos)) line env=pure (swW sc v t pos):=by
 unfold V9 swW zi;have e3:(env.blockKind == .function)=true:=by rw[hk];rfl
 cases v <;> first |rfl |(simp only[e3,XB,Env.kindOf,hs];rfl)
theorem qk{line:Nat}(h:∀x p,tg ≠ .Name x p):Ua [tg] v line env=pure false:=by
 show V9 v (some tg) line env=pure false;unfold V9;cases v <;> first |rfl |(cases tg <;> first |rfl |(exact absurd rfl (h _ _)))
theorem ua(h:(∀es k p,v ≠ .Tuple es k p)\/(∃x p,tg = .Name x p)\/(∃o i p,tg = .Subscript o i p)):V8 [tg] v env=pure none:=by
 unfold V8;rcases h with h |⟨x,p,rfl⟩ |⟨o,i,p,rfl⟩
 ·split
  ·rename_i e;split at e
   ·exact absurd rfl (h _ _ _)
   ·exact absurd rfl (h _ _ _)
   ·cases e
  ·rfl
 ·rfl
 ·rfl
abbrev nmL:List Expr->Option (List Str)
 |[]=>some []
 |e::es=>match yX e,nmL es with
  |some r,some xs=>some (r.1::xs)
  |_,_=>none
theorem fb(h:nmL es=some (x::xs)):∃p es',es = .Name x p::es'/\nmL es'=some xs:=by
 cases es with
 |nil=>cases h
 |cons e es=>
  rw[nmL] at h;split at h
  ·rename_i r ys h1 h2;cases h;exact⟨_,es,by rw[n5 h1],h2⟩
  ·cases h
theorem ub(h:nmL es=some []):es=[]:=by
 cases es with
 |nil=>rfl
 |cons e es=>
  rw[nmL] at h;split at h <;> cases h
abbrev tgL:List Tg->Option (List Nat)
 |[]=>some []
 |.name i::ts=>match tgL ts with
  |some is=>some (i::is)
  |none=>none
 |.tup _::_=>none
theorem zj:∀ {ts:List Tg} {is:List Nat},tgL ts=some is->ts=is.map Tg.name
 |[],_,h=>by cases h;rfl
 |.name i::ts,is,h=>by
  rw[tgL] at h;cases e:tgL ts with
  |none=>rw[e] at h;cases h
  |some js=>rw[e] at h;cases h;rw[zj e];rfl
 |.tup _::_,_,h=>by cases h
abbrev Ma(b:Blk)(ns:List Str)(is:List Nat):Bool:=match ns with
 | [x,y]=>(match is with
  |[i,j]=>b.N[i]? == some x && b.N[j]? == some y && i != j && b.sc.names.lookup x == some .local && b.sc.names.lookup y == some .local
  | _=>false)
 | [x,y,z]=>(match is with
  |[i,j,l]=>b.N[i]? == some x && b.N[j]? == some y && b.N[l]? == some z && i != j && i != l && j != l && b.sc.names.lookup x == some .local && b.sc.names.lookup y == some .local && b.sc.names.lookup z == some .local
  | _=>false)
 |_=>false
abbrev Oj(e:Expr):Bool:=iE e λ_ _ _ _=>true
abbrev Ol(e:Expr):Bool:=e.ctorIdx == 24
abbrev su(T:Tab)(n:Nat)(b:Blk)(tg e:Expr)(t:Tg)(c:CE):Bool:=match t with
 | .name i=>(match yX tg with
  |some r=>aI T n b e c && b.N[i]? == some r.1 && b.own r.1 && (!(swW b.sc e r.1 r.2) || (Oj e && b.sc.names.lookup r.1 == some .local))
  | none=>false)
 | .tup gs=>(match v9 tg with
  | some r=>aI T n b e c && (match v9 e with
   | some q=>(match t9 b.sc r.1 q.1 with
    |some none=>kC b r.1 gs
    | some (some ns)=>(match tgL gs with
     |some is=>nmL r.1 == some ns && q.1.length == ns.length && Ma b ns is
     | none=>false)
    | none=>false)
   | none=>!(Ol e) && kC b r.1 gs)
  | none=>false)
abbrev uc(e:Stmt)(k:Option Expr->Pos->Bool):Bool:=if h:e.ctorIdx=3 then @Stmt.Return.elim (λ_=>Bool) e h k else false
theorem wc(h:uc e k=true):∃x0 x1,e = .Return x0 x1/\k x0 x1=true:=by
 obtain⟨h1,h⟩:=bF h;exact Stmt.Return.elim (motive_2:=λe=>∀h',@Stmt.Return.elim (λ_=>Bool) e h' k=true->∃x0 x1,e = .Return x0 x1/\k x0 x1=true) e h1 (λx0 x1 _ hh=>⟨x0,x1,rfl,hh⟩) h1 h
abbrev om(e:Stmt)(k:List Expr->Expr->Pos->Bool):Bool:=if h:e.ctorIdx=5 then @Stmt.Assign.elim (λ_=>Bool) e h k else false
theorem mJ(h:om e k=true):∃x0 x1 x2,e = .Assign x0 x1 x2/\k x0 x1 x2=true:=by
 obtain⟨h1,h⟩:=bF h;exact Stmt.Assign.elim (motive_2:=λe=>∀h',@Stmt.Assign.elim (λ_=>Bool) e h' k=true->∃x0 x1 x2,e = .Assign x0 x1 x2/\k x0 x1 x2=true) e h1 (λx0 x1 x2 _ hh=>⟨x0,x1,x2,rfl,hh⟩) h1 h
abbrev Mb(e:Stmt)(k:Expr->Expr->List Stmt->List Stmt->Pos->Bool):Bool:=if h:e.ctorIdx=9 then @Stmt.For.elim (λ_=>Bool) e h k else false
theorem HJ(h:Mb e k=true):∃x0 x1 x2 x3 x4,e = .For x0 x1 x2 x3 x4/\k x0 x1 x2 x3 x4=true:=by
 obtain⟨h1,h⟩:=bF h;exact Stmt.For.elim (motive_2:=λe=>∀h',@Stmt.For.elim (λ_=>Bool) e h' k=true->∃x0 x1 x2 x3 x4,e = .For x0 x1 x2 x3 x4/\k x0 x1 x2 x3 x4=true) e h1 (λx0 x1 x2 x3 x4 _ hh=>⟨x0,x1,x2,x3,x4,rfl,hh⟩) h1 h
abbrev jIf(e:Stmt)(k:Expr->List Stmt->List Stmt->Pos->Bool):Bool:=if h:e.ctorIdx=12 then @Stmt.If.elim (λ_=>Bool) e h k else false
theorem Mc(h:jIf e k=true):∃x0 x1 x2 x3,e = .If x0 x1 x2 x3/\k x0 x1 x2 x3=true:=by
 obtain⟨h1,h⟩:=bF h;exact Stmt.If.elim (motive_2:=λe=>∀h',@Stmt.If.elim (λ_=>Bool) e h' k=true->∃x0 x1 x2 x3,e = .If x0 x1 x2 x3/\k x0 x1 x2 x3=true) e h1 (λx0 x1 x2 x3 _ hh=>⟨x0,x1,x2,x3,rfl,hh⟩) h1 h
abbrev Fs(e:Stmt)(k:Expr->Pos->Bool):Bool:=if h:e.ctorIdx=24 then @Stmt.Expr.elim (λ_=>Bool) e h k else false
theorem Cw(h:Fs e k=true):∃x0 x1,e = .Expr x0 x1/\k x0 x1=true:=by
 obtain⟨h1,h⟩:=bF h;exact Stmt.Expr.elim (motive_2:=λe=>∀h',@Stmt.Expr.elim (λ_=>Bool) e h' k=true->∃x0 x1,e = .Expr x0 x1/\k x0 x1=true) e h1 (λx0 x1 _ hh=>⟨x0,x1,rfl,hh⟩) h1 h
abbrev mL(e:Stmt)(k:Pos->Bool):Bool:=if h:e.ctorIdx=27 then @Stmt.Continue.elim (λ_=>Bool) e h k else false
theorem ql(h:mL e k=true):∃x0,e = .Continue x0/\k x0=true:=by
 obtain⟨h1,h⟩:=bF h;exact Stmt.Continue.elim (motive_2:=λe=>∀h',@Stmt.Continue.elim (λ_=>Bool) e h' k=true->∃x0,e = .Continue x0/\k x0=true) e h1 (λx0 _ hh=>⟨x0,rfl,hh⟩) h1 h
abbrev oo(e:Expr):Bool:=e.ctorIdx == 8 || e.ctorIdx == 9 || e.ctorIdx == 10
abbrev Md(k:Expr->Expr->Bool)(s:Stmt):Bool:=om s λts v _=>l1 ts λtg=>k tg v
abbrev Ft(k l m:Expr->Bool)(s:Stmt):Bool:=om s λts z _=>l1 ts λtg=>cG tg λx y _=>k z && l x && m y && aF y
abbrev zEx(k:Expr->Bool)(s:Stmt):Bool:=Fs s λv _=>k v && !(oo v)
abbrev Me(k:Expr->Bool)(s:Stmt):Bool:=uc s λv _=>oA v k
abbrev zIf(k:Expr->Bool)(l m:List Stmt->Bool)(s:Stmt):Bool:=jIf s λt p q _=>k t && l p && m q
abbrev Mf(k:Expr->Expr->Bool)(l:List Stmt->Bool)(s:Stmt):Bool:=Mb s λtg i p q _=>q.isEmpty && k tg i && l p
abbrev Mg(s:Stmt):Bool:=mL s λ_=>true
section
variable {s:Stmt} {k l m:Expr->Bool}
theorem HK{k:Expr->Expr->Bool}(h:Md k s=true):∃tg v p,s = .Assign [tg] v p/\k tg v=true:=by
 obtain⟨ts,v,p,rfl,h⟩:=mJ h;obtain⟨tg,rfl,h⟩:=gu h;exact⟨tg,v,p,rfl,h⟩
theorem Cy(h:Ft k l m s=true):∃x y q z p,s = .Assign [.Subscript x y q] z p/\k z=true/\l x=true/\m y=true/\aF y=true:=by
 obtain⟨ts,v,p,rfl,h⟩:=mJ h;obtain⟨tg,rfl,h⟩:=gu h;obtain⟨x,y,q,rfl,h⟩:=cr h;exact⟨x,y,q,v,p,rfl,an4 h⟩
theorem Mh(h:zEx k s=true):∃v p,s = .Expr v p/\k v=true/\oo v=false:=by
 obtain⟨v,p,rfl,h⟩:=Cw h;obtain⟨h1,h2⟩:=an2 h;exact⟨v,p,rfl,h1,by cases e:oo v;rfl;rw[e] at h2;cases h2⟩
theorem HL(h:Me k s=true):∃v p,s = .Return (some v) p/\k v=true:=by
 obtain⟨v,p,rfl,h⟩:=wc h;obtain⟨v,rfl,h⟩:=wa h;exact⟨v,p,rfl,h⟩
theorem Mi{l m:List Stmt->Bool}(h:zIf k l m s=true):∃t p q r,s = .If t p q r/\k t=true/\l p=true/\m q=true:=by
 obtain⟨t,p,q,r,rfl,h⟩:=Mc h;exact⟨t,p,q,r,rfl,an3 h⟩
theorem HM{k:Expr->Expr->Bool}{l:List Stmt->Bool}(h:Mf k l s=true):∃tg i p q,s = .For tg i p [] q/\k tg i=true/\l p=true:=by
 obtain⟨tg,i,p,q,r,rfl,h⟩:=HJ h;obtain⟨h1,z0⟩:=an3 h;cases eJ h1;exact⟨tg,i,p,r,rfl,z0⟩
theorem HN(h:Mg s=true):∃p,s = .Continue p:=by obtain⟨p,rfl,_⟩:=ql h;exact⟨p,rfl⟩
end
mutual
noncomputable def Mj(T:Tab):Nat->Blk->Stmt->CS->Bool
 |0,_,_,_=>false
 |n+1,b,s,c=>match c with
  |.asg t e=>Md (λtg v=>su T n b tg v t e) s
  |.setI v o i=>Ft (λx=>aI T n b x v) (λx=>aI T n b x o) (λx=>aI T n b x i) s
  |.ex e=>zEx (λx=>aI T n b x e) s
  |.ret e=>Me (λx=>aI T n b x e) s
  |.ifs c x y=>zIf (λe=>eL T n b e c) (λp=>mM T n b p x) (λp=>mM T n b p y) s
  |.for_ t it x=>Mf (λtg i=>qg T n b tg i it && sf b tg t) (λp=>mM T n b p x) s
  |.cnt=>Mg s
  |.never=>true
noncomputable def mM(T:Tab):Nat->Blk->List Stmt->List CS->Bool
 |0,_,_,_=>false
 |n+1,b,ss,cs=>match cs with
  |[]=>ss.isEmpty
  |c::cs=>lC ss λs ss=>Mj T n b s c && mM T n b ss cs
end
section
variable {T:Tab} {C:Calls} {ar:Nat->Nat} {k n:Nat} {b:Blk} {X:Cx}
theorem Cz{k':Nat}(h:aI T (n+1) b (.Tuple es k' p) (.tup cs)=true):eK T n b es cs=true:=h
theorem zk{k':Nat}(h:aI T (n+1) b (.Tuple es k' p) c=true):∃cs,c = .tup cs:=by
 cases c with
 |tup cs=>exact⟨cs,rfl⟩
 |comp own elt cls=>
  cases cls with
  |nil=>exact absurd h Zd
  |cons g rest=>obtain⟨tg,it,cond⟩:=g;exact absurd h Zd
 |_=>exact absurd h Zd
theorem gz:∀ (ts:List Tg) (ds:List D) (ρ ρ':Rho),aO ts ds ρ=some ρ'->ts.length=ds.length
 |[],[],_,_,_=>rfl
 |[],_::_,_,_,e=>by simp[aO] at e
 |_::_,[],_,_,e=>by simp[aO] at e
 |t::ts,d::ds,ρ,ρ',e=>by
  simp only[aO] at e;split at e
  ·simp[gz _ _ _ _ e]
  ·cases e
theorem qm{K:W7}{x:XA}{ts:List Tg}{D:Ends}{σ:L2.St}{H:Hp}(h:tSt K (kl (jf jg x) (.tup ts)) D σ H):tAr K x σ H λvs H1=>∃m1 ρ ρ' ds,EnvR K m1 H1 ρ σ/\VDs K m1 H1 ds vs/\aO ts ds ρ=some ρ'/\∀σ',EnvR K m1 H1 ρ' σ'->D.nx σ' H1:=by
 obtain⟨m,ρ,S,fl,ρ',S',E,R,e,q⟩:=h;unfold kl at e;cases hx:jf jg x ρ S with
 |none=>rw[hx] at e;cases e
 |some r=>
  rw[hx] at e;obtain⟨ds,S1,e1,e2⟩:=ab hx;unfold jg at e2;split at e2
  ·cases e2;dsimp only at e;simp only[ax] at e;cases hb:aO ts ds ρ with
   |none=>rw[hb] at e;cases e
   |some ρ1=>
    rw[hb] at e;cases e;exact⟨m,ρ,S,ds,_,E,R,e1,λm1 H1 vs A1 vd=>⟨m1,ρ,_,ds,E.mono R A1.ext,vd,hb,λσ' E'=>q m1 H1 A1 σ' E'⟩⟩
  ·cases e2
theorem qo{K:W7}{x:XA}{σ:L2.St}{H:Hp}{Q Q':List V->Hp->Prop}(h:tAr K x σ H Q)(f:∀v H',Q v H'->Q' v H'):tAr K x σ H Q':=by
 obtain⟨m,ρ,S,d,S',E,R,e,q⟩:=h;exact⟨m,ρ,S,d,S',E,R,e,λm' H' v A vd=>f _ _ (q m' H' v A vd)⟩
theorem kJ{ρ ρ':Rho}{i:Nat}{d:D}(h:(if i < ρ.length then some (ρ.set i (some d)) else none)=some ρ'):ρ'=ρ.set i (some d):=by
 split at h
 ·cases h;rfl
 ·cases h
theorem CA{K:W7}{x:XA}{i j:Nat}{D:Ends}{σ:L2.St}{H:Hp}(h:tSt K (kl (jf jg x) (.tup [.name i,.name j])) D σ H):K4 i j (tAr K x) D σ H:=by
 refine qo (qm h) λvs H1 ⟨m1,ρ,ρ',ds,E,vd,e,q⟩=>?_;have hl:=gz _ _ _ _ e
 match ds,hl with
 |[a,c],_=>
  obtain⟨v,w,rfl,va,vc⟩:=pS vd;refine⟨v,w,rfl,q _ ?_⟩;simp only[aO,ax] at e;split at e
  ·rename_i r1 h1;have:=kJ h1;subst this;split at e
   ·rename_i r2 h2;have:=kJ h2;subst this;cases e;exact(E.set va).set vc
   ·cases e
  ·cases e
theorem Om{K:W7}{m:List Addr}{H:Hp}{a b c:D}{vs:List V}(h:VDs K m H [a,b,c] vs):∃v w z,vs=[v,w,z]/\VD K m H a v/\VD K m H b w/\VD K m H c z:=by
 rw[VDs] at h;obtain⟨v,r,rfl,p,q⟩:=h;obtain⟨w,z,rfl,p',q'⟩:=pS q;exact⟨v,w,z,rfl,p,p',q'⟩
theorem CB{K:W7}{x:XA}{i j l:Nat}{D:Ends}{σ:L2.St}{H:Hp}(h:tSt K (kl (jf jg x) (.tup [.name i,.name j,.name l])) D σ H):E8 i j l (tAr K x) D σ H:=by
 refine qo (qm h) λvs H1 ⟨m1,ρ,ρ',ds,E,vd,e,q⟩=>?_;have hl:=gz _ _ _ _ e
 match ds,hl with
 |[a,c,d],_=>
  obtain⟨v,w,z,rfl,va,vc,vd'⟩:=Om vd;refine⟨v,w,z,rfl,q _ ?_⟩;simp only[aO,ax] at e;split at e
  ·rename_i r1 h1;have:=kJ h1;subst this;split at e
   ·rename_i r2 h2;have:=kJ h2;subst this;split at e
    ·rename_i r3 h3;have:=kJ h3;subst this;cases e;exact((E.set va).set vc).set vd'
    ·cases e
   ·cases e
  ·cases e
theorem zl(h:aI T (n+1) b (.ListComp e gs scope p) c=true):∃own elt tg it cond rest t i ifs gs',c = .comp own elt (⟨tg,it,cond⟩::rest)/\gs=⟨t,i,ifs,0⟩::gs' ∧
  cmB own (kB own b.N) b.N scope b.sc=true/\qg T n b t i it=true/\sf (b.inner own scope) t tg=true/\zf (eL T n (b.inner own scope)) ifs cond=true/\mG T n (b.inner own scope) e gs' elt rest=true:=by
 cases c with
 |comp own elt cls=>
  ·obtain⟨tg,it,cond,rest,rfl,hc⟩:=Fq h;obtain⟨el,t,i,ifs,gs',scope',p',he,hh⟩:=t6 hc;cases he;obtain⟨h0,h1,h2,h3,h4⟩:=an5 hh;exact⟨own,elt,tg,it,cond,rest,t,i,ifs,gs',rfl,rfl,h0,h1,h2,h3,h4⟩
 |_=>exact absurd h Zd
end
section
variable {T:Tab} {C:Calls} {ar:Nat->Nat} {k n:Nat} {b:Blk} {X:Cx}
theorem CC(h:X.env.scope.kind = .function):X.env.blockKind = .function:=by
 unfold Env.blockKind;rw[h];rfl
theorem CD{α:Type}{l:List α}(h:l.length=2):∃a b,l=[a,b]:=by
 match l,h with
 |[a,b],_=>exact⟨a,b,rfl⟩
theorem wg{α:Type}{l:List α}(h:l.length=3):∃a b c,l=[a,b,c]:=by
 match l,h with
 |[a,b,c],_=>exact⟨a,b,c,rfl⟩
theorem HP(G:CtxOk T C ar k b X)(hk:X.env.scope.kind = .function){tg e:Expr}{t:Tg}{c:CE}{p:Pos}(h:su T n b tg e t c=true):PS X (.Assign [tg] e p) (tSt X.K (kl (evE C ar n c) t)):=by
 have hb:=CC hk;unfold su at h;cases t with
 |name i=>
  dsimp only at h;cases hx:yX tg with
  |none=>rw[hx] at h;cases h
  |some r=>
  obtain⟨x,px⟩:=r;rw[hx] at h;rw[n5 hx];simp only[bAE] at h;obtain⟨⟨⟨h1,h2⟩,h3⟩,h4⟩:=h;have hi:X.N[i]?=some x:=by rw[G.hN];simpa using h2
  have nd:X.N.Nodup:=by rw[G.hN];exact G.nd
  have o:=G.own h3;have sw:=HI (sc:=b.sc) (v:=e) (t:=x) (pos:=px) (line:=p.line) hb G.hs;cases hw:swW b.sc e x px with
  |false=>
   rw[hw] at sw;exact PS.imp (Ga nd hi o.1 ((snd n).e b X e c G h1) sw o.2) λD σ H q=>oi (rZ q) λv H' z=>nY z
  |true=>
   rw[hw] at h4 sw;simp only[YR,YS,bAE] at h4;obtain⟨h5,h4⟩:=h4;obtain⟨el,gs,scope,pp,rfl,_⟩:=iU h5
   ·cases n with
    |zero=>exact absurd h1 Zd
    |succ n=>
     obtain⟨own,elt,tg',it,cond,rest,tt,ii,ifs,gs',rfl,rfl,c0,c1,c2,c3,c4⟩:=zl h1;have S:CmScope own (kB own b.N) b.N scope b.sc:=xQ _ c0;have S':CmScope own (kB own b.N) X.N scope X.env.scope:=by rw[G.hN,G.hs];exact S
     have hpl:=fJ c1 (λe he env=>dM he) X.env;have hx:X.env.scope.names.lookup x=some .local:=by rw[G.hs];simpa using h4
     refine PS.imp (BA (g:=tTg X.K tg') (ti:=ifT C ar n X.K cond) (t:=λacc=>tCl X.K acc (fT C ar n elt rest)) G.calm S' nd hi hx ((snd n).i [] b X tt ii it G c1) (λC' ex s H=>fK (G.inner S (C':=C') (ex:=ex) (s:=s) (H:=H)) c2) (λC' ex s H=>kH (snd n) (G.inner S (C':=C') (ex:=ex) (s:=s) (H:=H)) c3)
      (λC' ex s H acc=>(snd n).cl _ _ el gs' elt rest (G.inner S (C':=C') (ex:=ex) (s:=s) (H:=H)) c4 _ scope pp acc 0 rfl) sw hpl) λD σ H q=>?_
     exact tU (λacc D σ H z=>sr z) (pK (oi (rZ q) λv H' z=>nY z))
 |tup gs=>
  dsimp only at h;cases hx:v9 tg with
  |none=>rw[hx] at h;cases h
  |some r=>
  obtain⟨ts,kt,pt⟩:=r;rw[hx] at h;rw[n6 hx];simp only[bAE] at h;obtain⟨h1,h3⟩:=h;have so:Ua [.Tuple ts kt pt] e p.line X.env=pure false:=qk λx p z=>nomatch z
  have plain:∀ (hw:V8 [.Tuple ts kt pt] e X.env=pure none) (hg:kC b ts gs=true),PS X (.Assign [.Tuple ts kt pt] e p) (tSt X.K (kl (evE C ar n c) (.tup gs))):=λhw hg=>
   PS.imp (xg ((snd n).e b X e c G h1) (fK G (e:=.Tuple ts kt pt) (t:=.tup gs) hg) so hw rfl) λD σ H q=>rZ q
  cases hy:v9 e with
  |none=>
   rw[hy] at h3;simp only[bAE] at h3;exact plain (ua (.inl λes k p z=>by rw[z] at hy;cases hy)) h3.2
  |some q=>
   obtain⟨es,ke,pe⟩:=q;rw[hy] at h3;obtain rfl:=n6 hy;cases n with
   |zero=>exact absurd h1 Zd
   |succ n=>
    obtain⟨cs,rfl⟩:=zk h1;have ha:=Cz h1;dsimp only at h3;cases hr:t9 b.sc ts es with
    |none=>rw[hr] at h3;cases h3
    |some w=>
     have hw:=L9 (k:=kt) (p:=pt) (k2:=ke) (p2:=pe) hb G.hs hr;rw[hr] at h3;cases w with
     |none=>exact plain hw h3
     |some ns=>
      dsimp only at h3;cases ht:tgL gs with
      |none=>rw[ht] at h3;cases h3
      |some is=>
       rw[ht] at h3;simp only[bAE] at h3;obtain⟨⟨hn0,hl0⟩,h3⟩:=h3;have hn:nmL ts=some ns:=by simpa using hn0
       have hl:es.length=ns.length:=by simpa using hl0
       clear hn0 hl0;obtain rfl:=zj ht;unfold Ma at h3;split at h3
       ·rename_i x y;split at h3
        ·rename_i i j;obtain⟨p1,t1,rfl,hn1⟩:=fb hn;obtain⟨p2,t2,rfl,hn2⟩:=fb hn1;obtain rfl:=ub hn2;obtain⟨a1,a2,rfl⟩:=CD hl;simp only[bAE] at h3;obtain⟨⟨⟨⟨q2,q3⟩,q4⟩,q5⟩,q6⟩:=h3;exact PS.imp (Gb (i:=i) (j:=j) G.calm (by rw[G.hN];exact G.nd) (by rw[G.hN];simpa using q2) (by rw[G.hN];simpa using q3) (by simpa using q4) (by rw[G.hs];simpa using q5) (by rw[G.hs];simpa using q6) ((snd n).a b X _ cs G ha) hw so) λD σ H q=>CA q
        ·cases h3
       ·rename_i x y z;split at h3
        ·rename_i i j l;obtain⟨p1,t1,rfl,hn1⟩:=fb hn;obtain⟨p2,t2,rfl,hn2⟩:=fb hn1;obtain⟨p3,t3,rfl,hn3⟩:=fb hn2;obtain rfl:=ub hn3;obtain⟨a1,a2,a3,rfl⟩:=wg hl;simp only[bAE] at h3;obtain⟨⟨⟨⟨⟨⟨⟨⟨q2,q3⟩,q3'⟩,q4⟩,q4'⟩,q4''⟩,q5⟩,q6⟩,q7⟩:=h3;exact PS.imp (BF (i:=i) (j:=j) (k:=l) G.calm (by rw[G.hN];exact G.nd) (by rw[G.hN];simpa using q2) (by rw[G.hN];simpa using q3) (by rw[G.hN];simpa using q3') (by simpa using q4) (by simpa using q4') (by simpa using q4'') (by rw[G.hs];simpa using q5) (by rw[G.hs];simpa using q6) (by rw[G.hs];simpa using q7) ((snd n).a b X _ cs G ha) hw so) λD σ H q=>CB q
        ·cases h3
       ·cases h3
theorem zm{line:Nat}(h:oo v=false):V9 v none line X.env=pure false:=by
 unfold V9;cases v <;> first |rfl |(exact absurd h (λz=>Zd z.symm))
structure SndS(T:Tab)(C:Calls)(ar:Nat->Nat)(k n:Nat):Prop where
 s:∀ (b:Blk) (X:Cx) (s:Stmt) (c:CS),CtxOk T C ar k b X->X.env.scope.kind = .function->Mj T n b s c=true->PS X s (tSt X.K (evS C ar n c))
 ss:∀ (b:Blk) (X:Cx) (s:List Stmt) (c:List CS),CtxOk T C ar k b X->X.env.scope.kind = .function->mM T n b s c=true->PSs X s (tSt X.K (gy C ar n c))
theorem Ml{K:W7}{D:Ends}{σ:L2.St}{H:Hp}(h:tSt K Cv D σ H):False:=by
 obtain⟨m,ρ,S,fl,ρ',S',E,R,e,q⟩:=h;cases e
theorem Mm:∀n,SndS T C ar k n
 |0=>⟨λb X s c _ _ h=>absurd h Zd,λb X s c _ _ h=>absurd h Zd⟩
 |n+1=>by
  have ih:=Mm n;refine⟨λb X s c G hk h=>?_,λb X ss cs G hk h=>?_⟩
  ·have hp:PassesOwn (model X.prog X.w) X.A X.env X.xe:=by rw[G.xe];exact PassesOwn.never
   cases c with
   |asg t e=>obtain⟨tg,v,p,rfl,h1⟩:=HK h;exact HP G hk h1
   |setI v o i=>
    obtain⟨x,y,px,z,p,rfl,h1,h2,h3,pl⟩:=Cy h
    exact PS.imp (xg ((snd n).e b X z v G h1) (F9 ((snd n).e b X x o G h2) ((snd n).e b X y i G h3) (LJ (kI G.room)) (λv=>by
     cases y <;> first | rfl | (exact absurd pl Zd))) (qk λx p z=>nomatch z) (ua (.inr (.inr ⟨_,_,_,rfl⟩))) rfl) λD σ H q=>Cb q
   |ex e=>obtain⟨v,p,rfl,h1,h2⟩:=Mh h;exact PS.imp (A7 ((snd n).e b X v e G h1) (zm h2)) λD σ H q=>Ca q
   |ret e=>obtain⟨v,p,rfl,h1⟩:=HL h;exact PS.imp (F5 ((snd n).e b X _ _ G h1)) λD σ H q=>He q
   |ifs c x y=>obtain⟨t,p,q,r,rfl,h1,h2,h3⟩:=Mi h;exact PS.imp (K0 ((snd n).t b X _ _ G h1) (ih.ss b X _ _ G hk h2) (ih.ss b X _ _ G hk h3)) λD σ H q=>LR q
   |for_ t it x=>
    obtain⟨tg,i,p,pos,rfl,h1,h2⟩:=HM h;have h1:=an2 h1;exact PS.imp (Gd hp G.calm ((snd n).i [] b X _ _ _ G h1.1) (fK G h1.2) (ih.ss b X _ _ G hk h2) (fJ h1.1 (λe he env=>dM he) X.env)) λD σ H q=>Hg q
   |cnt=>obtain⟨p,rfl⟩:=HN h;exact PS.imp o3 λD σ H q=>Hf q
   |never=>exact PS.imp xa λD σ H q=>(Ml q).elim
  ·cases cs with
   |nil=>rw[eJ h];exact PSs.imp A6 λD σ H q=>B9 q
   |cons c cs=>
    obtain⟨s,ss,rfl,h⟩:=dJ h;have h:=an2 h;exact PSs.imp (w9 (ih.s b X s c G hk h.1) (ih.ss b X ss cs G hk h.2)) λD σ H q=>Hd q
end
structure DefE where
 x:Str
 st:Stmt
 N:List Str
 ps:List Str
 body:List CS
abbrev FU:Nat:=60
abbrev jk(ae:List DefE)(f:Nat):Nat:=match ae[f]? with
 |some d=>d.ps.length
 |none=>0
abbrev HQ(C:Calls)(ar:Nat->Nat)(d:DefE)(ds:List D)(S:Sto):Option (D × Sto):=
 match gy C ar FU d.body (ds.map some++Zw (d.N.length - ds.length) none) S with
 |some (.rt v,_,S')=>some (v,S')
 |some (.nx,_,S')=>some (.non,S')
 |_=>none
abbrev evC(ae:List DefE):Nat->Calls
 |0=>λ_ _ _=>none
 |k+1=>λf ds S=>match ae[f]? with
  |some d=>HQ (evC ae k) (jk ae) d ds S
  |none=>none
abbrev zn(N ps:List Str)(sc:Scope):Bool:=sc.kind == .function && sc.isCoroutine == false && sc.isGenerator == false && iq N && N.take ps.length == ps && (ps.all λx=>sc.names.lookup x == some .local || sc.names.lookup x == some .cell) && sc.names.all λy=>y.2 != .free
theorem CF{N ps:List Str}{sc:Scope}(h:zn N ps sc=true):FnScope N ps sc:=by
 unfold zn at h;simp only[bAE,Yg] at h;obtain⟨⟨⟨⟨⟨⟨h1,h2⟩,h3⟩,h4⟩,h5⟩,h6⟩,h7⟩:=h;refine⟨by simpa using h1,by simpa using h2,by simpa using h3,gR h4,by simpa using h5,λx hx=>?_,λy hy=>by simpa using h7 y hy⟩;have:=h6 x hx
 simpa using this
abbrev CG(T:Tab)(d:DefE):Bool:=zn d.N d.ps (ba d.st) && mM T FU ⟨ba d.st,none,d.N⟩ (b6 d.st) d.body
abbrev ud(con:List (Str × Int))(ae:List DefE):Tab:=⟨con,ae.map λd=>(d.x,d.ps.length)⟩
structure TextOk(K:W7)(mg:Str->Option Value)(con:List (Str × Int))(ae:List DefE):Prop where
 con:∀ (i:Nat) (x:Str) (v:Int),con[i]?=some (x,v)->∃tk,mg x=some (.int v tk)
 bl:∀x,x ∈ g6->mg x=none
 fn:∀ (i:Nat) (d:DefE),ae[i]?=some d->∃f fd,mg d.x=some (.ref f)/\Ve K (.ref f)=true/\lX K fd d.ps []/\Fun K d.x d.x d.st f fd
section
variable {P:Program} {w:World} {K:W7} {mg:Str->Option Value} {base:Heap} {con:List (Str × Int)} {ae:List DefE}
theorem CH{f:Addr}{fd:WO}{ps:List Str}{i n:Nat}:FnOk P w K mg base CX0 0 f fd ps (spC K (evC ae 0 i) n):=
 ⟨λvs H Q E h=>(by obtain⟨m,ds,S,d,S',_,_,_,e,_⟩:=h;cases e),λA outer s H args us vs Q E _ _ _ _ h=>(by obtain⟨m,ds,S,d,S',_,_,_,e,_⟩:=h;cases e)⟩
theorem wj{m:List Addr}{H:Hp}{N:List Str}{ds:List D}{vs:List V}(vd:VDs K m H ds vs):EnvR K m H (ds.map some++Zw (N.length - ds.length) none) (L2.fW N vs):=by
 have hl:=vd.length;unfold L2.fW;refine⟨by simp[hl],λi d e=>?_⟩;by_cases hi:i < ds.length
 ·rw[Zu (by simpa using hi),Zo] at e;cases h:ds[i]? with
  |none=>rw[h] at e;cases e
  |some d'=>
   rw[h] at e;cases e;obtain⟨v,hv,vv⟩:=vd.get h;exact⟨v,by rw[Zu (by simp;omega),Zo,hv];rfl,vv⟩
 ·rw[Zp (by simpa using hi),Yr] at e;split at e <;> cases e
theorem ue(T:TextOk K mg con ae)(hc:ae.all (CG (ud con ae))=true):∀ (k i:Nat) (d:DefE),ae[i]?=some d->∀f fd,mg d.x=some (.ref f)->Fun K d.x d.x d.st f fd->FnOk P w K mg base CX0 k f fd d.ps (spC K (evC ae k i) d.ps.length)
 |0,i,d,_,f,fd,_,_=>CH
 |k+1,i,d,hd,f,fd,hm,F=>by
  have ih:=ue T hc k;have ck:=Yg.mp hc d (Ze hd);unfold CG at ck;rw[bAE] at ck;have S:=CF ck.1;refine F.ok S (λvs H Q E h=>?_) λcdv A outer s H vs Q E hr h=>?_
  ·obtain⟨m,ds,S,d',S',vd,_,hl,_⟩:=h;rw[<-vd.length,hl]
  ·have G:CtxOk (ud con ae) (evC ae k) (jk ae) k ⟨ba d.st,none,d.N⟩ (qY CX0 P w K mg base d.N d.x (ba d.st) f cdv A outer s H E).nox:=by
    refine⟨rfl,rfl,rfl,rfl,S.nd,λ_ _=>rfl,hr,T.con,T.bl,λj y hy=>?_⟩;have hy':(ae.map λd=>(d.x,d.ps.length))[j]?=some y:=hy;rw[Zo] at hy';cases hj:ae[j]? with
    |none=>rw[hj] at hy';cases hy'
    |some e=>
     rw[hj] at hy';cases hy';have ha:jk ae j=e.ps.length:=by unfold jk;rw[hj]
     obtain⟨f',fd',m',k',b',F'⟩:=T.fn j e hj;refine⟨ha,f',fd',e.ps,m',k',b',?_⟩;rw[ha];exact ih j e hj f' fd' m' F'
   refine⟨_,(Mm FU).ss _ _ (b6 d.st) d.body G S.kind ck.2,?_⟩;obtain⟨m,ds,S0,r,S',vd,R,hl,e,q⟩:=h;simp only[evC,hd,HQ] at e;cases hx:gy (evC ae k) (jk ae) FU d.body (ds.map some++Zw (d.N.length - ds.length) none) S0 with
   |none=>rw[hx] at e;cases e
   |some z=>
    obtain⟨fl,ρ',S1⟩:=z;rw[hx] at e;refine⟨m,_,S0,fl,ρ',S1,wj vd,R,hx,λm' H' A'=>?_⟩;cases fl with
    |nx=>cases e;exactλσ _=>q m' H' .non A' jX
    |rt v=>cases e;exactλu vu=>q m' H' u A' vu
    |bk=>cases e
    |ct=>cases e
end
@[inline]abbrev uf:=(Str × Str) × (Arguments × List Stmt) × (Scope × Addr) × (List (Str × Addr) × Value) × (Addr × Option Str)
abbrev Fu(h:Heap):Value->Option Str
 | .ref c=>(match h.get? c with
  |some ⟨_,_,.fields vs,_⟩=>(match vs.toList with |_ :: .str n _::_=>some n |_=>none)
  | _=>none)
 |_=>none
abbrev Mn(h:Heap):Option Obj->Option uf
 |some ⟨_,_,.func ⟨nm,qn,ps,.stmts b,sc,gl,cl,dv,_,_,_,_,cd,_,bi⟩,_⟩=>some ((nm,qn),(ps,b),(sc,gl),(cl,dv),(bi,Fu h cd))
 |_=>none
abbrev CJ(h:Heap)(x:Str):Option uf:=match h.nsMap VN x with
 |some (.ref f)=>Mn h (h.get? f)
 |_=>none
abbrev ug(d:DefE):Option uf:=some ((d.x,d.x),(dF d.st,b6 d.st),(ba d.st,VN),([],.none),(Vu,some d.x))
abbrev Mo(h:Heap)(x:Str):Option Int:=match h.nsMap VN x with
 |some (.int v _)=>some v
 |_=>none
@[inline]abbrev zo:=Bool × List (Option uf) × List (Option Int) × List Bool
abbrev HR(con:List (Str × Int))(ae:List DefE)(h:Heap):zo:=(h.isNs VN,ae.map (λd=>CJ h d.x),con.map (λc=>Mo h c.1),g6.map λx=>(h.nsMap VN x).isNone)
abbrev zp(con:List (Str × Int))(ae:List DefE):zo:=(true,ae.map ug,con.map (λc=>some c.2),g6.map λ_=>true)
def Fv(d:DefE):Prop:=∀ (kV doc pm:Value) (an:Option Addr) (cdv ct:Value) (us:List Value),us.length=d.ps.length->bindArgs (Vb d.x d.x (dF d.st) (b6 d.st) (ba d.st) .none kV doc pm an cdv ct) ⟨us,[]⟩=pure (d.ps.zip us)
def wk:List DefE->Prop
 |[]=>True
 |d::ds=>Fv d/\wk ds
theorem wk.at:∀ {ds:List DefE} {d:DefE},wk ds->d ∈ ds->Fv d
 |e::ds,d,h,hd=>by
  rcases Zn.mp hd with rfl |hd
  ·exact h.1
  ·exact wk.at h.2 hd
abbrev mN(h:Heap)(f:Addr):W7:=match h.get? f with
 | some o=>(f,o)::(match o.data with
  | .func fd=>(match fd.code with
   |.ref c=>(match h.get? c with |some oc=>[(c,oc)] |none=>[])
   | _=>[])
  | _=>[])
 |none=>[]
abbrev cP(h:Heap)(d:DefE):W7:=match h.nsMap VN d.x with
 |some (.ref f)=>mN h f
 |_=>[]
def Mp(K:W7):Prop:=∀a o,K.lookup a=some o->∀its n,o.data ≠ .seq its n
structure Says(con:List (Str × Int))(ae:List DefE)(h:Heap):Prop where
 ns:∃m,h.Ns VN m
 frag:∃K:W7,K.In h/\Mp K/\∀mg,h.Ns VN mg->TextOk K mg con ae
theorem kK{K:W7}{a:Addr}{o:Obj}(h:K.lookup a=some o):(a,o) ∈ K:=by
 induction K with
 |nil=>cases h
 |cons p K ih=>
  obtain⟨b,q⟩:=p;rw[Ys] at h;cases hb:a == b with
  |true=>
   rw[hb] at h;cases h;have:a=b:=by simpa using hb
   subst this;exact Zi
  |false=>rw[hb] at h;exact Zg _ (ih h)
theorem zq{K:W7}{a:Addr}{o:Obj}(h:(a,o) ∈ K):∃o',K.lookup a=some o':=by
 induction K with
 |nil=>cases h
 |cons p K ih=>
  obtain⟨b,q⟩:=p;rw[Ys];cases hb:a == b with
  |true=>exact⟨_,rfl⟩
  |false=>
   rcases Zn.mp h with e |h
   ·cases e;simp at hb
   ·exact ih h
theorem zr{h:Heap}{f a:Addr}{o:Obj}(e:(a,o) ∈ mN h f):h.get? a=some o:=by
 unfold mN at e;cases hf:h.get? f with
 |none=>rw[hf] at e;cases e
 |some of=>
  rw[hf] at e;dsimp only at e;rcases Zn.mp e with q |e
  ·cases q;exact hf
  ·split at e
   ·split at e
    ·rename_i c hc;cases hc':h.get? c with
     |none=>rw[hc'] at e;cases e
     |some oc=>
      rw[hc'] at e;dsimp only at e;rcases Zn.mp e with q |e
      ·cases q;exact hc'
      ·cases e
    ·cases e
   ·cases e
theorem HS{h:Heap}{a:Addr}{mg:Str->Option Value}(N:h.Ns a mg):h.nsMap a=mg:=by
 obtain⟨o,es,ep,ho,hd,_,hm⟩:=N
 funext x
 unfold Heap.nsMap;rw[ho];dsimp only;rw[hd];exact hm x
theorem zt{h:Heap}{d:DefE}(e:CJ h d.x=ug d):∃f oc od kV doc pm an c ct osl cc cd vs a t r cs,h.nsMap VN d.x=some (.ref f)/\h.get? f=some ⟨oc,od,.func (Vb d.x d.x (dF d.st) (b6 d.st) (ba d.st) .none kV doc pm an (.ref c) ct),osl⟩ ∧
  h.get? c=some ⟨cc,cd,.fields vs,cs⟩/\vs.toList=a :: .str d.x t::r:=by
 unfold CJ ug at e;split at e
 ·rename_i f hf;unfold Mn at e;split at e
  ·rename_i oc od nm qn ps b sc gl cl dv kV doc pm an cdv ct bi osl hg;simp only[Option.some.injEq,Prod.mk.injEq] at e;obtain⟨⟨rfl,rfl⟩,⟨rfl,rfl⟩,⟨rfl,rfl⟩,⟨rfl,rfl⟩,rfl,e⟩:=e;unfold Fu at e;split at e
   ·rename_i c;split at e
    ·rename_i cc cd vs cs hc;split at e
     ·rename_i a n t r hv;cases e;exact⟨f,oc,od,kV,doc,pm,an,c,ct,osl,cc,cd,vs,a,t,r,cs,hf,hg,hc,hv⟩
     ·cases e
    ·cases e
   ·cases e
  ·cases e
 ·cases e
theorem CK{con:List (Str × Int)}{ae:List DefE}(hb:wk ae){h:Heap}(e:HR con ae h=zp con ae):Says con ae h:=by
 unfold HR zp at e;simp only[Prod.mk.injEq] at e;obtain⟨e0,e1,e2,e3⟩:=e;have N:=Heap.Ns.of_isNs e0;have D:∀d ∈ ae,CJ h d.x=ug d:=λd hd=>Y5.mp e1 d hd
 have inK:∀a o,(a,o) ∈ ae.flatMap (cP h)->h.get? a=some o:=λa o he=>by
  obtain⟨d,hd,he⟩:=ZS.mp he;obtain⟨f,oc,od,kV,doc,pm,an,c,ct,osl,cc,cd,vs,a',t,r,cs,g1,g2,g3,g4⟩:=zt (D d hd);unfold cP at he;rw[g1] at he;exact zr he
 have lk:∀a o,(a,o) ∈ ae.flatMap (cP h)->(ae.flatMap (cP h)).lookup a=some o:=λa o he=>by
  obtain⟨o',q⟩:=zq he;have z:=inK a o' (kK q);rw[inK a o he] at z;cases z;exact q
 refine⟨⟨_,N⟩,ae.flatMap (cP h),λa o q=>inK a o (kK q),λa o q its n hs=>?_,λmg G=>?_⟩
 ·obtain⟨d,hd,he⟩:=ZS.mp (kK q);obtain⟨f,oc,od,kV,doc,pm,an,c,ct,osl,cc,cd,vs,a',t,r,cs,g1,g2,g3,g4⟩:=zt (D d hd);unfold cP at he;rw[g1] at he;dsimp only at he;unfold mN at he;rw[g2] at he;dsimp only at he;rw[g3] at he;dsimp only at he;rcases Zn.mp he with z |he
  ·cases z;cases hs
  ·rcases Zn.mp he with z |he
   ·cases z;cases hs
   ·cases he
 ·have hm:=HS G;refine⟨λi x v hi=>?_,λx hx=>?_,λi d hi=>?_⟩
  ·have z:=Y5.mp e2 (x,v) (Ze hi);unfold Mo at z;rw[hm] at z;dsimp only at z;split at z
   ·rename_i v' t hv;cases z;exact⟨t,hv⟩
   ·cases z
  ·have z:=Y5.mp e3 x hx;rw[hm] at z
   simpa using z
  ·have hd:=Ze hi;obtain⟨f,oc,od,kV,doc,pm,an,c,ct,osl,cc,cd,vs,a',t,r,cs,g1,g2,g3,g4⟩:=zt (D d hd)
   have m1:(f,_) ∈ ae.flatMap (cP h):=ZS.mpr ⟨d,hd,by
    show _ ∈ cP h d;unfold cP;rw[g1];dsimp only;unfold mN;rw[g2];exact Zi⟩
   have m2:(c,_) ∈ ae.flatMap (cP h):=ZS.mpr ⟨d,hd,by
    show _ ∈ cP h d;unfold cP;rw[g1];dsimp only;unfold mN;rw[g2];dsimp only;rw[g3];exact Zg _ Zi⟩
   have l1:=lk _ _ m1;have l2:=lk _ _ m2;have kp:Ve (ae.flatMap (cP h)) (.ref f)=true:=by unfold Ve;dsimp only;rw[l1]
   have cdI:W9 (ae.flatMap (cP h)) (.ref c) d.x=true:=by
    unfold W9;dsimp only;rw[l2];dsimp only;rw[g4];simp
   have F:=GC (st:=d.st) (x:=d.x) (qual:=d.x) l1 cdI kp;refine⟨f,_,by rw[<-hm];exact g1,kp,F.binds (hb.at hd),F⟩
theorem sv{con:List (Str × Int)}{ae:List DefE}{h h':Heap}(x:Says con ae h)(k:∀b o,h.get? b=some o->h'.get? b=some o):Says con ae h':=by
 obtain⟨⟨m,N⟩,K,KX,ns,T⟩:=x
 have back:∀mg,h'.Ns VN mg->h.Ns VN mg:=λmg ⟨o,es,ep,ho,r⟩=>by
  obtain⟨o',es',ep',ho',r'⟩:=N;have z:=k _ _ ho';rw[ho] at z;cases z;exact⟨o,es,ep,ho',r⟩
 refine⟨⟨m,let ⟨o,es,ep,ho,r⟩:=N;⟨o,es,ep,k _ _ ho,r⟩⟩,K,λa o q=>k _ _ (KX a o q),ns,λmg G=>T mg (back mg G)⟩
abbrev oq(con:List (Str × Int))(ae:List DefE)(hb:wk ae):PySem.W.Hook:=
 ⟨zo,λs=>HR con ae s.heap,λ_=>zp con ae,λ_ h=>Says con ae h,λ_ _ e=>CK hb e,λ_ _ _ x k=>sv x k⟩
theorem kL{K:W7}{m:List Addr}{H:Hp}:∀ns:List Int,VDs K m H (ns.map D.int) (ns.map V.int)
 |[]=>by rw[Yb,Yb,VDs]
 |a::l=>by rw[ZC,ZC,VDs];exact⟨_,_,rfl,bc,kL l⟩
theorem CL{l:PySem.W.OpenLaw}{n k i:Nat}{q:Program}{loose:List Str}{XP:(Str->Option Value)->Heap->Prop}{d:DefRec}{con:List (Str × Int)}{ae:List DefE}{hb:wk ae}{dl:DefE}{x:Str}
  (hn:l.most=some n) (hn2:n<=sizeLine) (hdf:d.params.defaults=[]) (hr:Room k callerA) (hx:d.name=dl.x) (hi:ae[i]?=some dl) (hps:dl.ps=[x]) (hc:ae.all (CG (ud con ae))=true)
  (main:∀ns:List Int,ns.length<=n->∃S',evC ae k i [.ref 0] [.frz (ns.map D.int)]=some (.bl true,S')) :
  PySem.W.WalkO q loose XP (oq con ae hb).says l.row.toRowW d [] (λf vs=>PySem.call f vs):=by
 refine Att.attach_call hn hdf λw s₀ s₁ mg mb fa o pm cd doc a vs ns G Y ho hd hcd hmg hobj hints hlen hg=>?_;obtain⟨_,K,KX,noS,T⟩:=(show Says con ae s₁.heap from Y);have T:=T mg G.T.g;obtain⟨f,fd,hm,kp,_,F⟩:=T.fn i dl hi;rw[hx] at hmg;rw[hmg] at hm;cases hm
 have bd:∀ (s:Shared) (u:Value),BindsTo s fd ⟨[u],[]⟩ [(x,u)]:=λs u=>by
  obtain⟨oc,od,kV,doc,pm,an,cdv,ct,osl,rfl,lk,hcd⟩:=F.ex;have z:=(hb.at (Ze hi)) kV doc pm an cdv ct [u] (by rw[hps];rfl);rw[hps] at z;exact .of_eq z
 refine xz (CX:=CX0) (sp:=spC K (evC ae k i) dl.ps.length) KX G.T.g G.T.b G.T.builtins G.T.nolimit hg hobj hints (ZI hlen hn2) hr (λbase _ _=>by
  have:=ue (P:=l.row.toRowW.prog) (w:=w) (base:=base) T hc k i dl hi fa fd hmg F;rw[hps] at this ⊢;exact this) bd (λH hO hS=>?_) λH e s' z=>z
 have fz:∃o,H a=some (.frz o (.lst (ns.map V.int))):=by
  rcases hS with (z |⟨o,z⟩) |⟨o,its,n',hk,hc,hdd,hdt,_⟩
  ·rcases hO a with y |⟨o',xs,y⟩
   ·rw[y] at z;cases z
   ·rw[y] at z;cases z
  ·exact⟨o,z⟩
  ·exact absurd hdt (noS a o hk its n')
 obtain⟨o,fz⟩:=fz;obtain⟨S',e⟩:=main ns hlen;refine⟨[a],[.ref 0],[.frz (ns.map D.int)],.bl true,S',?_,⟨rfl,by simp,λj ob ej=>?_⟩,by rw[hps];rfl,e,λm' H' v A vv=>vv.bls⟩
 ·rw[VDs];exact⟨_,_,rfl,by rw[VD];exact⟨a,rfl,rfl⟩,by rw[VDs]⟩
 ·cases j with
  |zero=>cases ej;exact⟨a,rfl,o,_,fz,kL ns⟩
  |succ j=>simp at ej
end Ev
namespace Lw
open PySem Ev
abbrev top(i:Nat):Stmt:=PySem.Challenge.pw_downrings_k55_how_much_longer.main.body.getD i (.Pass ⟨0,0,0,0⟩)
abbrev kM:List CS:=[.ret (.and (.inst .int (.var 0)) (.not (.inst .bool (.var 0))))]
abbrev iV:List CS:=[.ret (.and (.call 0 [.var 0]) (.chn .le .le (.var 1) (.var 0) (.var 2)))]
abbrev iW:List CS:=[.ret (.call 1 [.var 0,.int 0,.con 0 9999])]
abbrev kN:List CS:=[.ret (.and (.inst .tuple (.var 0)) (.chn .le .le (.var 1) (.len (.var 0)) (.var 2)))]
abbrev hF:List CS:=[.ifs (.or (.not (.call 3 [.var 0,.int 0,.var 1])) (.not (.all (.comp ["number"] (.call 1 [.var 2,.int 0,.bin .sub (.var 1) (.int 1)]) [⟨.name 2,.val (.var 0),none⟩])))) [.ret (.bl false)] [],.ret (.all (.comp ["number"] (.cmp .eq (.cnt (.var 0) (.var 2)) (.int 1)) [⟨.name 2,.val (.var 0),none⟩]))]
abbrev mO:List CS:=[.ret (.tupOf (.comp ["other"] (.var 2) [⟨.name 2,.val (.var 0),some (.cmp .ne (.var 2) (.var 1))⟩]))]
abbrev iX:List CS:=[.ifs (.not (.call 3 [.var 0,.int 4,.int 4])) [.ret (.bl false)] [],.asg (.tup [.name 1,.name 2,.name 3,.name 4]) (.var 0),.ret (.and (.call 1 [.var 1,.int 0,.con 1 8]) (.and (.call 1 [.var 2,.int 0,.con 2 60]) (.and (.call 7 [.var 3]) (.call 10 [.var 4]))))]
abbrev kO:List CS:=[.ifs (.not (.call 3 [.var 0,.int 1,.con 3 4])) [.ret (.bl false)] [],.ret (.and (.all (.comp ["row"] (.call 8 [.var 1,.len (.var 0)]) [⟨.name 1,.val (.var 0),none⟩])) (.call 9 [.var 0]))]
abbrev hJ:List CS:=[.ret (.and (.call 3 [.var 0,.var 1,.var 1]) (.all (.comp ["gap"] (.call 1 [.var 2,.int 1,.con 4 99]) [⟨.name 2,.val (.var 0),none⟩])))]
abbrev bD:List CS:=[.asg (.name 1) (.listR (.len (.var 0))),.ret (.all (.comp ["a", "b", "c"] (.cmp .le (.ix (.ix (.var 0) (.var 2)) (.var 3)) (.bin .add (.ix (.ix (.var 0) (.var 2)) (.var 4)) (.ix (.ix (.var 0) (.var 4)) (.var 3)))) [⟨.name 2,.val (.var 1),none⟩,⟨.name 3,.val (.var 1),none⟩,⟨.name 4,.val (.var 1),none⟩]))]
abbrev iY:List CS:=[.ifs (.or (.not (.call 3 [.var 0,.int 0,.con 5 4])) (.not (.all (.comp ["part"] (.call 11 [.var 1]) [⟨.name 1,.val (.var 0),none⟩])))) [.ret (.bl false)] [],.ret (.all (.comp ["at"] (.cmp .gt (.ix (.ix (.var 0) (.var 1)) (.int 0)) (.ix (.ix (.var 0) (.bin .sub (.var 1) (.int 1))) (.int 1))) [⟨.name 1,.r2 (.int 1) (.len (.var 0)),none⟩]))]
abbrev hU:List CS:=[.ret (.and (.call 3 [.var 0,.int 2,.int 2]) (.and (.call 2 [.ix (.var 0) (.int 0)]) (.and (.call 2 [.ix (.var 0) (.int 1)]) (.cmp .lt (.ix (.var 0) (.int 0)) (.ix (.var 0) (.int 1))))))]
abbrev mP:List CS:=[.ret (.call 1 [.var 1,.int 0,.bin .sub (.len (.ix (.var 0) (.int 2))) (.int 1)])]
abbrev dA:List CS:=[.for_ (.tup [.name 2,.name 3]) (.val (.ix (.var 0) (.int 3))) [.ifs (.chn .le .lt (.var 2) (.var 1) (.var 3)) [.ret (.var 3)] []],.ret (.var 1)]
abbrev qp:List CS:=[.ifs (.not (.call 3 [.var 0,.int 4,.int 4])) [.ret (.bl false)] [],.asg (.tup [.name 1,.name 2,.name 3,.name 4]) (.var 0),.ret (.and (.call 6 [.var 1]) (.and (.call 15 [.var 1,.var 2]) (.and (.call 16 [.var 1,.var 3]) (.call 18 [.var 3,.var 4]))))]
abbrev kP:List CS:=[.ifs (.cmp .is (.var 1) .non) [.ret (.bl true)] [],.ret (.and (.call 3 [.var 1,.int 2,.int 2]) (.and (.call 12 [.var 0,.ix (.var 1) (.int 0)]) (.call 2 [.ix (.var 1) (.int 1)])))]
abbrev f7:List CS:=[.ret (.and (.call 3 [.var 1,.int 0,.con 6 7]) (.all (.comp ["part"] (.call 17 [.var 0,.var 2]) [⟨.name 2,.val (.var 1),none⟩])))]
abbrev iZ:List CS:=[.ifs (.not (.call 3 [.var 1,.int 7,.int 7])) [.ret (.bl false)] [],.asg (.tup [.name 2,.name 3,.name 4,.name 5,.name 6,.name 7,.name 8]) (.var 1),.ifs (.not (.all (.comp ["minute"] (.call 2 [.var 9]) [⟨.name 9,.val (.tup [.var 3,.var 4,.var 5,.var 6]),none⟩]))) [.ret (.bl false)] [],.ifs (.not (.chn .le .le (.bin .add (.var 3) (.ix (.var 0) (.int 1))) (.var 4) (.var 5))) [.ret (.bl false)] [],.ret (.and (.call 12 [.var 0,.var 2]) (.and (.call 1 [.var 7,.int 0,.con 7 99]) (.call 1 [.var 8,.int 0,.ix (.var 0) (.int 0)])))]
abbrev i6:List CS:=[.ifs (.not (.call 4 [.var 1,.len (.var 0)])) [.ret (.bl false)] [],.ret (.all (.comp ["number", "glider"] (.or (.cmp .eq (.ix (.var 3) (.int 6)) (.int 0)) (.cmp .isin (.var 2) (.var 1))) [⟨.tup [.name 2,.name 3],.en (.var 0),none⟩]))]
abbrev i7:List CS:=[.ret (.tupOf (.comp ["number"] (.var 1) [⟨.name 1,.r1 (.len (.ix (.var 0) (.int 2))),some (.cmp .notin (.var 1) (.ix (.var 0) (.int 3)))⟩]))]
abbrev i8:List CS:=[.ifs (.not (.call 14 [.var 0])) [.never] []]
abbrev f8:List CS:=[.asg (.tup [.name 2,.name 3,.name 4,.name 5,.name 6,.name 7,.name 8]) (.var 0),.ret (.bin .mul (.var 7) (.mx (.int 0) (.bin .sub (.var 1) (.var 6))))]
abbrev eC:List CS:=[.ifs (.not (.var 1)) [.ret (.ix (.var 0) (.int 1))] [],.asg (.tup [.name 2,.name 3]) (.ix (.var 1) (.neg (.int 1))),.ret (.tup [.ix (.ix (.ix (.var 0) (.int 2)) (.var 2)) (.int 0),.var 3])]
abbrev mQ:List CS:=[.ifs (.cmp .is (.var 1) .non) [.ret (.int 0)] [],.ret (.bin .add (.ix (.var 1) (.int 1)) (.ix (.ix (.ix (.ix (.var 0) (.int 0)) (.int 2)) (.ix (.var 1) (.int 0))) (.var 2)))]
abbrev kQ:List CS:=[.asg (.tup [.name 3,.name 4]) (.var 1),.ret (.chn .le .lt (.ix (.ix (.ix (.var 0) (.int 2)) (.var 3)) (.int 1)) (.var 2) (.bin .sub (.var 4) (.ix (.ix (.var 0) (.int 0)) (.int 1))))]
abbrev eD:List CS:=[.ret (.len (.comp ["landing"] (.var 3) [⟨.name 3,.val (.var 1),some (.call 24 [.var 0,.var 3,.var 2])⟩]))]
abbrev cQ:List CS:=[.ret (.srt (.comp ["glider"] (.ix (.var 1) (.int 1)) [⟨.name 1,.val (.ix (.var 0) (.int 2)),none⟩]))]
abbrev f9:List CS:=[.asg (.tup [.name 3,.name 4,.name 5,.name 6,.name 7,.name 8,.name 9]) (.ix (.ix (.var 0) (.int 2)) (.ix (.ix (.var 1) (.var 2)) (.int 0))),.ret (.and (.cmp .gt (.var 9) (.int 0)) (.and (.call 24 [.var 0,.ix (.var 1) (.var 2),.var 4]) (.cmp .gt (.call 28 [.var 0,.var 1,.var 2,.var 4]) (.var 9))))]
abbrev ga:List CS:=[.asg (.name 4) (.sl (.var 1) none (some (.var 2))),.asg (.name 5) (.comp ["when"] (.var 6) [⟨.name 6,.val (.call 26 [.var 0]),some (.and (.cmp .gt (.var 6) (.var 3)) (.call 24 [.var 0,.ix (.var 1) (.var 2),.var 6]))⟩]),.ret (.mxL (.comp ["when"] (.bin .add (.int 1) (.call 25 [.var 0,.var 4,.var 6])) [⟨.name 6,.val (.bin .add (.lst [.var 3]) (.var 5)),none⟩]))]
abbrev cH:List CS:=[.asg (.name 2) (.lst []),.for_ (.tup [.name 3,.name 4]) (.en (.var 1)) [.asg (.name 5) (.call 31 [.var 0,.call 22 [.var 0,.var 2],.var 4,.var 3]),.ifs (.cmp .is (.var 5) .non) [.ret (.var 2)] [],.ex (.app (.var 2) (.tup [.var 4,.var 5])),.ifs (.call 27 [.var 0,.var 2,.var 3]) [.ret (.sl (.var 2) none (some (.var 3)))] []],.ret (.var 2)]
abbrev dB:List CS:=[.asg (.name 1) (.call 29 [.var 0,.ix (.var 0) (.int 3)]),.ret (.ite (.cmp .eq (.len (.var 1)) (.len (.ix (.var 0) (.int 3)))) (.var 1) .non)]
abbrev dC:List CS:=[.asg (.tup [.name 4,.name 5,.name 6,.name 7,.name 8,.name 9,.name 10]) (.ix (.ix (.var 0) (.int 2)) (.var 2)),.asg (.name 11) (.call 13 [.ix (.var 0) (.int 0),.mx (.var 6) (.call 23 [.var 0,.var 1,.var 4])]),.ifs (.or (.cmp .gt (.var 11) (.var 7)) (.call 32 [.var 0,.var 3,.var 11])) [.ret .non] [],.ret (.var 11)]
abbrev cR:List CS:=[.asg (.tup [.name 3,.name 4,.name 5,.name 6]) (.ix (.var 0) (.int 0)),.asg (.name 7) (.call 26 [.var 0]),.asg (.name 8) (.bin .add (.var 3) (.var 1)),.ret (.and (.cmp .lt (.var 8) (.len (.var 7))) (.cmp .gt (.bin .sub (.var 2) (.var 4)) (.ix (.var 7) (.var 8))))]
abbrev hV:List CS:=[.asg (.name 2) (.call 30 [.var 0]),.ifs (.cmp .is (.var 2) .non) [.ret .non] [],.asg (.name 3) (.call 35 [.var 0,.var 1,.call 22 [.var 0,.var 2],.call 19 [.var 0],.dic0]),.ifs (.cmp .is (.var 3) .non) [.ret .non] [],.asg (.tup [.name 4,.name 5]) (.var 3),.for_ (.tup [.name 6,.name 7]) (.val (.rev (.var 2))) [.asg (.name 4) (.call 34 [.var 1,.ix (.ix (.var 0) (.int 2)) (.var 6),.var 7,.var 4])],.ret (.tup [.var 4,.bin .add (.ix (.var 0) (.int 3)) (.var 5)])]
abbrev qq:List CS:=[.ifs (.cmp .eq (.var 0) (.str "last")) [.ret (.mx (.var 2) (.var 3))] [],.ifs (.cmp .eq (.var 0) (.str "cost")) [.ret (.bin .add (.call 21 [.var 1,.var 2]) (.var 3))] [],.ret (.mx (.call 21 [.var 1,.var 2]) (.var 3))]
abbrev cX:List CS:=[.ifs (.not (.var 3)) [.ret (.tup [.int 0,.tup []])] [],.asg (.name 5) (.tup [.var 2,.var 3]),.ifs (.cmp .notin (.var 5) (.var 4)) [.asg (.name 6) (.comp ["number"] (.call 36 [.var 0,.var 1,.var 2,.var 3,.var 7,.var 4]) [⟨.name 7,.val (.var 3),none⟩]),.setI (.mnN (.comp ["way"] (.var 7) [⟨.name 7,.val (.var 6),some (.cmp .isnot (.var 7) .non)⟩])) (.var 4) (.var 5)] [],.ret (.ix (.var 4) (.var 5))]
abbrev i9:List CS:=[.asg (.name 6) (.call 31 [.var 0,.var 2,.var 4,.bin .sub (.len (.ix (.var 0) (.int 2))) (.len (.var 3))]),.ifs (.cmp .is (.var 6) .non) [.ret .non] [],.asg (.name 7) (.ix (.ix (.var 0) (.int 2)) (.var 4)),.asg (.name 8) (.call 35 [.var 0,.var 1,.tup [.ix (.var 7) (.int 0),.var 6],.call 5 [.var 3,.var 4],.var 5]),.ifs (.cmp .is (.var 8) .non) [.ret .non] [],.ret (.tup [.call 34 [.var 1,.var 7,.var 6,.ix (.var 8) (.int 0)],.bin .add (.tup [.var 4]) (.ix (.var 8) (.int 1))])]
abbrev qr:List CS:=[.ex (.call 20 [.var 0]),.asg (.name 1) (.call 33 [.call 38 [.var 0],.str "most"]),.ret (.ite (.cmp .is (.var 1) .non) .non (.ix (.var 1) (.int 0)))]
abbrev dD:List CS:=[.asg (.tup [.name 1,.name 2,.name 3,.name 4]) (.var 0),.asg (.name 5) (.bin .add (.con 0 9999) (.bin .mul (.con 6 7) (.con 4 99))),.asg (.name 6) (.comp ["kind", "joins", "first", "last", "due", "weight", "ring"] (.tup [.var 7,.var 8,.var 9,.var 5,.var 10,.int 1,.var 13]) [⟨.tup [.name 7,.name 8,.name 9,.name 10,.name 11,.name 12,.name 13],.val (.var 3),none⟩]),.ret (.tup [.var 1,.var 2,.tupOf (.var 6),.var 4])]
abbrev gf:List CS:=[.ifs (.cmp .lt (.var 1) (.len (.var 0))) [.ret (.ix (.var 0) (.var 1))] [],.ret (.int 0)]
abbrev mR:List CS:=[.ifs (.cmp .ge (.var 0) (.bin .pow (.int 10) (.int 18))) [.ret (.lst [.bin .sub (.var 0) (.bin .pow (.int 10) (.int 18))])] [],.asg (.name 1) (.int 0),.for_ (.name 2) (.r1 (.int 64)) [.asg (.name 3) (.bin .mod (.bin .mul (.bin .add (.bin .add (.bin .mod (.var 0) (.int 2147483629)) (.bin .mul (.int 7919) (.var 2))) (.int 1)) (.int 48271)) (.int 2147483647)),.asg (.name 3) (.bin .mod (.bin .add (.bin .add (.bin .mul (.var 3) (.var 3)) (.bin .mul (.int 69621) (.var 2))) (.int 7)) (.int 2147483587)),.asg (.name 1) (.bin .add (.bin .mul (.var 1) (.int 2147483587)) (.var 3))],.ret (.lst [.var 1])]
abbrev kR:List CS:=[.asg (.name 2) (.bin .mod (.ix (.var 0) (.int 0)) (.var 1)),.setI (.bin .fdiv (.ix (.var 0) (.int 0)) (.var 1)) (.var 0) (.int 0),.ret (.var 2)]
abbrev dQ:List CS:=[.asg (.tup [.name 1,.name 2]) (.tup [.bin .add (.int 1) (.call 41 [.var 0,.int 4]),.ix (.lst [.int 3,.int 12,.int 40]) (.call 41 [.var 0,.int 3])]),.asg (.name 3) (.comp ["_law_a"] (.comp ["_law_b"] (.bin .add (.int 1) (.call 41 [.var 0,.var 2])) [⟨.name 7,.r1 (.var 1),none⟩]) [⟨.name 6,.r1 (.var 1),none⟩]),.for_ (.name 4) (.r1 (.var 1)) [.for_ (.name 5) (.r1 (.var 1)) [.setI (.comp ["_law_b"] (.mn (.ix (.ix (.var 3) (.var 5)) (.var 6)) (.bin .add (.ix (.ix (.var 3) (.var 5)) (.var 4)) (.ix (.ix (.var 3) (.var 4)) (.var 6)))) [⟨.name 6,.r1 (.var 1),none⟩]) (.var 3) (.var 5)]],.ret (.tupOf (.comp ["_law_row"] (.tupOf (.var 6)) [⟨.name 6,.val (.var 3),none⟩]))]
abbrev hX:List CS:=[.asg (.tup [.name 1,.name 2]) (.tup [.lst [],.int 0]),.for_ (.name 3) (.r1 (.call 41 [.var 0,.ix (.lst [.int 1,.int 5]) (.call 41 [.var 0,.int 2])])) [.asg (.name 4) (.bin .add (.var 2) (.call 41 [.var 0,.int 25])),.ex (.app (.var 1) (.tup [.var 4,.bin .add (.bin .add (.var 4) (.int 1)) (.call 41 [.var 0,.int 25])])),.asg (.name 2) (.bin .add (.ix (.ix (.var 1) (.neg (.int 1))) (.int 1)) (.int 1))],.ret (.tup [.ix (.lst [.int 8,.int 1,.int 2,.int 3,.int 0]) (.call 41 [.var 0,.int 5]),.ix (.lst [.int 0,.int 2,.int 9,.int 60]) (.call 41 [.var 0,.int 4]),.call 42 [.var 0],.tupOf (.var 1)])]
abbrev fM:List CS:=[.asg (.tup [.name 2,.name 3]) (.tup [.call 43 [.var 0],.lst []]),.asg (.tup [.name 4,.name 5]) (.tup [.ix (.lst [.int 5,.int 20,.int 60]) (.call 41 [.var 0,.int 3]),.ix (.lst [.int 4,.int 30,.int 90,.int 400]) (.call 41 [.var 0,.int 4])]),.for_ (.name 6) (.r1 (.call 41 [.var 0,.bin .add (.var 1) (.int 1)])) [.asg (.name 7) (.call 41 [.var 0,.var 4]),.asg (.name 8) (.bin .add (.bin .add (.var 7) (.ix (.var 2) (.int 1))) (.ix (.lst [.int 0,.call 41 [.var 0,.int 9]]) (.call 41 [.var 0,.int 2]))),.asg (.tup [.name 9,.name 10]) (.tup [.bin .add (.var 8) (.call 41 [.var 0,.var 5]),.bin .add (.var 7) (.call 41 [.var 0,.var 5])]),.ex (.app (.var 3) (.lst [.call 41 [.var 0,.len (.ix (.var 2) (.int 2))],.var 7,.var 8,.var 9,.var 10,.ix (.lst [.int 0,.int 1,.int 7,.int 99]) (.call 41 [.var 0,.int 4]),.int 0]))],.asg (.tup [.name 11,.name 12]) (.tup [.listR (.len (.var 3)),.lst []]),.for_ (.name 13) (.r1 (.ix (.lst [.int 0,.call 41 [.var 0,.bin .add (.len (.var 3)) (.int 1)]]) (.call 41 [.var 0,.int 2]))) [.ex (.app (.var 12) (.popAt (.var 11) (.call 41 [.var 0,.len (.var 11)]))),.ifs (.and (.cmp .gt (.ix (.var 2) (.int 0)) (.int 0)) (.cmp .eq (.call 41 [.var 0,.int 3]) (.int 0))) [.setI (.bin .add (.int 1) (.call 41 [.var 0,.ix (.var 2) (.int 0)])) (.ix (.var 3) (.ix (.var 12) (.neg (.int 1)))) (.int 6)] []],.asg (.name 14) (.ix (.lst [.non,.tup [.call 41 [.var 0,.len (.ix (.var 2) (.int 2))],.call 41 [.var 0,.int 30]]]) (.call 41 [.var 0,.int 2])),.ret (.tup [.var 2,.var 14,.tupOf (.comp ["_law_one"] (.tupOf (.var 15)) [⟨.name 15,.val (.var 3),none⟩]),.tupOf (.var 12)])]
abbrev kS:List CS:=[.for_ (.tup [.name 2,.name 3]) (.val (.var 0)) [.ifs (.chn .le .lt (.var 2) (.var 1) (.var 3)) [.asg (.name 1) (.var 3)] []],.ret (.var 1)]
abbrev ja:List CS:=[.ret (.comp ["_law_one", "_law_minute"] (.var 3) [⟨.tup [.name 3,.name 4],.val (.var 1),some (.chn .le .lt (.ix (.ix (.ix (.var 0) (.int 2)) (.var 3)) (.int 1)) (.var 2) (.bin .sub (.var 4) (.ix (.ix (.var 0) (.int 0)) (.int 1))))⟩])]
abbrev kT:List CS:=[.asg (.name 4) (.ix (.ix (.ix (.var 0) (.int 2)) (.var 2)) (.int 1)),.asg (.name 5) (.bin .add (.lst [.var 4]) (.comp ["_law_one", "_law_when"] (.ix (.ix (.ix (.var 0) (.int 2)) (.var 7)) (.int 1)) [⟨.tup [.name 7,.name 8],.val (.var 1),none⟩])),.asg (.name 6) (.comp ["_law_at"] (.bin .add (.int 1) (.len (.call 46 [.var 0,.var 1,.var 7]))) [⟨.name 7,.val (.var 5),some (.chn .le .lt (.var 4) (.var 7) (.bin .sub (.var 3) (.ix (.ix (.var 0) (.int 0)) (.int 1))))⟩]),.ret (.mxD (.var 6) 0)]
abbrev hY:List CS:=[.asg (.name 1) (.lst [.ix (.var 0) (.int 3)]),.for_ (.name 2) (.r1 (.bin .sub (.len (.ix (.var 0) (.int 2))) (.len (.ix (.var 0) (.int 3))))) [.asg (.name 3) (.lst []),.for_ (.name 4) (.val (.var 1)) [.ex (.ext (.var 3) (.comp ["_law_one"] (.bin .add (.var 4) (.tup [.var 5])) [⟨.name 5,.r1 (.len (.ix (.var 0) (.int 2))),some (.cmp .notin (.var 5) (.var 4))⟩]))],.asg (.name 1) (.var 3)],.ret (.var 1)]
abbrev kU:List CS:=[.asg (.tup [.name 2,.name 3,.name 4]) (.tup [.ix (.var 0) (.int 1),.lst [],.int 0]),.asg (.name 5) (.srt (.comp ["_law_one"] (.ix (.var 17) (.int 1)) [⟨.name 17,.val (.ix (.var 0) (.int 2)),none⟩])),.for_ (.tup [.name 6,.name 7]) (.en (.var 1)) [.asg (.tup [.name 8,.name 9,.name 10,.name 11,.name 12,.name 13,.name 14]) (.ix (.ix (.var 0) (.int 2)) (.var 7)),.ifs (.cmp .isnot (.var 2) .non) [.asg (.name 10) (.mx (.var 10) (.bin .add (.ix (.var 2) (.int 1)) (.ix (.ix (.ix (.ix (.var 0) (.int 0)) (.int 2)) (.ix (.var 2) (.int 0))) (.var 8))))] [],.asg (.name 15) (.call 45 [.ix (.ix (.var 0) (.int 0)) (.int 3),.var 10]),.asg (.name 16) (.sl (.var 5) (some (.bin .add (.ix (.ix (.var 0) (.int 0)) (.int 0)) (.var 6))) none),.ifs (.or (.and (.cmp .ne (.var 16) (.lst [])) (.cmp .gt (.bin .sub (.var 15) (.ix (.ix (.var 0) (.int 0)) (.int 1))) (.ix (.var 16) (.int 0)))) (.chn .lt .lt (.int 0) (.var 14) (.call 47 [.var 0,.var 3,.var 7,.var 15]))) [.ret .non] [],.asg (.name 4) (.mx (.var 4) (.bin .sub (.var 15) (.var 11))),.ex (.app (.var 3) (.tup [.var 7,.var 15])),.asg (.name 2) (.tup [.var 8,.var 15])],.ret (.var 4)]
abbrev Fw:List CS:=[.for_ (.name 1) (.r1 (.mx (.int 1) (.mn (.len (.var 0)) (.int 5)))) [.asg (.name 2) (.call 40 [.call 39 [.var 0,.var 1]]),.asg (.tup [.name 3,.name 4,.name 5,.name 6]) (.call 44 [.var 2,.int 5]),.asg (.name 7) (.ix (.lst [.int 1,.int 5,.int 40]) (.call 41 [.var 2,.int 3])),.asg (.name 8) (.tupOf (.comp ["_law_one"] (.bin .add (.bin .add (.sl (.var 14) none (some (.int 3))) (.tup [.bin .add (.ix (.var 14) (.int 2)) (.call 41 [.var 2,.var 7])])) (.sl (.var 14) (some (.int 4)) none)) [⟨.name 14,.val (.var 5),none⟩])),.for_ (.name 9) (.val (.tup [.tup [.var 3,.var 4,.var 5,.var 6],.tup [.var 3,.var 4,.var 8,.var 6]])) [.asg (.name 10) (.comp ["_law_order"] (.call 49 [.var 9,.var 14]) [⟨.name 14,.val (.call 48 [.var 9]),none⟩]),.asg (.name 11) (.mnN (.comp ["_law_one"] (.var 14) [⟨.name 14,.val (.var 10),some (.cmp .isnot (.var 14) .non)⟩])),.asg (.name 12) (.rep (.var 9)),.for_ (.name 13) (.r1 (.int 2)) [.ifs (.or (.cmp .ne (.rep (.call 37 [.var 9])) (.rep (.var 11))) (.cmp .ne (.rep (.var 9)) (.var 12))) [.ret (.bl false)] []]]],.ret (.bl true)]
abbrev gA:DefE:=⟨"is_whole", top 5,["thing"],["thing"],kM⟩
abbrev fe:DefE:=⟨"is_within", top 6,["thing", "least", "most"],["thing", "least", "most"],iV⟩
abbrev ff:DefE:=⟨"is_minute", top 7,["thing"],["thing"],iW⟩
abbrev gB:DefE:=⟨"is_tuple", top 8,["thing", "least", "most"],["thing", "least", "most"],kN⟩
abbrev dR:DefE:=⟨"are_unlike", top 9,["thing", "many"],["thing", "many"],hF⟩
abbrev iH:DefE:=⟨"without", top 10,["numbers", "number"],["numbers", "number"],mO⟩
abbrev fg:DefE:=⟨"is_meadow", top 17,["thing", "rings", "sink", "gaps", "shuts"],["thing"],iX⟩
abbrev gC:DefE:=⟨"are_gaps", top 18,["thing"],["thing"],kO⟩
abbrev dS:DefE:=⟨"is_gap_row", top 19,["thing", "many"],["thing", "many"],hJ⟩
abbrev a7:DefE:=⟨"no_glider_between_helps", top 20,["gaps", "kinds"],["gaps"],bD⟩
abbrev fh:DefE:=⟨"are_shuts", top 21,["thing"],["thing"],iY⟩
abbrev dU:DefE:=⟨"is_stretch", top 22,["thing"],["thing"],hU⟩
abbrev iI:DefE:=⟨"is_kind", top 23,["meadow", "thing"],["meadow", "thing"],mP⟩
abbrev bV:DefE:=⟨"first_not_shut", top 24,["meadow", "minute", "begin", "end"],["meadow", "minute"],dA⟩
abbrev kW:DefE:=⟨"is_sky", top 28,["thing", "meadow", "ahead", "gliders", "fixed"],["thing"],qp⟩
abbrev gD:DefE:=⟨"is_ahead", top 29,["meadow", "thing"],["meadow", "thing"],kP⟩
abbrev cY:DefE:=⟨"are_gliders", top 30,["meadow", "thing"],["meadow", "thing"],f7⟩
abbrev fj:DefE:=⟨"is_glider", top 31,["meadow", "thing", "kind", "joins", "first", "last", "due", "weight", "ring"],["meadow", "thing"],iZ⟩
abbrev fk:DefE:=⟨"are_fixed", top 32,["gliders", "thing"],["gliders", "thing"],i6⟩
abbrev fm:DefE:=⟨"free_ones", top 33,["sky"],["sky"],i7⟩
abbrev fo:DefE:=⟨"check_sky", top 34,["thing"],["thing"],i8⟩
abbrev cZ:DefE:=⟨"glider_cost", top 36,["glider", "minute", "kind", "joins", "first", "last", "due", "weight", "ring"],["glider", "minute"],f8⟩
abbrev cg:DefE:=⟨"landing_ahead", top 37,["sky", "sooner", "number", "minute"],["sky", "sooner"],eC⟩
abbrev iJ:DefE:=⟨"gap_end", top 38,["sky", "ahead", "kind"],["sky", "ahead", "kind"],mQ⟩
abbrev gF:DefE:=⟨"waits_at", top 39,["sky", "landing", "minute", "number", "lands"],["sky", "landing", "minute"],kQ⟩
abbrev ci:DefE:=⟨"how_many_wait", top 40,["sky", "landings", "minute"],["sky", "landings", "minute"],eD⟩
abbrev bO:DefE:=⟨"joining_minutes", top 41,["sky"],["sky"],cQ⟩
abbrev c6:DefE:=⟨"is_too_high", top 42,["sky", "landings", "place", "kind", "joins", "first", "last", "due", "weight", "ring"],["sky", "landings", "place"],f9⟩
abbrev c7:DefE:=⟨"ring_needed", top 43,["sky", "landings", "place", "minute", "sooner", "later"],["sky", "landings", "place", "minute"],ga⟩
abbrev bK:DefE:=⟨"soonest_landings", top 45,["sky", "numbers", "landings", "place", "number", "minute"],["sky", "numbers"],cH⟩
abbrev bW:DefE:=⟨"fixed_landings", top 46,["sky", "landings"],["sky"],dB⟩
abbrev bX:DefE:=⟨"soonest_minute", top 47,["sky", "ahead", "number", "place", "kind", "joins", "first", "last", "due", "weight", "ring", "minute"],["sky", "ahead", "number", "place"],dC⟩
abbrev bP:DefE:=⟨"leaves_too_late", top 48,["sky", "place", "minute", "rings", "sink", "gaps", "shuts", "joins", "one_too_many"],["sky", "place", "minute"],cR⟩
abbrev dW:DefE:=⟨"best_order", top 50,["sky", "aim", "landings", "best", "number", "order", "glider", "minute"],["sky", "aim"],hV⟩
abbrev kY:DefE:=⟨"joined", top 51,["aim", "glider", "minute", "number"],["aim", "glider", "minute", "number"],qq⟩
abbrev bG:DefE:=⟨"best_behind", top 52,["sky", "aim", "ahead", "left", "known", "key", "ways"],["sky", "aim", "ahead", "left", "known"],cX⟩
abbrev fq:DefE:=⟨"best_with", top 53,["sky", "aim", "ahead", "left", "number", "known", "minute", "glider", "best"],["sky", "aim", "ahead", "left", "number", "known"],i9⟩
abbrev kZ:DefE:=⟨"longer", top 55,["sky", "best"],["sky"],qr⟩
abbrev bZ:DefE:=⟨"never_too_late", top 56,["sky", "meadow", "ahead", "gliders", "fixed", "latest", "late"],["sky"],dD⟩
abbrev c8:DefE:=⟨"_law_cell_at", top 58,["_law_script", "_law_k"],["_law_script", "_law_k"],gf⟩
abbrev iK:DefE:=⟨"_law_pot", top 59,["_law_cell", "_law_number", "_law_j", "_law_more"],["_law_cell"],mR⟩
abbrev gG:DefE:=⟨"_law_take", top 60,["_law_pot_here", "_law_wide", "_law_found"],["_law_pot_here", "_law_wide"],kR⟩
abbrev gH:DefE:=⟨"_law_gaps", top 61,["_law_pot_here", "_law_many", "_law_far", "_law_found", "_law_c", "_law_a"],["_law_pot_here"],dQ⟩
abbrev dX:DefE:=⟨"_law_meadow", top 62,["_law_pot_here", "_law_shuts", "_law_at", "_law_turn", "_law_begin"],["_law_pot_here"],hX⟩
abbrev iL:DefE:=⟨"_law_sky", top 63,["_law_pot_here", "_law_most", "_law_meadow_here", "_law_gliders", "_law_wide", "_law_long", "_law_number", "_law_joins", "_law_first", "_law_last", "_law_due", "_law_left", "_law_fixed", "_law_turn", "_law_ahead"],["_law_pot_here", "_law_most"],fM⟩
abbrev gI:DefE:=⟨"_law_open", top 64,["_law_shuts", "_law_minute", "_law_begin", "_law_end"],["_law_shuts", "_law_minute"],kS⟩
abbrev fu:DefE:=⟨"_law_waits", top 65,["_law_sky_here", "_law_landed", "_law_at"],["_law_sky_here", "_law_landed", "_law_at"],ja⟩
abbrev gJ:DefE:=⟨"_law_need", top 66,["_law_sky_here", "_law_landed", "_law_number", "_law_minute", "_law_joins", "_law_known", "_law_counts"],["_law_sky_here", "_law_landed", "_law_number", "_law_minute"],kT⟩
abbrev dY:DefE:=⟨"_law_orders", top 67,["_law_sky_here", "_law_found", "_law_turn", "_law_wider", "_law_row"],["_law_sky_here"],hY⟩
abbrev gK:DefE:=⟨"_law_lack", top 68,["_law_sky_here", "_law_order", "_law_ahead", "_law_landed", "_law_most", "_law_joins", "_law_place", "_law_number", "_law_kind", "_law_own", "_law_first", "_law_last", "_law_due", "_law_weight", "_law_ring", "_law_minute", "_law_late"],["_law_sky_here", "_law_order"],kU⟩
abbrev uh:DefE:=⟨"law", top 69,["_law_script", "_law_k", "_law_pot_here", "_law_meadow_here", "_law_ahead", "_law_gliders", "_law_fixed", "_law_far", "_law_some", "_law_sky_here", "_law_lacks", "_law_due", "_law_kept", "_law_turn"],["_law_script"],Fw⟩
abbrev ae:List DefE:=[gA,fe,ff,gB,dR,iH,fg,gC,dS,a7,fh,dU,iI,bV,kW,gD,cY,fj,fk,fm,fo,cZ,cg,iJ,gF,ci,bO,c6,c7,bK,bW,bX,bP,dW,kY,bG,fq,kZ,bZ,c8,iK,gG,gH,dX,iL,gI,fu,gJ,dY,gK,uh]
abbrev con:List (Str × Int):=[("LAST_MINUTE", 9999),("MOST_RINGS", 8),("MOST_SINK", 60),("MOST_KINDS", 4),("MOST_GAP", 99),("MOST_SHUTS", 4),("MOST_GLIDERS", 7),("MOST_WEIGHT", 99)]
theorem chk:ae.all (CG (ud con ae))=true:=by kernel_rfl
theorem us1:∀ {us:List Value},us.length=1->∃a0,us=[a0]
 |[a0],_=>⟨a0,rfl⟩
theorem us2:∀ {us:List Value},us.length=2->∃a0 a1,us=[a0,a1]
 |[a0,a1],_=>⟨a0,a1,rfl⟩
theorem us3:∀ {us:List Value},us.length=3->∃a0 a1 a2,us=[a0,a1,a2]
 |[a0,a1,a2],_=>⟨a0,a1,a2,rfl⟩
theorem us4:∀ {us:List Value},us.length=4->∃a0 a1 a2 a3,us=[a0,a1,a2,a3]
 |[a0,a1,a2,a3],_=>⟨a0,a1,a2,a3,rfl⟩
theorem us5:∀ {us:List Value},us.length=5->∃a0 a1 a2 a3 a4,us=[a0,a1,a2,a3,a4]
 |[a0,a1,a2,a3,a4],_=>⟨a0,a1,a2,a3,a4,rfl⟩
theorem us6:∀ {us:List Value},us.length=6->∃a0 a1 a2 a3 a4 a5,us=[a0,a1,a2,a3,a4,a5]
 |[a0,a1,a2,a3,a4,a5],_=>⟨a0,a1,a2,a3,a4,a5,rfl⟩
theorem bind:wk ae:=by
 repeat' apply And.intro
 all_goals first |trivial |(intro _ _ _ _ _ _ us hl;first |(obtain⟨_,rfl⟩:=us1 hl;rfl) |(obtain⟨_,_,rfl⟩:=us2 hl;rfl) |(obtain⟨_,_,_,rfl⟩:=us3 hl;rfl) |(obtain⟨_,_,_,_,rfl⟩:=us4 hl;rfl) |(obtain⟨_,_,_,_,_,rfl⟩:=us5 hl;rfl) |(obtain⟨_,_,_,_,_,_,rfl⟩:=us6 hl;rfl))
end Lw
section
open PySem PySem.W PyProof.Rows
noncomputable abbrev Lw.view:Program:={ PySem.Challenge.pw_downrings_k55_how_much_longer with main:={ PySem.Challenge.pw_downrings_k55_how_much_longer.main with body:=[Lw.top 69] } }
noncomputable abbrev Lw.loose:List PySem.Str:=List.map PySem.Str.ofString ["is_whole", "is_within", "is_minute", "is_tuple", "are_unlike", "without", "is_meadow", "are_gaps", "is_gap_row", "no_glider_between_helps", "are_shuts", "is_stretch", "is_kind", "first_not_shut", "is_sky", "is_ahead", "are_gliders", "is_glider", "are_fixed", "free_ones", "check_sky", "glider_cost", "landing_ahead", "gap_end", "waits_at", "how_many_wait", "joining_minutes", "is_too_high", "ring_needed", "soonest_landings", "fixed_landings", "soonest_minute", "leaves_too_late", "best_order", "joined", "best_behind", "best_with", "longer", "never_too_late", "_law_cell_at", "_law_pot", "_law_take", "_law_gaps", "_law_meadow", "_law_sky", "_law_open", "_law_waits", "_law_need", "_law_orders", "_law_lack", "LAST_MINUTE", "MOST_RINGS", "MOST_SINK", "MOST_KINDS", "MOST_GAP", "MOST_SHUTS", "MOST_GLIDERS", "MOST_WEIGHT", "RingError", "NoSky"]
set_option maxHeartbeats 0 in
theorem Lw.said:PySem.Challenge.rw_downrings_k55_how_much_longer.wellSaid=true:=by kernel_rfl
set_option maxHeartbeats 0 in
theorem Lw.head(hmain:∀ns:List Int,ns.length<=63->∃S',Ev.evC Lw.ae 40 50 [.ref 0] [.frz (ns.map Ev.D.int)]=some (.bl true,S')):PySem.Challenge.rw_downrings_k55_how_much_longer.Holds:=by
 w_on;refine holds_law Lw.said λsaid=>?_
 refine holds_open (q:=Lw.view) (loose:=Lw.loose) (Xt:=(λs=>xlAt Lw.view [] s && recOk (RowW.records PySem.Challenge.rw_downrings_k55_how_much_longer.row.toRowW) s)) (XP:=XL Lw.view []) (Yf:=(Hook.obs (Ev.oq Lw.con Lw.ae Lw.bind))) (Ya:=(Hook.val (Ev.oq Lw.con Lw.ae Lw.bind))) (YP:=Hook.says (Ev.oq Lw.con Lw.ae Lw.bind)) (N:=12000) ?hl (Hook.of _) (Hook.keeps _) (λs e=>xl_of s (Xr.mp e).1) XL.keeps (by rfl) (by rfl) (by rfl) (λs e=>recFacts_of (Xr.mp e).2) (by rfl) (by first |assumption |decide +kernel) (by decide +kernel) ⟨rfl,rfl,rfl,rfl,rfl,by decide +kernel⟩ ?hw ?hc
 case hw=>w_witness2
 case hl=>exactλw=>by kernel_rfl
 case hc=>exact Ev.CL (l:=PySem.Challenge.rw_downrings_k55_how_much_longer) (n:=63) (k:=40) (i:=50) (dl:=Lw.uh) rfl (by decide) rfl ⟨rfl,by decide,by decide,rfl⟩ rfl rfl rfl Lw.chk hmain
end
namespace Ev
open PySem PySem.Spec PyProof.Rows L2
def Ok{α:Type}(x:Option (α × Sto))(Q:α->Sto->Prop):Prop:=∃a S,x=some (a,S)/\Q a S
def OkS(x:Option (Fl × Rho × Sto))(Q:Fl->Rho->Sto->Prop):Prop:=∃f ρ S,x=some (f,ρ,S)/\Q f ρ S
section
variable {α β:Type} {S S':Sto} {ρ ρ':Rho}
theorem aH{a:α}{Q:α->Sto->Prop}:Ok (some (a,S)) Q=Q a S:=by
 apply propext;exact⟨λ⟨_,_,e,q⟩=>by cases e;exact q,λq=>⟨a,S,rfl,q⟩⟩
theorem aX{Q:α->Sto->Prop}:Ok none Q=False:=propext ⟨λ⟨_,_,e,_⟩=>(nomatch e),λh=>h.elim⟩
theorem bz{x:Option (α × Sto)}{f:α->Sto->Option (β × Sto)}{Q:β->Sto->Prop}:Ok (bnd x f) Q=Ok x λa S=>Ok (f a S) Q:=by
 apply propext;constructor
 ·rintro⟨b,S',e,q⟩;obtain⟨a,S,e1,e2⟩:=ab e;exact⟨a,S,e1,b,S',e2,q⟩
 ·rintro⟨a,S,e1,b,S',e2,q⟩;exact⟨b,S',by rw[e1];exact e2,q⟩
theorem cI{c:Prop}[Decidable c]{x y:Option (α × Sto)}{Q:α->Sto->Prop}:Ok (if c then x else y) Q=if c then Ok x Q else Ok y Q:=by split <;> rfl
theorem HU{x:Option β}{f:β->α × Sto}{Q:α->Sto->Prop}:Ok (x.map f) Q=∃b,x=some b/\Q (f b).1 (f b).2:=by
 apply propext;cases x with
 |none=>exact⟨λ⟨_,_,e,_⟩=>(nomatch e),λ⟨_,e,_⟩=>(nomatch e)⟩
 |some b=>exact⟨λ⟨a,S,e,q⟩=>⟨b,rfl,by have e':=Option.some.inj e;rw[e'];exact q⟩,λ⟨b',e,q⟩=>by cases e;exact⟨_,_,rfl,q⟩⟩
theorem Ok.mono{x:Option (α × Sto)}{Q Q':α->Sto->Prop}(h:Ok x Q)(f:∀a S,Q a S->Q' a S):Ok x Q':=let ⟨a,S,e,q⟩:=h;⟨a,S,e,f a S q⟩
theorem OkS.mono{x:Option (Fl × Rho × Sto)}{Q Q':Fl->Rho->Sto->Prop}(h:OkS x Q)(f:∀a ρ S,Q a ρ S->Q' a ρ S):OkS x Q':=let ⟨a,ρ,S,e,q⟩:=h;⟨a,ρ,S,e,f a ρ S q⟩
def nxt(y:XS)(Q:Fl->Rho->Sto->Prop)(f:Fl)(ρ:Rho)(S:Sto):Prop:=match f with
 |.nx=>OkS (y ρ S) Q
 |f=>Q f ρ S
theorem CM{x y:XS}{Q:Fl->Rho->Sto->Prop}:OkS (yy x y ρ S) Q=OkS (x ρ S) (nxt y Q):=by
 apply propext;unfold yy;constructor
 ·rintro⟨f,ρ1,S1,e,q⟩;split at e
  ·cases e
  ·rename_i ρ2 S2 h;exact⟨_,_,_,h,f,ρ1,S1,e,q⟩
  ·rename_i r n h;cases e;cases f with
   |nx=>exact absurd rfl (n ρ1 S1)
   |_=>exact⟨_,_,_,h,q⟩
 ·rintro⟨f,ρ1,S1,e,q⟩;rw[e];cases f with
  |nx=>exact q
  |_=>exact⟨_,_,_,rfl,q⟩
theorem HV{c:XT}{x y:XS}{Q:Fl->Rho->Sto->Prop}:OkS (xIf c x y ρ S) Q=Ok (c ρ S) λb S1=>if b=true then OkS (x ρ S1) Q else OkS (y ρ S1) Q:=by
 apply propext;unfold xIf;constructor
 ·rintro⟨f,ρ1,S1,e,q⟩;cases h:c ρ S with
  |none=>rw[h] at e;cases e
  |some r=>
   obtain⟨b,S2⟩:=r;rw[h] at e;refine⟨b,S2,rfl,?_⟩;dsimp only at e ⊢;split
   ·rename_i hb;rw[if_pos hb] at e;exact⟨f,ρ1,S1,e,q⟩
   ·rename_i hb;rw[if_neg hb] at e;exact⟨f,ρ1,S1,e,q⟩
 ·rintro⟨b,S2,e,q⟩;rw[e];dsimp only;split
  ·rename_i hb;rw[if_pos hb] at q;exact q
  ·rename_i hb;rw[if_neg hb] at q;exact q
theorem CN{x:XE}{t:Tg}{Q:Fl->Rho->Sto->Prop}:OkS (kl x t ρ S) Q=Ok (x ρ S) λd S1=>∃ρ1,ax t d ρ=some ρ1/\Q .nx ρ1 S1:=by
 apply propext;unfold kl;constructor
 ·rintro⟨f,ρ1,S1,e,q⟩;cases h:x ρ S with
  |none=>rw[h] at e;cases e
  |some r=>
   obtain⟨d,S2⟩:=r;rw[h] at e;dsimp only at e;cases h2:ax t d ρ with
   |none=>rw[h2] at e;cases e
   |some ρ2=>rw[h2] at e;cases e;exact⟨d,_,rfl,ρ1,h2,q⟩
 ·rintro⟨d,S2,e,ρ1,e2,q⟩;rw[e];dsimp only;rw[e2];exact⟨_,_,_,rfl,q⟩
theorem zu{x:XE}{Q:Fl->Rho->Sto->Prop}:OkS (p0 x ρ S) Q=Ok (x ρ S) λ_ S1=>Q .nx ρ S1:=by
 apply propext;unfold p0;constructor
 ·rintro⟨f,ρ1,S1,e,q⟩;cases h:x ρ S with
  |none=>rw[h] at e;cases e
  |some r=>rw[h] at e;cases e;exact⟨_,_,rfl,q⟩
 ·rintro⟨d,S2,e,q⟩;rw[e];exact⟨_,_,_,rfl,q⟩
theorem CO{x:XE}{Q:Fl->Rho->Sto->Prop}:OkS (yz x ρ S) Q=Ok (x ρ S) λd S1=>Q (.rt d) ρ S1:=by
 apply propext;unfold yz;constructor
 ·rintro⟨f,ρ1,S1,e,q⟩;cases h:x ρ S with
  |none=>rw[h] at e;cases e
  |some r=>rw[h] at e;cases e;exact⟨_,_,rfl,q⟩
 ·rintro⟨d,S2,e,q⟩;rw[e];exact⟨_,_,_,rfl,q⟩
theorem zv{v o i:XE}{Q:Fl->Rho->Sto->Prop}:OkS (p9 v o i ρ S) Q=Ok (v ρ S) λa S1=>Ok (o ρ S1) λb S2=>Ok (i ρ S2) λc S3=>∃S4,iB b c a S3=some S4/\Q .nx ρ S4:=by
 apply propext;unfold p9;constructor
 ·rintro⟨f,ρ1,S1,e,q⟩;cases h:v ρ S with
  |none=>rw[h] at e;cases e
  |some r=>
   rw[h] at e;dsimp only at e;cases h2:o ρ r.2 with
   |none=>rw[h2] at e;cases e
   |some r2=>
    rw[h2] at e;dsimp only at e;cases h3:i ρ r2.2 with
    |none=>rw[h3] at e;cases e
    |some r3=>
     rw[h3] at e;dsimp only at e;cases h4:iB r2.1 r3.1 r.1 r3.2 with
     |none=>rw[h4] at e;cases e
     |some S4=>rw[h4] at e;cases e;exact⟨_,_,rfl,_,_,h2,_,_,h3,_,h4,q⟩
 ·rintro⟨a,S1,e1,b,S2,e2,c,S3,e3,S4,e4,q⟩;rw[e1];dsimp only;rw[e2];dsimp only;rw[e3];dsimp only;rw[e4];exact⟨_,_,_,rfl,q⟩
theorem CP{it:XI}{tg:Tg}{b:XS}{k:Nat}{Q:Fl->Rho->Sto->Prop}:OkS (yA it tg b k ρ S) Q=Ok (it ρ S) λnx S1=>OkS (eI nx tg b k 0 ρ S1) Q:=by
 apply propext;unfold yA;constructor
 ·rintro⟨f,ρ1,S1,e,q⟩;cases h:it ρ S with
  |none=>rw[h] at e;cases e
  |some r=>rw[h] at e;exact⟨_,_,rfl,_,_,_,e,q⟩
 ·rintro⟨d,S2,e,q⟩;rw[e];exact q
def out(Q:D->Sto->Prop)(f:Fl)(_:Rho)(S:Sto):Prop:=match f with
 |.rt v=>Q v S
 |.nx=>Q .non S
 |_=>False
theorem HW{Q:D->Sto->Prop}{d:D}:out Q (.rt d) ρ S=Q d S:=rfl
theorem HX{Q:D->Sto->Prop}:out Q .nx ρ S=Q .non S:=rfl
theorem aA{ae:List DefE}{k f:Nat}{d:DefE}{ds:List D}{Q:D->Sto->Prop}(hd:ae[f]?=some d)(hρ:ds.map some++Zw (d.N.length - ds.length) none=ρ)(h:OkS (gy (evC ae k) (jk ae) 60 d.body ρ S) (out Q)):Ok (evC ae (k+1) f ds S) Q:=by
 subst hρ;simp only[evC,hd,HQ];obtain⟨fl,ρ1,S1,e,q⟩:=h;show Ok (match gy (evC ae k) (jk ae) FU d.body _ S with |some (.rt v,_,S')=>some (v,S') |some (.nx,_,S')=>some (.non,S') |_=>none) Q;unfold FU;rw[e];cases fl with
 |rt v=>exact⟨_,_,rfl,q⟩
 |nx=>exact⟨_,_,rfl,q⟩
 |bk=>exact q.elim
 |ct=>exact q.elim
theorem mS{nx:Nxt}{tg:Tg}{c:XA}{N:Nat}(I:Nat->List D->Sto->Prop)
  (step:∀i acc S,i < N->I i acc S->∃d ρ1,nx i S=some (some d)/\ax tg d ρ=some ρ1/\Ok (c ρ1 S) λes S1=>I (i+1) (acc++es) S1) (stop:∀acc S,I N acc S->nx N S=some none) :
  ∀ (n i k:Nat) (acc:List D) (S:Sto),N=i+n->n < k->I i acc S->Ok (be nx tg c ρ k i S) λes S'=>I N (acc++es) S'
 |0,i,k+1,acc,S,hN,hk,h=>by
  obtain rfl:N=i:=by omega
  simp only[be,stop acc S h];exact⟨_,_,rfl,by show I _ (acc++[]) S;rw[ZW];exact h⟩
 |n+1,i,k+1,acc,S,hN,hk,h=>by
  obtain⟨d,ρ1,e1,e2,es,S1,e3,h'⟩:=step i acc S (by omega) h;simp only[be,e1,e2,e3,bnd];obtain⟨rs,S2,e4,h2⟩:=mS I step stop n (i+1) k (acc++es) S1 (by omega) (by omega) h';simp only[e4];exact⟨_,_,rfl,by show I _ (acc++(es++rs)) S2;rw[<-Yz];exact h2⟩
theorem fv{nx:Nxt}{tg:Tg}{c:XA}{k:Nat}(N:Nat)(I:Nat->List D->Sto->Prop)(hk:N < k)
  (step:∀i acc S,i < N->I i acc S->∃d ρ1,nx i S=some (some d)/\ax tg d ρ=some ρ1/\Ok (c ρ1 S) λes S1=>I (i+1) (acc++es) S1) (stop:∀acc S,I N acc S->nx N S=some none) (h:I 0 [] S) :
  Ok (be nx tg c ρ k 0 S) (I N):=(mS I step stop N 0 k [] S (by omega) hk h).mono λes S' z=>by rw[Xl] at z;exact z
theorem k6{nx:Nxt}{tg:Tg}{b:XS}{N:Nat}{Q:Fl->Rho->Sto->Prop}(I:Nat->Rho->Sto->Prop)
  (step:∀i ρ S,i < N->I i ρ S->∃d ρ1,nx i S=some (some d)/\ax tg d ρ=some ρ1/\OkS (b ρ1 S) λfl ρ2 S2=>match fl with |.nx=>I (i+1) ρ2 S2 |.ct=>I (i+1) ρ2 S2 |.bk=>Q .nx ρ2 S2 |.rt d=>Q (.rt d) ρ2 S2)
  (stop:∀ρ S,I N ρ S->nx N S=some none/\Q .nx ρ S) :
  ∀ (n i k:Nat) (ρ:Rho) (S:Sto),N=i+n->n < k->I i ρ S->OkS (eI nx tg b k i ρ S) Q
 |0,i,k+1,ρ,S,hN,hk,h=>by
  obtain rfl:N=i:=by omega
  simp only[eI,(stop ρ S h).1];exact⟨_,_,_,rfl,(stop ρ S h).2⟩
 |n+1,i,k+1,ρ,S,hN,hk,h=>by
  obtain⟨d,ρ1,e1,e2,fl,ρ2,S2,e3,h'⟩:=step i ρ S (by omega) h;simp only[eI,e1,e2,e3];cases fl with
  |nx=>exact k6 I step stop n (i+1) k ρ2 S2 (by omega) (by omega) h'
  |ct=>exact k6 I step stop n (i+1) k ρ2 S2 (by omega) (by omega) h'
  |bk=>exact⟨_,_,_,rfl,h'⟩
  |rt d=>exact⟨_,_,_,rfl,h'⟩
theorem jx{nx:Nxt}{tg:Tg}{b:XS}{k:Nat}{Q:Fl->Rho->Sto->Prop}(N:Nat)(I:Nat->Rho->Sto->Prop)(hk:N < k)
  (step:∀i ρ S,i < N->I i ρ S->∃d ρ1,nx i S=some (some d)/\ax tg d ρ=some ρ1/\OkS (b ρ1 S) λfl ρ2 S2=>match fl with |.nx=>I (i+1) ρ2 S2 |.ct=>I (i+1) ρ2 S2 |.bk=>Q .nx ρ2 S2 |.rt d=>Q (.rt d) ρ2 S2)
  (stop:∀ρ S,I N ρ S->nx N S=some none/\Q .nx ρ S) (h:I 0 ρ S):OkS (eI nx tg b k 0 ρ S) Q:=k6 I step stop N 0 k ρ S (by omega) hk h
end
mutual
def TD(p:Nat)(S:Sto):Dw.D->D->Prop
 |.non,d=>d = .non
 |.bl b,d=>d = .bl b
 |.int i,d=>d = .int i
 |.str x,d=>d = .str x
 |.tup ts,d=>∃ds,d = .tup ds/\TDs p S ts ds
 |.lst ts,d=>∃n ds,d = .ref n/\n ≠ p/\S[n]?=some (.lst ds)/\TDs p S ts ds
 |.dic _ _,_=>False
def TDs(p:Nat)(S:Sto):List Dw.D->List D->Prop
 |[],ds=>ds=[]
 |t::ts,ds=>∃d r,ds=d::r/\TD p S t d/\TDs p S ts r
end
def Kp(p:Nat)(S S':Sto):Prop:=∀i o,i ≠ p->S[i]?=some o->S'[i]?=some o
def Sm(S S':Sto):Prop:=∀ (i:Nat) (o:Ob),S[i]?=some o->S'[i]?=some o
theorem Sm.kp{p:Nat}{S S':Sto}(h:Sm S S'):Kp p S S':=λi o _ e=>h i o e
theorem Sm.refl(S:Sto):Sm S S:=λ_ _ e=>e
theorem Sm.trans{S S1 S2:Sto}(a:Sm S S1)(b:Sm S1 S2):Sm S S2:=λi o e=>b i o (a i o e)
theorem Sm.app(S X:Sto):Sm S (S++X):=λi o e=>by
 have hi:=(Zb.mp e).1;rw[Zu hi];exact e
theorem Kp.refl(p:Nat)(S:Sto):Kp p S S:=λ_ _ _ e=>e
theorem Kp.trans{p:Nat}{S S1 S2:Sto}(a:Kp p S S1)(b:Kp p S1 S2):Kp p S S2:=λi o n e=>b i o n (a i o n e)
section
variable {p:Nat} {S S':Sto}
theorem zw:TD p S .non .non:=by rw[TD]
theorem bp{i:Int}:TD p S (.int i) (.int i):=by rw[TD]
theorem bA{ts:List Dw.D}{ds:List D}(h:TDs p S ts ds):TD p S (.tup ts) (.tup ds):=by rw[TD];exact⟨ds,rfl,h⟩
theorem bI:TDs p S [] []:=by rw[TDs]
theorem ao{t:Dw.D}{d:D}{ts:List Dw.D}{ds:List D}(h:TD p S t d)(q:TDs p S ts ds):TDs p S (t::ts) (d::ds):=by rw[TDs];exact⟨d,ds,rfl,h,q⟩
theorem TD.non{d:D}(h:TD p S .non d):d = .non:=by rw[TD] at h;exact h
theorem TD.bl{b:Bool}{d:D}(h:TD p S (.bl b) d):d = .bl b:=by rw[TD] at h;exact h
theorem TD.int{i:Int}{d:D}(h:TD p S (.int i) d):d = .int i:=by rw[TD] at h;exact h
theorem TD.str{x:Str}{d:D}(h:TD p S (.str x) d):d = .str x:=by rw[TD] at h;exact h
theorem TD.tup{ts:List Dw.D}{d:D}(h:TD p S (.tup ts) d):∃ds,d = .tup ds/\TDs p S ts ds:=by rw[TD] at h;exact h
theorem TDs.cons{t:Dw.D}{ts:List Dw.D}{ds:List D}(h:TDs p S (t::ts) ds):∃d r,ds=d::r/\TD p S t d/\TDs p S ts r:=by rw[TDs] at h;exact h
theorem TDs.nil{ds:List D}(h:TDs p S [] ds):ds=[]:=by rw[TDs] at h;exact h
theorem TDs.len:∀ {ts:List Dw.D} {ds:List D},TDs p S ts ds->ds.length=ts.length
 |[],_,h=>by rw[h.nil];rfl
 |t::ts,_,h=>by obtain⟨d,r,rfl,_,q⟩:=h.cons;simp[q.len]
abbrev tyT:Dw.D->String
 |.non => "NoneType" |.bl _ => "bool" |.int _ => "int" |.str _ => "str" |.tup _ => "tuple" |.lst _ => "list" |.dic _ _ => "dict"
theorem Mq{t:Dw.D}{d:D}(h:TD p S t d):tyN d S=some (tyT t):=by
 cases t with
 |non=>rw[h.non];rfl
 |bl _=>rw[h.bl];rfl
 |int _=>rw[h.int];rfl
 |str _=>rw[h.str];rfl
 |tup _=>obtain⟨_,rfl,_⟩:=h.tup;rfl
 |lst _=>rw[TD] at h;obtain⟨n,ds,rfl,_,e,_⟩:=h;simp only[tyN,e];rfl
 |dic _ _=>rw[TD] at h;exact h.elim
theorem ou{ty:Ty}{t:Dw.D}{d:D}(h:TD p S t d):j8 ty d S=some (.bl (eX ty (tyT t)),S):=by
 unfold j8;rw[Mq h];rfl
end
theorem CQ{n:Nat}:Ok (qc g n x ρ S) Q=Ok (x ρ S) λds S1=>ds.length=n/\Ok (g ds S1) Q:=by
 unfold qc;rw[bz]
 congr 1
 funext ds S1
 rw[cI,aX];apply propext;split
 ·rename_i h;exact⟨λz=>⟨h,z⟩,λz=>z.2⟩
 ·rename_i h;exact⟨λz=>z.elim,λz=>(h z.1).elim⟩
theorem HY:Ok (yE x y ρ S) Q=Ok (x ρ S) λd S1=>∃b,d = .bl b/\if b=true then Ok (y ρ S1) Q else Q (.bl false) S1:=by
 unfold yE;rw[bz]
 congr 1
 funext d S1
 apply propext;cases d with
 |bl b=>cases b <;> simp[aH]
 |_=>simp[aX]
theorem Mr:Ok (xOr x y ρ S) Q=Ok (x ρ S) λd S1=>∃b,d = .bl b/\if b=true then Q (.bl true) S1 else Ok (y ρ S1) Q:=by
 unfold xOr;rw[bz]
 congr 1
 funext d S1
 apply propext;cases d with
 |bl b=>cases b <;> simp[aH]
 |_=>simp[aX]
theorem HZ:Ok (vW d S) Q=∃b,d = .bl b/\Q (.bl (!b)) S:=by
 apply propext;cases d with
 |bl b=>simp[vW,aH]
 |_=>simp[vW,aX]
theorem H8:Ok (vX f g x y z ρ S) Q=Ok (x ρ S) λa S1=>Ok (y ρ S1) λb S2=>Ok (f a b S2) λr S3=>∃c,r = .bl c/\if c=true then Ok (z ρ S3) λe S4=>Ok (g b e S4) Q else Q (.bl false) S3:=by
 unfold vX;rw[bz]
 congr 1
 funext a S1
 rw[bz]
 congr 1
 funext b S2
 rw[bz]
 congr 1
 funext r S3
 apply propext;cases r with
 |bl c=>cases c <;> simp[aH,bz]
 |_=>simp[aX]
theorem Ia{i:Nat}:Ok (vB i ρ S) Q=∃d,ρ[i]?=some (some d)/\Q d S:=by
 apply propext;unfold vB;cases h:ρ[i]? with
 |none=>simp[aX]
 |some o=>cases o with
  |none=>simp[aX]
  |some d=>simp[aH]
theorem Ms{i j:Int}:Ok (am .le (.int i) (.int j) S) Q=Q (.bl (decide (i<=j))) S:=aH
theorem Mu{i j:Int}:Ok (am .lt (.int i) (.int j) S) Q=Q (.bl (decide (i < j))) S:=aH
theorem Mv{i j:Int}:Ok (am .gt (.int i) (.int j) S) Q=Q (.bl (decide (j < i))) S:=aH
theorem Mw{i j:Int}:Ok (am .ge (.int i) (.int j) S) Q=Q (.bl (decide (j<=i))) S:=aH
theorem Ib{i j:Int}:Ok (bE .add (.int i) (.int j) S) Q=Q (.int (i+j)) S:=aH
theorem Ic{i j:Int}:Ok (bE .sub (.int i) (.int j) S) Q=Q (.int (i - j)) S:=aH
theorem Mx:Ok (xB x ρ S) Q=Ok (x ρ S) λd S1=>∃b,d = .bl b/\Q b S1:=by
 unfold xB;rw[bz]
 congr 1
 funext d S1
 apply propext;cases d with
 |bl b=>simp[aH]
 |_=>simp[aX]
theorem CT{own k:Nat}:Ok (km own it tg c k ρ S) Q=Ok (it ρ S) λnx S1=>cN tg (ρ++Zw own none)=true/\Ok (be nx tg c (ρ++Zw own none) k 0 S1) λes S2=>es.length<=100000/\Q es S2:=by
 unfold km;rw[bz]
 congr 1
 funext nx S1
 rw[cI,aX];apply propext
 have e:Ok (bnd (be nx tg c (ρ++Zw own none) k 0 S1) λes S2=>if es.length<=100000 then some (es,S2) else none) Q=Ok (be nx tg c (ρ++Zw own none) k 0 S1) λes S2=>es.length<=100000/\Q es S2:=by
  rw[bz]
  congr 1
  funext es S2
  rw[cI,aX,aH];apply propext;split
  ·rename_i h;exact⟨λz=>⟨h,z⟩,λz=>z.2⟩
  ·rename_i h;exact⟨λz=>z.elim,λz=>(h z.1).elim⟩
 rw[e];split
 ·rename_i h;exact⟨λz=>⟨h,z⟩,λz=>z.2⟩
 ·rename_i h;exact⟨λz=>z.elim,λz=>(h z.1).elim⟩
theorem zx{k:Nat}:Ok (iC it tg c k ρ S) Q=(cN tg ρ=true/\Ok (it ρ S) λnx S1=>Ok (be nx tg c ρ k 0 S1) Q):=by
 unfold iC;rw[cI,aX,bz];apply propext;split
 ·rename_i h;exact⟨λz=>⟨h,z⟩,λz=>z.2⟩
 ·rename_i h;exact⟨λz=>z.elim,λz=>(h z.1).elim⟩
theorem CU:Ok (mq x ρ S) Q=Ok (x ρ S) λds S1=>ds.length<=1000/\Q ds S1:=by
 unfold mq;rw[bz]
 congr 1
 funext ds S1
 rw[cI,aX,aH];apply propext;split
 ·rename_i h;exact⟨λz=>⟨h,z⟩,λz=>z.2⟩
 ·rename_i h;exact⟨λz=>z.elim,λz=>(h z.1).elim⟩
theorem CV:Ok (jg ds S) Q=(ds.length<=1000/\Q (.tup ds) S):=by
 unfold jg;rw[cI,aX,aH];apply propext;split
 ·rename_i h;exact⟨λz=>⟨h,z⟩,λz=>z.2⟩
 ·rename_i h;exact⟨λz=>z.elim,λz=>(h z.1).elim⟩
theorem ow{α:Type}(l:List α)(g:α->Bool)(S:Sto):ji false (l.map λt=>D.bl (g t)) S=some (.bl (l.all g),S):=by
 unfold ji;have h1:(l.map λt=>D.bl (g t)).all yg=true:=by rw[YW];simp[Function.comp_def,yg]
 have h2:(l.map λt=>D.bl (g t)).all vH=l.all g:=by rw[YW];rfl
 rw[if_pos ⟨rfl,h1⟩,h2]
theorem CW{S:Sto}{n:Nat}{lo:Int}{tg:Tg}{c:XA}{ρ:Rho}{Q:List D->Sto->Prop}(hl:n<=100000)(g:Nat->Bool)
  (step:∀ (i:Nat) S',i < n->Sm S S'->∃ρ1,ax tg (.int (lo+i)) ρ=some ρ1/\Ok (c ρ1 S') λes S1=>es=[.bl (g i)]/\Sm S' S1) (q:∀S',Sm S S'->Q ((Zl n).map λi=>.bl (g i)) S') :
  Ok (be (nxR lo n) tg c ρ LF 0 S) λes S2=>es.length<=100000/\Q es S2:=by
 refine(fv n (λi acc S'=>Sm S S'/\acc=(Zl i).map λt=>.bl (g t)) (by unfold LF;lia) (λi acc S' hi ⟨sm,ea⟩=>?_) (λacc S' ⟨sm,ea⟩=>?_) ⟨Sm.refl S,by simp⟩).mono λes S' ⟨sm,ea⟩=>?_
 ·obtain⟨ρ1,e2,es,S1,e3,rfl,sm'⟩:=step i S' hi sm;refine⟨_,ρ1,by show some (if i < n then some (D.int (lo+i)) else none)=_;rw[if_pos hi],e2,_,S1,e3,sm.trans sm',?_⟩;rw[ea,Xm,ZP];rfl
 ·show some (if n < n then some (D.int (lo+n)) else none)=_;rw[if_neg (ZN n)]
 ·subst ea;exact⟨by rw[Za,ZJ];exact hl,q S' sm⟩
theorem sx{m n:Nat}(hm:S[m]?=some (.lst ((Zl n).map λj=>.int (Int.ofNat j))))(hn:n<=1000)(f:Nat->List D)
  (step:∀ (i:Nat) S',i < n->Sm S S'->∃ρ1,ax tg (.int i) ρ=some ρ1/\Ok (c ρ1 S') λes S1=>es=f i/\Sm S' S1):Ok (be (nxS m) tg c ρ LF 0 S) λes S2=>es=(Zl n).flatMap f/\Sm S S2:=by
 refine(fv n (λi acc S'=>Sm S S'/\acc=(Zl i).flatMap f) (by unfold LF;lia) (λi acc S' hi ⟨sm,ea⟩=>?_) (λacc S' ⟨sm,ea⟩=>?_) ⟨Sm.refl S,by simp⟩).mono λes S' ⟨sm,ea⟩=>⟨ea,sm⟩
 ·obtain⟨ρ1,e2,es,S1,e3,rfl,sm'⟩:=step i S' hi sm;refine⟨.int i,ρ1,?_,e2,_,S1,e3,sm.trans sm',?_⟩
  ·show(ak S' m).map (λds=>ds[i]?)=_;simp only[ak,sm _ _ hm,ZA,Zo,Yp hi];rfl
  ·rw[ea,Dw.mj]
 ·show(ak S' m).map (λds=>ds[n]?)=_;simp only[ak,sm _ _ hm,ZA];rw[Zs (by simp)]
theorem zy:Ok (dH x ρ S) Q=Ok (x ρ S) λds S1=>Q (.ref S1.length) (S1++[.lst ds]):=by
 unfold dH;rw[bz]
 congr 1
 funext ds S1
 rw[aH]
theorem Ie(h:Ok (x ρ S) λd S1=>∃i:Nat,d = .int i/\i<=1000/\Q ((Zl i).map λj=>.int (Int.ofNat j)) S1):Ok (v8 x ρ S) Q:=by
 unfold v8;rw[bz];refine h.mono λd S1 ⟨i,e,hi,q⟩=>?_;subst e;dsimp only;rw[if_pos (by lia),aH,ZE];exact q
theorem qt(is:List Int):(is.map D.int).all cb=true:=by rw[YW];simp[Function.comp_def,cb]
theorem zz(is:List Int)(i:Int)(S:Sto):rT (.tup (is.map D.int)) [.int i] S=some (.int (is.count i:Nat),S):=by
 have e:((is.map D.int).countP λz=>eqF z (.int i))=is.count i:=by
  rw[List.countP_map];unfold List.count
  congr 1
 simp only[rT];rw[if_pos ⟨rfl,qt is⟩,e]
theorem oz(neg:Bool)(is:List Int)(i:Int)(S:Sto):inS neg (.int i) (.tup (is.map D.int)) S=some (.bl (neg != decide (i ∈ is)),S):=by
 have e:inF (.int i) (is.map D.int)=decide (i ∈ is):=by
  unfold inF;rw[List.any_map,YT,Y9];simp only[Function.comp_def,eqF,beq_iff_eq,decide_eq_true_eq];exact⟨λ⟨x,hx,e⟩=>e ▸ hx,λh=>⟨i,h,rfl⟩⟩
 simp only[inS,ay];rw[if_pos ⟨rfl,qt is⟩,e]
theorem CY(i j:Int)(S:Sto):am .eq (.int i) (.int j) S=some (.bl (decide (i=j)),S):=by
 simp only[am,eqS];have:eqD 60 S (.int i) (.int j)=some (i == j):=rfl;rw[this];rfl
theorem CZ(i j:Int)(S:Sto):am .ne (.int i) (.int j) S=some (.bl (!decide (i=j)),S):=lV (x:=.int i) (y:=.int j) (b:=decide (i=j)) rfl
theorem Ig{i j:Int}:Ok (am .eq (.int i) (.int j) S) Q=Q (.bl (decide (i=j))) S:=by rw[CY,aH]
theorem Ih{i j:Int}:Ok (am .ne (.int i) (.int j) S) Q=Q (.bl (!decide (i=j))) S:=by rw[CZ,aH]
theorem C0{i:Nat}:ax (.name i) d ρ=if i < ρ.length then some (ρ.set i (some d)) else none:=by simp only[ax]
theorem zA:ax (.tup ts) (.tup ds) ρ=aO ts ds ρ:=by simp only[ax]
theorem ui:aO [] [] ρ=some ρ:=by simp only[aO]
theorem qu{i:Nat}:aO (.name i::ts) (d::ds) ρ=if i < ρ.length then aO ts ds (ρ.set i (some d)) else none:=by
 simp only[aO,ax];split
 ·rename_i ρ' h;split at h
  ·rename_i hc;cases h;rw[if_pos hc]
  ·cases h
 ·rename_i h;split at h
  ·cases h
  ·rename_i hc;rw[if_neg hc]
theorem fw{i j:Nat}(h1:i < ρ.length)(h2:j < ρ.length):ax (.tup [.name i,.name j]) (.tup [a,b]) ρ=some ((ρ.set i (some a)).set j (some b)):=by
 rw[zA,qu,if_pos h1,qu,if_pos (by rw[ZY];exact h2),ui]
theorem aM{a:Nat}(h:S[a]?=some (.lst es)):ak S a=some es:=by simp only[ak,h]
theorem C1{a b n:Nat}(h1:S[a]?=some (.lst es))(h2:S[b]?=some (.lst []))(hn:a ≠ b):eqD (n+1) S (.ref a) (.ref b)=some es.isEmpty:=by
 show(match ak S a,ak S b with |some xs,some ys=>if a=b then some true else if xs.length=ys.length then eqL (eqD n S) xs ys else some false |_,_=>none)=_;rw[aM h1,aM h2];show(if a=b then some true else if es.length=([]:List D).length then eqL (eqD n S) es [] else some false)=_;rw[if_neg hn];cases es with
 |nil=>simp[eqL]
 |cons x xs=>simp
theorem Ii{a b:Nat}(h1:S[a]?=some (.lst es))(h2:S[b]?=some (.lst []))(hn:a ≠ b):am .ne (.ref a) (.ref b) S=some (.bl (!es.isEmpty),S):=lV (C1 h1 h2 hn)
theorem zB(ds:List D)(k:Nat)(hk:k<=ds.length):gk ds none (some (k:Int))=ds.take k:=by
 unfold gk;rw[Dw.xR _ _ (by lia),ZE,X4 hk];rfl
theorem Ij{p:Nat}(h:TDs p S ts ds):ai cB (.tup ds) S=some (.int ts.length,S):=by
 simp only[ai,ay,cB,h.len]
section
variable {S S' S1 S2:Sto} {p:Nat} {Q:D->Sto->Prop} {ρ:Rho}
theorem Ik{i j:Int}:Ok (bE .mod (.int i) (.int j) S) Q=(0 < j/\Q (.int (i % j)) S):=by
 simp only[bE,GY,cI,aH,aX];apply propext;split
 ·rename_i h;exact⟨λz=>⟨h,z⟩,λz=>z.2⟩
 ·rename_i h;exact⟨λz=>z.elim,λz=>(h z.1).elim⟩
theorem C2{i j:Int}:Ok (bE .fdiv (.int i) (.int j) S) Q=((0 < j/\j < 1298074214633706907132624082305024)/\Q (.int (i / j)) S):=by
 simp only[bE,yb,cI,aH,aX];apply propext;split
 ·rename_i h;exact⟨λz=>⟨h,z⟩,λz=>z.2⟩
 ·rename_i h;exact⟨λz=>z.elim,λz=>(h z.1).elim⟩
theorem Il{i j:Int}:Ok (bE .mul (.int i) (.int j) S) Q=(fX i j=true/\Q (.int (i * j)) S):=by
 simp only[bE,pR,cI,aH,aX];apply propext;split
 ·rename_i h;exact⟨λz=>⟨h,z⟩,λz=>z.2⟩
 ·rename_i h;exact⟨λz=>z.elim,λz=>(h z.1).elim⟩
theorem Im{i j:Int}:Ok (bE .pow (.int i) (.int j) S) Q=((0<=j/\j<=1000000/\i.natAbs < 2 ^ 64)/\Q (.int (i ^ j.toNat)) S):=by
 simp only[bE,GZ,cI,aH,aX];apply propext;split
 ·rename_i h;exact⟨λz=>⟨h,z⟩,λz=>z.2⟩
 ·rename_i h;exact⟨λz=>z.elim,λz=>(h z.1).elim⟩
theorem uj{i j:Int}(h1:-(2 ^ 64) < j)(h2:j < 2 ^ 64):fX i j=true:=by simp only[fX,YH,bAE,decide_eq_true_eq];exact .inr ⟨h1,h2⟩
theorem oB{i j:Int}(h1:-(2 ^ 64) < i)(h2:i < 2 ^ 64):fX i j=true:=by simp only[fX,YH,bAE,decide_eq_true_eq];exact .inl ⟨h1,h2⟩
def Pot(p:Nat)(S:Sto):Prop:=∃n:Int,S[p]?=some (.lst [.int n])
structure Dr(p:Nat)(S S':Sto):Prop where
 kp:Kp p S S'
 pot:Pot p S'
theorem Dr.refl(h:Pot p S):Dr p S S:=⟨Kp.refl p S,h⟩
theorem Dr.trans(a:Dr p S S1)(b:Dr p S1 S2):Dr p S S2:=⟨a.kp.trans b.kp,b.pot⟩
theorem Dr.sm(h:Pot p S)(s:Sm S S'):Dr p S S':=⟨s.kp,let ⟨n,e⟩:=h;⟨n,s _ _ e⟩⟩
theorem Dr.thenSm(a:Dr p S S1)(s:Sm S1 S2):Dr p S S2:=a.trans (Dr.sm a.pot s)
theorem Pot.lt(h:Pot p S):p < S.length:=let ⟨_,e⟩:=h;(Zb.mp e).1
theorem Io:Kp p S (S.set p o):=λi u n e=>by rw[Zq (Ne.symm n)];exact e
theorem c9(h:p < S.length):(S.set p o)[p]?=some o:=by rw[ZR h]
theorem hZ{n:Nat}{lo:Int}{tg:Tg}{b:XS}{Q:Fl->Rho->Sto->Prop}(hl:n<=100000)(I:Nat->Rho->Sto->Prop)
  (step:∀ (i:Nat) ρ S,i < n->I i ρ S->∃ρ1,ax tg (.int (lo+i)) ρ=some ρ1/\OkS (b ρ1 S) λfl ρ2 S2=>match fl with |.nx=>I (i+1) ρ2 S2 |.ct=>I (i+1) ρ2 S2 |.bk=>Q .nx ρ2 S2 |.rt d=>Q (.rt d) ρ2 S2)
  (q:∀ρ S',I n ρ S'->Q .nx ρ S') (h0:I 0 ρ S):OkS (eI (nxR lo n) tg b LF 0 ρ S) Q:=by
 refine jx n I (by unfold LF;lia) (λi ρ S' hi iv=>?_) (λρ S' iv=>⟨?_,q ρ S' iv⟩) h0
 ·obtain⟨ρ1,e2,z⟩:=step i ρ S' hi iv;exact⟨_,ρ1,by show some (if i < n then some (D.int (lo+i)) else none)=_;rw[if_pos hi],e2,z⟩
 ·show some (if n < n then some (D.int (lo+n)) else none)=_;rw[if_neg (ZN n)]
theorem sy{n:Nat}{lo:Int}{tg:Tg}{c:XA}{Q:List D->Sto->Prop}(hl:n<=100000)(I:Nat->List D->Sto->Prop)
  (step:∀ (i:Nat) acc S',i < n->I i acc S'->∃ρ1,ax tg (.int (lo+i)) ρ=some ρ1/\Ok (c ρ1 S') λes S1=>I (i+1) (acc++es) S1) (q:∀es S',I n es S'->es.length<=100000/\Q es S') (h0:I 0 [] S) :
  Ok (be (nxR lo n) tg c ρ LF 0 S) λes S2=>es.length<=100000/\Q es S2:=by
 refine(fv n I (by unfold LF;lia) (λi acc S' hi iv=>?_) (λacc S' iv=>?_) h0).mono q
 ·obtain⟨ρ1,e2,z⟩:=step i acc S' hi iv;exact⟨_,ρ1,by show some (if i < n then some (D.int (lo+i)) else none)=_;rw[if_pos hi],e2,z⟩
 ·show some (if n < n then some (D.int (lo+n)) else none)=_;rw[if_neg (ZN n)]
theorem Ip:Ok (rq x y ρ S) Q=Ok (x ρ S) λds S1=>Ok (y ρ S1) λi S2=>∃k,i = .int k/\∃d,atI ds k=some d/\Q d S2:=by
 unfold rq;rw[bz]
 congr 1
 funext ds S1
 rw[bz]
 congr 1
 funext i S2
 apply propext;cases i with
 |int k=>simp[HU]
 |_=>simp[aX]
theorem Iq{i:Int}(h0:0<=i)(h1:i < ds.length):∃d,atI ds i=some d/\ds[i.toNat]?=some d:=by
 have hi:i.toNat < ds.length:=by lia
 refine⟨ds[i.toNat],?_,gEG hi⟩;unfold atI ixN;rw[if_pos h0,if_pos (by lia)];exact gEG hi
theorem iM{nx:Nxt}{tg:Tg}{c:XA}{Q:List D->Sto->Prop}(n:Nat)(el:Nat->D)(I:Nat->List D->Sto->Prop)(hnx:∀i acc S',i<=n->I i acc S'->nx i S'=some (if i < n then some (el i) else none))(hl:n<=100000)
  (step:∀ (i:Nat) acc S',i < n->I i acc S'->∃ρ1,ax tg (el i) ρ=some ρ1/\Ok (c ρ1 S') λes S1=>I (i+1) (acc++es) S1) (q:∀es S',I n es S'->es.length<=100000/\Q es S') (h0:I 0 [] S) :
  Ok (be nx tg c ρ LF 0 S) λes S2=>es.length<=100000/\Q es S2:=by
 refine(fv n I (by unfold LF;lia) (λi acc S' hi iv=>?_) (λacc S' iv=>?_) h0).mono q
 ·obtain⟨ρ1,e2,z⟩:=step i acc S' hi iv;exact⟨_,ρ1,by rw[hnx i acc S' (by lia) iv,if_pos hi],e2,z⟩
 ·rw[hnx n acc S' (Zf _) iv,if_neg (ZN n)]
theorem zC{m i:Nat}(h:S[m]?=some (.lst ds))(el:Nat->D)(he:∀i d,ds[i]?=some d->el i=d):nxS m i S=some (if i < ds.length then some (el i) else none):=by
 show(ak S m).map (λds=>ds[i]?)=_;rw[aM h,ZA];split
 ·rename_i hi;rw[gEG hi,he i _ (gEG hi)]
 ·rename_i hi;rw[Zs (by lia)]
structure RowsS(p:Nat)(S:Sto)(rs:List D)(M:List (List Int)):Prop where
 len:rs.length=M.length
 row:∀ (i:Nat) r,M[i]?=some r->∃a,rs[i]?=some (.ref a)/\a ≠ p/\S[a]?=some (.lst (r.map D.int))
theorem RowsS.keep(h:RowsS p S rs M)(k:Kp p S S'):RowsS p S' rs M:=⟨h.len,λi r hr=>let ⟨a,e,n,z⟩:=h.row i r hr;⟨a,e,n,k _ _ n z⟩⟩
theorem RowsS.nil:RowsS p S [] []:=⟨rfl,λi r h=>by simp at h⟩
theorem RowsS.snoc{a:Nat}(h:RowsS p S rs M)(n:a ≠ p)(z:S[a]?=some (.lst (r.map D.int))):RowsS p S (rs++[.ref a]) (M++[r]):=by
 refine⟨by simp[h.len],λi r' hr=>?_⟩;by_cases hi:i < M.length
 ·rw[Zu hi] at hr;obtain⟨b,e,nb,zb⟩:=h.row i r' hr;exact⟨b,by rw[Zu (by rw[h.len];exact hi)];exact e,nb,zb⟩
 ·rw[Zp (by lia)] at hr
  have hz:i - M.length=0:=by
   have:=(Zb.mp hr).1;simp at this;lia
  rw[hz] at hr;cases hr;exact⟨a,by rw[Zp (by rw[h.len];lia),h.len,hz];rfl,n,z⟩
theorem aK:(S++[o])[S.length]?=some o:=by rw[Zp (Zf _),Yo];rfl
theorem Kp.setNew{f:Nat}(h:Kp p S S')(hf:S.length<=f):Kp p S (S'.set f o):=λi u n e=>by
 have hi:=(Zb.mp e).1;rw[Zq (by lia)];exact h i u n e
theorem Pot.setNe{f:Nat}(h:Pot p S)(hf:f ≠ p):Pot p (S.set f o):=by
 obtain⟨n,e⟩:=h;exact⟨n,by rw[Zq hf];exact e⟩
abbrev ag(q:Int × Int):D:=.tup [.int q.1,.int q.2]
theorem fA:∀ (es:List (Int × Int)),TDs p S (es.map Dw.mo) (es.map ag)
 |[]=>bI
 |e::es=>ao (bA (ao bp (ao bp bI))) (fA es)
theorem k7{f:Nat}(h:S[f]?=some (.lst ds))(hl:ds.length < 100000):Ok (rR (.ref f) [e] S) Q=Q .non (S.set f (.lst (ds++[e]))):=by
 simp only[rR,chg,h];rw[if_pos hl];exact aH
theorem cJ{f:Nat}(h:S[f]?=some (.lst ds)):dr (.ref f) S=true:=by simp only[dr,aM h];rfl
theorem oC{f:Nat}(h:S[f]?=some (.lst (ds++[e]))):ixS (.ref f) (.int (-1)) S=some (e,S):=by
 have:atI (ds++[e]) (-1:Int)=some e:=by
  unfold atI ixN;rw[if_neg (by decide),if_pos (by rw[Zh,Zm];lia)];show(ds++[e])[((-1:Int)+((ds++[e]).length:Int)).toNat]?=some e;have:((-1:Int)+((ds++[e]).length:Int)).toNat=ds.length:=by rw[Zh,Zm];lia
  rw[this,Zp (Zf _),Yo];rfl
 simp only[ixS,ay,aM h,ZA,this]
theorem xu{i:Nat}(h:ds[i]?=some d):ixS (.tup ds) (.int i) S=some (d,S):=by
 have hi:=(Zb.mp h).1
 have ea:atI ds (i:Int)=some d:=by
  unfold atI ixN;rw[if_pos (by lia),if_pos (by lia),ZE];exact h
 simp only[ixS,ay,ea,ZA]
theorem td{i:Nat}(h:ds[i]?=some d):atI ds (i:Int)=some d:=by
 have hi:=(Zb.mp h).1;unfold atI ixN;rw[if_pos (by lia),if_pos (by lia),ZE];exact h
theorem C3:am .eq (.tup ds) (.tup []) S=some (.bl ds.isEmpty,S):=by
 simp only[am,eqS]
 have:eqD 60 S (.tup ds) (.tup [])=some ds.isEmpty:=by
  cases ds <;> rfl
 rw[this];rfl
theorem C4:am .ne (.tup ds) (.tup []) S=some (.bl (!ds.isEmpty),S):=lV (x:=.tup ds) (y:=.tup []) (b:=ds.isEmpty) (by cases ds <;> rfl)
theorem Ir:Ok (bE .add (.tup xs) (.tup ys) S) Q=(xs.length+ys.length<=1000/\Q (.tup (xs++ys)) S):=by
 simp only[bE,jh,cI,aH,aX];apply propext;split
 ·rename_i h;exact⟨λz=>⟨h,z⟩,λz=>z.2⟩
 ·rename_i h;exact⟨λz=>z.elim,λz=>(h z.1).elim⟩
end
@[inline]abbrev WP(α:Type):=Rho->Sto->(α->Sto->Prop)->Prop
def Sd{α:Type}(w:WP α)(x:Rho->Sto->Option (α × Sto)):Prop:=∀ρ S Q,w ρ S Q->Ok (x ρ S) Q
theorem aY{α β:Type}{x:Option (α × Sto)}{f:α->Sto->Option (β × Sto)}{Q:β->Sto->Prop}(h:Ok x λa S=>Ok (f a S) Q):Ok (bnd x f) Q:=bz ▸ h
theorem bm{α:Type}{a:α}{S:Sto}{Q:α->Sto->Prop}(h:Q a S):Ok (some (a,S)) Q:=⟨_,_,rfl,h⟩
def wIf(b:Bool)(A B:Prop):Prop:=match b with
 |true=>A
 |false=>B
def wBl(d:D)(Q:Bool->Prop):Prop:=match d with
 |.bl b=>Q b
 |.non=>False |.int _=>False |.str _=>False |.tup _=>False |.ref _=>False
def cu(d:D)(Q:Int->Prop):Prop:=match d with
 |.int i=>Q i
 |.non=>False |.bl _=>False |.str _=>False |.tup _=>False |.ref _=>False
theorem k8{d:D}{Q:Bool->Prop}(h:wBl d Q):∃b,d = .bl b/\Q b:=by cases d <;> first |exact h.elim |exact⟨_,rfl,h⟩
theorem b8{d:D}{Q:Int->Prop}(h:cu d Q):∃b,d = .int b/\Q b:=by cases d <;> first |exact h.elim |exact⟨_,rfl,h⟩
def Oo(o:Option D)(Q:D->Prop):Prop:=match o with
 |some d=>Q d
 |none=>False
def sC:Rho->Nat->(D->Prop)->Prop
 |[],_,_=>False
 |o::_,0,Q=>Oo o Q
 |_::ρ,i+1,Q=>sC ρ i Q
theorem uk:∀ {ρ:Rho} {i:Nat} {Q:D->Prop},sC ρ i Q->∃d,ρ[i]?=some (some d)/\Q d
 |[],_,_,h=>h.elim
 |some d::_,0,_,h=>⟨d,rfl,h⟩
 |none::_,0,_,h=>h.elim
 |o::ρ,i+1,_,h=>by rw[Yt];exact uk (ρ:=ρ) h
def My(i:Nat):WP D:=λρ S Q=>sC ρ i λd=>Q d S
theorem Mz{i:Nat}:Sd (My i) (vB i):=λρ S Q h=>by
 rw[Ia];exact uk h
def wC(d:D):WP D:=λ_ S Q=>Q d S
theorem s_c{d:D}:Sd (wC d) (xC d):=λ_ _ _ h=>bm h
def C5(g:D->D->Sto->(D->Sto->Prop)->Prop)(x y:WP D):WP D:=λρ S Q=>x ρ S λa S1=>y ρ S1 λb S2=>g a b S2 Q
theorem zD{g:D->D->Sto->(D->Sto->Prop)->Prop}{f:D->D->Sto->Option (D × Sto)}{w v:WP D}{x y:XE}(hw:Sd w x)(hv:Sd v y)(hg:∀ {a b S Q},g a b S Q->Ok (f a b S) Q):Sd (C5 g w v) (pJ f x y):=
 λ_ _ _ h=>aY ((hw _ _ _ h).mono λ_ _ h=>aY ((hv _ _ _ h).mono λ_ _ h=>hg h))
def wUn{α β:Type}(g:α->Sto->(β->Sto->Prop)->Prop)(x:WP α):WP β:=λρ S Q=>x ρ S λa S1=>g a S1 Q
theorem C6{α β:Type}{g:α->Sto->(β->Sto->Prop)->Prop}{f:α->Sto->Option (β × Sto)}{w:WP α}{x:Rho->Sto->Option (α × Sto)}(hw:Sd w x)(hg:∀ {a S Q},g a S Q->Ok (f a S) Q):Sd (wUn g w) (λρ S=>bnd (x ρ S) f):=
 λ_ _ _ h=>aY ((hw _ _ _ h).mono λ_ _ h=>hg h)
def wOk{α β:Type}(f:α->Sto->Option (β × Sto))(a:α)(S:Sto)(Q:β->Sto->Prop):Prop:=Ok (f a S) Q
def wII:BOp->Int->Int->Sto->(D->Sto->Prop)->Prop
 |.add,i,j,S,Q=>Q (.int (i+j)) S
 |.sub,i,j,S,Q=>Q (.int (i - j)) S
 |.mul,i,j,S,Q=>fX i j=true/\Q (.int (i * j)) S
 |.mod,i,j,S,Q=>0 < j/\Q (.int (i % j)) S
 |.fdiv,i,j,S,Q=>(0 < j/\j < 1298074214633706907132624082305024)/\Q (.int (i / j)) S
 |.pow,i,j,S,Q=>(0<=j/\j<=1000000/\i.natAbs < 2 ^ 64)/\Q (.int (i ^ j.toNat)) S
theorem Iu{o:BOp}{i j:Int}{S:Sto}{Q:D->Sto->Prop}(h:wII o i j S Q):Ok (bE o (.int i) (.int j) S) Q:=by
 cases o with
 |add=>rw[Ib];exact h
 |sub=>rw[Ic];exact h
 |mul=>rw[Il];exact h
 |mod=>rw[Ik];exact h
 |fdiv=>rw[C2];exact h
 |pow=>rw[Im];exact h
def wTT:BOp->List D->List D->Sto->(D->Sto->Prop)->Prop
 |.add,xs,ys,S,Q=>xs.length+ys.length<=1000/\Q (.tup (xs++ys)) S
 |.sub,_,_,_,_=>False
 |.mul,_,_,_,_=>False
 |.mod,_,_,_,_=>False
 |.fdiv,_,_,_,_=>False
 |.pow,_,_,_,_=>False
theorem Iv{o:BOp}{i j:List D}{S:Sto}{Q:D->Sto->Prop}(h:wTT o i j S Q):Ok (bE o (.tup i) (.tup j) S) Q:=by
 cases o with
 |add=>rw[Ir];exact h
 |_=>exact h.elim
def zE(o:BOp)(i:Int)(y:D)(S:Sto)(Q:D->Sto->Prop):Prop:=match y with
 |.int j=>wII o i j S Q
 |.non=>False |.bl _=>False |.str _=>False |.ref _=>False
 |.tup ys=>Ok (bE o (.int i) (.tup ys) S) Q
def ul(o:BOp)(xs:List D)(y:D)(S:Sto)(Q:D->Sto->Prop):Prop:=match y with
 |.tup ys=>wTT o xs ys S Q
 |.non=>False |.bl _=>False |.str _=>False |.ref _=>False
 |.int j=>Ok (bE o (.tup xs) (.int j) S) Q
def sD(o:BOp)(x y:D)(S:Sto)(Q:D->Sto->Prop):Prop:=match x with
 |.int i=>zE o i y S Q
 |.tup xs=>ul o xs y S Q
 |.non=>Ok (bE o .non y S) Q
 |.bl b=>Ok (bE o (.bl b) y S) Q
 |.str b=>Ok (bE o (.str b) y S) Q
 |.ref b=>Ok (bE o (.ref b) y S) Q
theorem C7{o:BOp}{x y:D}{S:Sto}{Q:D->Sto->Prop}(h:sD o x y S Q):Ok (bE o x y S) Q:=by
 cases x with
 |int i=>cases y with
  |int j=>exact Iu h
  |tup ys=>exact h
  |_=>exact h.elim
 |tup xs=>cases y with
  |int j=>exact h
  |tup ys=>exact Iv h
  |_=>exact h.elim
 |_=>exact h
def wCI:COp->Int->Int->Sto->(D->Sto->Prop)->Prop
 |.eq,i,j,S,Q=>Q (.bl (decide (i=j))) S
 |.ne,i,j,S,Q=>Q (.bl (!decide (i=j))) S
 |.lt,i,j,S,Q=>Q (.bl (decide (i < j))) S
 |.le,i,j,S,Q=>Q (.bl (decide (i<=j))) S
 |.gt,i,j,S,Q=>Q (.bl (decide (j < i))) S
 |.ge,i,j,S,Q=>Q (.bl (decide (j<=i))) S
 |.is,_,_,_,_=>False
 |.isnot,_,_,_,_=>False
 |.isin,_,_,_,_=>False
 |.notin,_,_,_,_=>False
theorem Iw{o:COp}{i j:Int}{S:Sto}{Q:D->Sto->Prop}(h:wCI o i j S Q):Ok (am o (.int i) (.int j) S) Q:=by
 cases o with
 |eq=>rw[Ig];exact h
 |ne=>rw[Ih];exact h
 |lt=>rw[Mu];exact h
 |le=>rw[Ms];exact h
 |gt=>rw[Mv];exact h
 |ge=>rw[Mw];exact h
 |_=>exact h.elim
def Ix(o:COp)(i:Int)(y:D)(S:Sto)(Q:D->Sto->Prop):Prop:=match y with
 |.int j=>wCI o i j S Q
 |.non=>Ok (am o (.int i) .non S) Q
 |.bl b=>Ok (am o (.int i) (.bl b) S) Q
 |.str b=>Ok (am o (.int i) (.str b) S) Q
 |.ref b=>Ok (am o (.int i) (.ref b) S) Q
 |.tup b=>Ok (am o (.int i) (.tup b) S) Q
def wm(o:COp)(xs:List D)(y:D)(S:Sto)(Q:D->Sto->Prop):Prop:=match o with
 |.eq=>match y with
  |.tup ys=>match ys with
   |[]=>Q (.bl xs.isEmpty) S
   |y::ys=>Ok (am .eq (.tup xs) (.tup (y::ys)) S) Q
  |.non=>Ok (am .eq (.tup xs) .non S) Q
  |.bl b=>Ok (am .eq (.tup xs) (.bl b) S) Q
  |.str b=>Ok (am .eq (.tup xs) (.str b) S) Q
  |.ref b=>Ok (am .eq (.tup xs) (.ref b) S) Q
  |.int b=>Ok (am .eq (.tup xs) (.int b) S) Q
 |.ne=>match y with
  |.tup ys=>match ys with
   |[]=>Q (.bl (!xs.isEmpty)) S
   |y::ys=>Ok (am .ne (.tup xs) (.tup (y::ys)) S) Q
  |.non=>Ok (am .ne (.tup xs) .non S) Q
  |.bl b=>Ok (am .ne (.tup xs) (.bl b) S) Q
  |.str b=>Ok (am .ne (.tup xs) (.str b) S) Q
  |.ref b=>Ok (am .ne (.tup xs) (.ref b) S) Q
  |.int b=>Ok (am .ne (.tup xs) (.int b) S) Q
 |.is=>Ok (am .is (.tup xs) y S) Q
 |.isnot=>Ok (am .isnot (.tup xs) y S) Q
 |.isin=>Ok (am .isin (.tup xs) y S) Q
 |.notin=>Ok (am .notin (.tup xs) y S) Q
 |.lt=>False |.le=>False |.gt=>False |.ge=>False
def wCx(o:COp)(x y:D)(S:Sto)(Q:D->Sto->Prop):Prop:=match x with
 |.int i=>Ix o i y S Q
 |.tup xs=>wm o xs y S Q
 |.non=>Ok (am o .non y S) Q
 |.bl b=>Ok (am o (.bl b) y S) Q
 |.str b=>Ok (am o (.str b) y S) Q
 |.ref b=>Ok (am o (.ref b) y S) Q
theorem Iy{o:COp}{x y:D}{S:Sto}{Q:D->Sto->Prop}(h:wCx o x y S Q):Ok (am o x y S) Q:=by
 cases x with
 |int i=>cases y with
  |int j=>exact Iw h
  |_=>exact h
 |tup xs=>cases o with
  |eq=>cases y with
   |tup ys=>cases ys with
    |nil=>rw[C3,aH];exact h
    |cons y ys=>exact h
   |_=>exact h
  |ne=>cases y with
   |tup ys=>cases ys with
    |nil=>rw[C4,aH];exact h
    |cons y ys=>exact h
   |_=>exact h
  |lt=>exact h.elim
  |le=>exact h.elim
  |gt=>exact h.elim
  |ge=>exact h.elim
  |_=>exact h
 |_=>exact h
def wCm(o:COp)(x y:D)(S:Sto)(Q:D->Sto->Prop):Prop:=match o with
 |.is=>Ok (am .is x y S) Q
 |.isnot=>Ok (am .isnot x y S) Q
 |.isin=>Ok (am .isin x y S) Q
 |.notin=>Ok (am .notin x y S) Q
 |.eq=>wCx .eq x y S Q
 |.ne=>wCx .ne x y S Q
 |.lt=>wCx .lt x y S Q
 |.le=>wCx .le x y S Q
 |.gt=>wCx .gt x y S Q
 |.ge=>wCx .ge x y S Q
theorem oD{o:COp}{x y:D}{S:Sto}{Q:D->Sto->Prop}(h:wCm o x y S Q):Ok (am o x y S) Q:=by
 cases o <;> first |exact Iy h |exact h
def Iz(o p:COp)(x y z:WP D):WP D:=λρ S Q=>x ρ S λa S1=>y ρ S1 λb S2=>wCm o a b S2 λr S3=>wBl r λc=>wIf c (z ρ S3 λe S4=>wCm p b e S4 Q) (Q (.bl false) S3)
theorem Fx{o p:COp}{w v u:WP D}{x y z:XE}(hw:Sd w x)(hv:Sd v y)(hu:Sd u z):Sd (Iz o p w v u) (vX (am o) (am p) x y z):=λ_ _ _ h=>by
 rw[H8];refine(hw _ _ _ h).mono λa S1 h=>(hv _ _ _ h).mono λb S2 h=>(oD h).mono λr S3 h=>?_;obtain⟨c,e,h⟩:=k8 h;refine⟨c,e,?_⟩;cases c with
 |true=>exact(hu _ _ _ h).mono λe S4 h=>oD h
 |false=>exact h
def MA(x y:WP D):WP D:=λρ S Q=>x ρ S λd S1=>wBl d λb=>wIf b (y ρ S1 Q) (Q (.bl false) S1)
theorem MB{w v:WP D}{x y:XE}(hw:Sd w x)(hv:Sd v y):Sd (MA w v) (yE x y):=λ_ _ _ h=>by
 rw[HY];refine(hw _ _ _ h).mono λa S1 h=>?_;obtain⟨c,e,h⟩:=k8 h;refine⟨c,e,?_⟩;cases c with
 |true=>exact hv _ _ _ h
 |false=>exact h
def wOr(x y:WP D):WP D:=λρ S Q=>x ρ S λd S1=>wBl d λb=>wIf b (Q (.bl true) S1) (y ρ S1 Q)
theorem Op{w v:WP D}{x y:XE}(hw:Sd w x)(hv:Sd v y):Sd (wOr w v) (xOr x y):=λ_ _ _ h=>by
 rw[Mr];refine(hw _ _ _ h).mono λa S1 h=>?_;obtain⟨c,e,h⟩:=k8 h;refine⟨c,e,?_⟩;cases c with
 |false=>exact hv _ _ _ h
 |true=>exact h
def MC(x:WP D):WP D:=λρ S Q=>x ρ S λd S1=>wBl d λb=>Q (.bl (!b)) S1
theorem MD{w:WP D}{x:XE}(hw:Sd w x):Sd (MC w) (xUn vW x):=λ_ _ _ h=>aY ((hw _ _ _ h).mono λa S1 h=>by
 rw[HZ];exact k8 h)
def ME(x:WP D):WP D:=λρ S Q=>x ρ S λd S1=>cu d λi=>Q (.int (-i)) S1
theorem MF{w:WP D}{x:XE}(hw:Sd w x):Sd (ME w) (xUn Hi x):=λ_ _ _ h=>aY ((hw _ _ _ h).mono λa S1 h=>by
 obtain⟨i,rfl,h⟩:=b8 h;exact bm h)
def MG{α:Type}(c:WP Bool)(x y:WP α):WP α:=λρ S Q=>c ρ S λb S1=>wIf b (x ρ S1 Q) (y ρ S1 Q)
theorem MH{c:WP Bool}{w v:WP D}{t:XT}{x y:XE}(hc:Sd c t)(hw:Sd w x)(hv:Sd v y):Sd (MG c w v) (Hj t x y):=λ_ _ _ h=>aY ((hc _ _ _ h).mono λb S1 h=>by
 cases b with
 |true=>exact hw _ _ _ h
 | false=>exact hv _ _ _ h)
def wO:Option (WP D)->WP (Option Int)
 |none=>λ_ S Q=>Q none S
 |some w=>λρ S Q=>w ρ S λd S1=>cu d λi=>Q (some i) S1
def sE(lo hi:Option Int)(d:D)(S:Sto)(Q:D->Sto->Prop):Prop:=match d with
 |.tup ds=>Q (.tup (gk ds lo hi)) S
 |.ref n=>Ok (slS lo hi (.ref n) S) Q
 |.non=>False |.bl _=>False |.str _=>False |.int _=>False
def wSl(x:WP D)(lo hi:WP (Option Int)):WP D:=λρ S Q=>x ρ S λd S1=>lo ρ S1 λl S2=>hi ρ S2 λh S3=>sE l h d S3 Q
theorem Oq:Sd (wO none) rC:=λ_ _ _ h=>bm h
theorem Ot{w:WP D}{x:XE}(hw:Sd w x):Sd (wO (some w)) (rD x):=λ_ _ _ h=>aY ((hw _ _ _ h).mono λd S1 h=>by
 obtain⟨i,rfl,h⟩:=b8 h;exact bm h)
theorem Ou{w:WP D}{l u:WP (Option Int)}{x:XE}{lo hi:XO}(hw:Sd w x)(hl:Sd l lo)(hu:Sd u hi):Sd (wSl w l u) (xSl x lo hi):=λ_ _ _ h=>aY ((hw _ _ _ h).mono λd S1 h=>aY ((hl _ _ _ h).mono λa S2 h=>aY ((hu _ _ _ h).mono λb S3 h=>by
 cases d with
 |tup ds=>exact bm h
 |ref n=>exact h
 | _=>exact h.elim)))
def Fy(g:List D->Sto->Option (D × Sto))(n:Nat)(x:WP (List D)):WP D:=λρ S Q=>x ρ S λds S1=>ds.length=n/\Ok (g ds S1) Q
theorem IA{g:List D->Sto->Option (D × Sto)}{n:Nat}{w:WP (List D)}{x:XA}(hw:Sd w x):Sd (Fy g n w) (qc g n x):=λ_ _ _ h=>by
 rw[CQ];exact hw _ _ _ h
def k9(x:WP (List D)):WP D:=λρ S Q=>x ρ S λds S1=>Q (.ref S1.length) (S1++[.lst ds])
theorem ia{w:WP (List D)}{x:XA}(hw:Sd w x):Sd (k9 w) (dH x):=λ_ _ _ h=>by rw[zy];exact hw _ _ _ h
def dZ:Nat->List CE->Prop->Prop
 |_,[],A=>A
 |0,_::_,_=>False
 |n+1,_::es,A=>dZ n es A
theorem ib:∀ {n:Nat} {es:List CE} {A:Prop},dZ n es A->es.length<=n/\A
 |n,[],_,h=>⟨Xq _,by cases n <;> exact h⟩
 |0,_::_,_,h=>h.elim
 |n+1,_::es,_,h=>by rw[Zv];exact⟨XN (ib (es:=es) h).1,(ib (es:=es) h).2⟩
def wSh{α:Type}(es:List CE)(x:WP α):WP α:=λρ S Q=>dZ 60 es (x ρ S Q)
def zF(c:D->Sto->Bool)(f:D->List D->Sto->Option (D × Sto))(x:WP D)(y:WP (List D)):WP D:=λρ S Q=>x ρ S λd S1=>c d S1=true/\y ρ S1 λas S2=>Ok (f d as S2) Q
theorem um{c:D->Sto->Bool}{f:D->List D->Sto->Option (D × Sto)}{w:WP D}{v:WP (List D)}{x:XE}{y:XA}(hw:Sd w x)(hv:Sd v y):Sd (zF c f w v) (vU c f x y):=λ_ _ _ h=>aY ((hw _ _ _ h).mono λd S1 h=>by
 rw[if_pos h.1];exact aY (hv _ _ _ h.2))
def IB(x:WP D):WP (List D):=λρ S Q=>x ρ S λd S1=>∃i:Nat,d = .int i/\i<=1000/\Q ((Zl i).map λj=>.int (Int.ofNat j)) S1
theorem Fz{w:WP D}{x:XE}(hw:Sd w x):Sd (IB w) (v8 x):=λ_ _ _ h=>Ie (hw _ _ _ h)
def MI:WP (List D):=λ_ S Q=>Q [] S
theorem MJ:Sd MI BL:=λ_ _ _ h=>bm h
def FA(x:WP D)(y:WP (List D)):WP (List D):=λρ S Q=>x ρ S λa S1=>y ρ S1 λas S2=>Q (a::as) S2
theorem IC{w:WP D}{v:WP (List D)}{x:XE}{y:XA}(hw:Sd w x)(hv:Sd v y):Sd (FA w v) (tK x y):=λ_ _ _ h=>aY ((hw _ _ _ h).mono λd S1 h=>aY ((hv _ _ _ h).mono λds S2 h=>bm h))
def Ov(o:Option D)(A:Prop):Prop:=match o with
 |none=>A
 |some _=>False
def wFr:Rho->Nat->Prop->Prop
 |[],_,_=>False
 |o::_,0,A=>Ov o A
 |_::ρ,i+1,A=>wFr ρ i A
theorem oE:∀ {ρ:Rho} {i:Nat} {A:Prop},wFr ρ i A->ρ[i]?=some none/\A
 |[],_,_,h=>h.elim
 |none::_,0,_,h=>⟨rfl,h⟩
 |some _::_,0,_,h=>h.elim
 |o::ρ,i+1,_,h=>by rw[Yt];exact oE (ρ:=ρ) h
def qv:List Tg->Rho->Prop->Prop
 |[],_,A=>A
 |.name i::ts,ρ,A=>wFr ρ i (qv ts ρ A)
 |.tup us::ts,ρ,A=>cN (.tup us) ρ=true/\qv ts ρ A
def wFt:Tg->Rho->Prop->Prop
 |.name i,ρ,A=>wFr ρ i A
 |.tup ts,ρ,A=>qv ts ρ A
theorem mU{i:Nat}{ρ:Rho}(h:ρ[i]?=some none):cN (.name i) ρ=true:=by rw[cN,h]
theorem oG:∀ {ts:List Tg} {ρ:Rho} {A:Prop},qv ts ρ A->e9 ts ρ=true/\A
 |[],_,_,h=>⟨by rw[e9],h⟩
 |.name i::ts,ρ,_,h=>by
  obtain⟨e,h⟩:=oE h;obtain⟨e2,h⟩:=oG h;exact⟨by rw[e9,mU e,e2];rfl,h⟩
 |.tup us::ts,ρ,_,h=>by
  obtain⟨e,h⟩:=h;obtain⟨e2,h⟩:=oG h;exact⟨by rw[e9,e,e2];rfl,h⟩
theorem sF{t:Tg}{ρ:Rho}{A:Prop}(h:wFt t ρ A):cN t ρ=true/\A:=by
 cases t with
 |name i=>exact⟨mU (oE h).1,(oE h).2⟩
 |tup ts=>rw[cN];exact oG h
def qw:List Str->Rho->(Rho->Prop)->Prop
 |[],r,Q=>Q r
 |_::own,r,Q=>qw own (none::r) Q
def qx:Rho->Rho->(Rho->Prop)->Prop
 |[],r,Q=>Q r
 |o::ρ,r,Q=>qx ρ r λr'=>Q (o::r')
theorem uo:∀ {ρ r:Rho} {Q:Rho->Prop},qx ρ r Q->Q (ρ++r)
 |[],_,_,h=>h
 |o::ρ,r,Q,h=>uo (ρ:=ρ) (Q:=λr'=>Q (o::r')) h
theorem uq:∀ {own:List Str} {k:Nat} {Q:Rho->Prop},qw own (Zw k none) Q->Q (Zw (own.length+k) none)
 |[],k,_,h=>by rw[Z3,YX];exact h
 |_::own,k,Q,h=>by
  have:=uq (own:=own) (k:=k+1) h;rw[Zv,show own.length+1+k=own.length+(k+1) by lia];exact this
def FB(own:List Str)(it:WP Nxt)(tg:Tg)(c:XA)(k:Nat):WP (List D):=λρ S Q=>it ρ S λnx S1=>qw own [] λr=>qx ρ r λρ'=>wFt tg ρ' (Ok (be nx tg c ρ' k 0 S1) λes S2=>es.length<=100000/\Q es S2)
theorem zG{own:List Str}{k:Nat}{w:WP Nxt}{it:XI}{tg:Tg}{c:XA}(hw:Sd w it):Sd (FB own w tg c k) (km own.length it tg c k):=λ_ _ _ h=>by
 rw[CT]
 exact(hw _ _ _ h).mono λnx S1 h=>by
  have h:=uo (uq (own:=own) (k:=0) h);exact sF h
def zH(it:WP Nxt)(tg:Tg)(c:XA)(k:Nat):WP (List D):=λρ S Q=>wFt tg ρ (it ρ S λnx S1=>Ok (be nx tg c ρ k 0 S1) Q)
theorem C8{k:Nat}{w:WP Nxt}{it:XI}{tg:Tg}{c:XA}(hw:Sd w it):Sd (zH w tg c k) (iC it tg c k):=λ_ _ _ h=>by
 rw[zx];exact⟨(sF h).1,hw _ _ _ (sF h).2⟩
def zI(d:D)(S1:Sto)(Q:Nxt->Sto->Prop):Prop:=match d with
 |.tup ds=>Q (nxL ds) S1
 |.ref n=>(ak S1 n).isSome=true/\Q (nxS n) S1
 |.non=>False |.bl _=>False |.str _=>False |.int _=>False
theorem Ow{w:WP D}{x:XE}(hw:Sd w x):Sd (λρ S Q=>w ρ S λd S1=>zI d S1 Q) (xIV x):=λ_ _ _ h=>aY ((hw _ _ _ h).mono λd S1 h=>by
 cases d with
 |tup ds=>exact bm h
 |ref n=>dsimp only;rw[if_pos h.1];exact bm h.2
 | _=>exact h.elim)
def zJ(d:D)(S1:Sto)(Q:Nxt->Sto->Prop):Prop:=match d with
 |.tup ds=>Q (rY ds) S1
 |.ref n=>(ak S1 n).isSome=true/\Q (B5 n) S1
 |.non=>False |.bl _=>False |.str _=>False |.int _=>False
theorem Ox{w:WP D}{x:XE}(hw:Sd w x):Sd (λρ S Q=>w ρ S λd S1=>zJ d S1 Q) (xEV x):=λ_ _ _ h=>aY ((hw _ _ _ h).mono λd S1 h=>by
 cases d with
 |tup ds=>exact bm h
 |ref n=>dsimp only;rw[if_pos h.1];exact bm h.2
 | _=>exact h.elim)
def wOn{α β:Type}(f:α->β)(x:WP α):WP β:=λρ S Q=>x ρ S λa S1=>Q (f a) S1
theorem zK{α β:Type}{f:α->β}{w:WP α}{x:Rho->Sto->Option (α × Sto)}(hw:Sd w x):Sd (wOn f w) (λρ S=>bnd (x ρ S) λa S1=>some (f a,S1)):=λ_ _ _ h=>aY ((hw _ _ _ h).mono λd S1 h=>bm h)
def wR1(x:WP D):WP Nxt:=λρ S Q=>x ρ S λd S1=>cu d λj=>lim j=true/\Q (nxR 0 j.toNat) S1
theorem Oy{w:WP D}{x:XE}(hw:Sd w x):Sd (wR1 w) (xR1 x):=λ_ _ _ h=>aY ((hw _ _ _ h).mono λd S1 h=>by
 obtain⟨i,rfl,h⟩:=b8 h;dsimp only;rw[if_pos h.1];exact bm h.2)
def wDn(x:WP D):WP Nxt:=λρ S Q=>x ρ S λd S1=>cu d λj=>lim j=true/\Q (nxD j (j+1).toNat) S1
theorem Oz{w:WP D}{x:XE}(hw:Sd w x):Sd (wDn w) (xDn x):=λ_ _ _ h=>aY ((hw _ _ _ h).mono λd S1 h=>by
 cases d with
 |int j=>obtain⟨h,q⟩:=h;dsimp only;rw[if_pos h];exact bm q
 | _=>exact h.elim)
def wR2(x y:WP D):WP Nxt:=λρ S Q=>x ρ S λd S1=>y ρ S1 λe S2=>cu d λi=>cu e λj=>(lim i=true/\lim j=true)/\Q (nxR i (j - i).toNat) S2
theorem OA{w v:WP D}{x y:XE}(hw:Sd w x)(hv:Sd v y):Sd (wR2 w v) (xR2 x y):=λ_ _ _ h=>aY ((hw _ _ _ h).mono λd S1 h=>aY ((hv _ _ _ h).mono λe S2 h=>by
 obtain⟨i,rfl,h'⟩:=b8 h;obtain⟨j,rfl,h''⟩:=b8 h';dsimp only;rw[if_pos h''.1];exact bm h''.2))
def cj(d:D)(S:Sto)(Q:Bool->Sto->Prop):Prop:=match d with
 |.bl b=>Q b S
 |.tup ds=>Q (!ds.isEmpty) S
 |.int i=>Q (i != 0) S
 |.non=>Q false S
 |.str y=>Ok (j6 (.str y) S) Q
 |.ref y=>Ok (j6 (.ref y) S) Q
theorem zL{d:D}{S:Sto}{Q:Bool->Sto->Prop}(h:cj d S Q):Ok (j6 d S) Q:=by cases d <;> first |exact bm h |exact h
def wB(x:WP D):WP Bool:=λρ S Q=>x ρ S λd S1=>wBl d λb=>Q b S1
theorem s_b{w:WP D}{x:XE}(hw:Sd w x):Sd (wB w) (xB x):=λ_ _ _ h=>by
 rw[Mx];exact(hw _ _ _ h).mono λd S1 h=>k8 h
def FC(x y:WP Bool):WP Bool:=λρ S Q=>x ρ S λb S1=>wIf b (y ρ S1 Q) (Q false S1)
def ML(x y:WP Bool):WP Bool:=λρ S Q=>x ρ S λb S1=>wIf b (Q true S1) (y ρ S1 Q)
def FD(x:WP Bool):WP Bool:=λρ S Q=>x ρ S λb S1=>Q (!b) S1
theorem IE{w v:WP Bool}{x y:XT}(hw:Sd w x)(hv:Sd v y):Sd (FC w v) (yH x y):=λ_ _ _ h=>aY ((hw _ _ _ h).mono λb S1 h=>by
 cases b with
 |true=>exact hv _ _ _ h
 | false=>exact bm h)
theorem MM{w v:WP Bool}{x y:XT}(hw:Sd w x)(hv:Sd v y):Sd (ML w v) (Hm x y):=λ_ _ _ h=>aY ((hw _ _ _ h).mono λb S1 h=>by
 cases b with
 |false=>exact hv _ _ _ h
 | true=>exact bm h)
theorem IG{w:WP Bool}{x:XT}(hw:Sd w x):Sd (FD w) (yI x):=λ_ _ _ h=>aY ((hw _ _ _ h).mono λb S1 h=>bm h)
def FE(t:WP Bool)(c:WP (List D)):WP (List D):=λρ S Q=>t ρ S λb S1=>wIf b (c ρ S1 Q) (Q [] S1)
theorem IH{t:WP Bool}{c:WP (List D)}{x:XT}{y:XA}(ht:Sd t x)(hc:Sd c y):Sd (FE t c) (yB x y):=λ_ _ _ h=>aY ((ht _ _ _ h).mono λb S1 h=>by
 cases b with
 |true=>exact hc _ _ _ h
 | false=>exact bm h)
def C9(f:Bool->List D->Option (List D))(ds:List D)(S:Sto)(Q:List D->Sto->Prop):Prop:=∃es,f false ds=some es/\Q es S
def Da(f:Bool->List D->Option (List D))(d:D)(S:Sto)(Q:List D->Sto->Prop):Prop:=∃r es,ay d S=some r/\f r.1 r.2=some es/\Q es S
theorem MN{f:Bool->List D->Option (List D)}{w:WP (List D)}{x:XA}(hw:Sd w x):Sd (λρ S Q=>w ρ S λds S1=>C9 f ds S1 Q) (v5 f x):=λ_ _ _ h=>aY ((hw _ _ _ h).mono λds S1 ⟨es,e,h⟩=>by rw[e];exact bm h)
theorem MO{f:Bool->List D->Option (List D)}{w:WP D}{x:XE}(hw:Sd w x):Sd (λρ S Q=>w ρ S λds S1=>Da f ds S1 Q) (v7 f x):=λ_ _ _ h=>aY ((hw _ _ _ h).mono λds S1 ⟨r,es,e1,e,h⟩=>by
 rw[e1];dsimp only;rw[e];exact bm h)
def wNo{α:Type}:WP α:=λ_ _ _=>False
theorem oH{α:Type}{x:Rho->Sto->Option (α × Sto)}:Sd wNo x:=λ_ _ _ h=>h.elim
def aR(b:Bool)(x:WP (List D))(y:WP D)(ρ:Rho)(S:Sto)(KT:List D->Sto->Prop)(KV:D->Sto->Prop):Prop:=match b with
 |true=>x ρ S KT
 |false=>y ρ S KV
def wOf{α:Type}(b:Bool)(x:WP (List D))(y:WP D)(gt:List D->Sto->(α->Sto->Prop)->Prop)(gv:D->Sto->(α->Sto->Prop)->Prop):WP α:=λρ S Q=>aR b x y ρ S (λds S1=>gt ds S1 Q) (λd S1=>gv d S1 Q)
theorem s_of{α:Type}{b:Bool}{w:WP (List D)}{v:WP D}{gt:List D->Sto->(α->Sto->Prop)->Prop}{gv:D->Sto->(α->Sto->Prop)->Prop}{x y:Rho->Sto->Option (α × Sto)}(hw:Sd (λρ S Q=>w ρ S λds S1=>gt ds S1 Q) x)(hv:Sd (λρ S Q=>v ρ S λd S1=>gv d S1 Q) y):Sd (wOf b w v gt gv) (if b=true then x else y):=by
 cases b with
 |true=>exact hw
 |false=>exact hv
theorem OB{b:Bool}{w:WP (List D)}{v u:WP D}{x:XA}{y z:XE}(hw:Sd w x)(hu:Sd u z)(hv:Sd v y):Sd (λρ S Q=>aR b w u ρ S (λds S1=>v ρ S1 λi S2=>cu i λk=>∃d,atI ds k=some d/\Q d S2) (λd S1=>v ρ S1 λi S2=>Ok (ixS d i S2) Q)) (if b=true then rq x y else pJ ixS z y):=λρ S Q h=>by
 cases b with
 |true=>
  show Ok (rq x y ρ S) Q;rw[Ip];exact(hw _ _ _ h).mono λds S1 h=>(hv _ _ _ h).mono λi S2 h=>b8 h
 |false=>exact aY ((hu _ _ _ h).mono λds S1 h=>aY (hv _ _ _ h))
abbrev wO2(t:CE->WP D):Option CE->Option (WP D)
 |none=>none
 |some e=>some (t e)
def Db(t:CE->WP Bool):Option CE->WP (List D)->WP (List D)
 |some c,x=>FE (t c) x
 |none,x=>x
def zM(x y:D)(S:Sto)(Q:D->Sto->Prop):Prop:=cu x λi=>cu y λj=>Q (.int (if j > i then j else i)) S
def zN(x y:D)(S:Sto)(Q:D->Sto->Prop):Prop:=cu x λi=>cu y λj=>Q (.int (if j < i then j else i)) S
def w2(g:D->D->Sto->(D->Sto->Prop)->Prop):List D->Sto->(D->Sto->Prop)->Prop
 |[],_,_=>False
 |[_],_,_=>False
 |[x,y],S,Q=>g x y S Q
 |_::_::_::_,_,_=>False
theorem FF{g:D->D->Sto->(D->Sto->Prop)->Prop}{f:D->D->Sto->Option (D × Sto)}(hg:∀ {a b S Q},g a b S Q->Ok (f a b S) Q):∀ {ds:List D} {S:Sto} {Q:D->Sto->Prop},w2 g ds S Q->Ok (two f ds S) Q
 |[],_,_,h=>h.elim
 |[_],_,_,h=>h.elim
 |[x,y],_,_,h=>hg h
 |_::_::_::_,_,_,h=>h.elim
def FG:WP D:=λ_ S Q=>Q (.ref (Zj S)) (S++[.dic [] []])
def wCf(i:CI->WP Nxt)(own:List Str)(t:CE->XT)(e:List Cl->XA):List Cl->WP (List D)
 |[]=>wNo
 |⟨tg,it,cond⟩::rest=>FB own (i it) tg (cnd t cond (e rest)) LF
mutual
def wE(C:Calls)(ar:Nat->Nat):Nat->CE->WP D
 |0,_=>wNo
 |n+1,e=>match e with
  |.non=>wC .non
  |.bl b=>wC (.bl b)
  |.int i=>wC (.int i)
  |.str x=>wC (.str x)
  |.var i=>My i
  |.con _ v=>wC (.int v)
  |.tup es=>wSh es (wOn D.tup (wA C ar n es))
  |.lst es=>k9 (wSh es (wA C ar n es))
  |.dic0=>FG
  |.bin o a b=>C5 (sD o) (wE C ar n a) (wE C ar n b)
  |.neg a=>ME (wE C ar n a)
  |.cmp o a b=>C5 (wCm o) (wE C ar n a) (wE C ar n b)
  |.chn o p a b c=>Iz o p (wE C ar n a) (wE C ar n b) (wE C ar n c)
  |.and a b=>MA (wE C ar n a) (wE C ar n b)
  |.or a b=>wOr (wE C ar n a) (wE C ar n b)
  |.not a=>MC (wE C ar n a)
  |.ite c a b=>MG (wT C ar n c) (wE C ar n a) (wE C ar n b)
  |.ix a b=>λρ S Q=>aR (ac a) (wTm C ar n a) (wE C ar n a) ρ S (λds S1=>wE C ar n b ρ S1 λi S2=>cu i λk=>∃d,atI ds k=some d/\Q d S2) (λd S1=>wE C ar n b ρ S1 λi S2=>Ok (ixS d i S2) Q)
  |.sl a lo hi=>wSl (wE C ar n a) (wO (wO2 (wE C ar n) lo)) (wO (wO2 (wE C ar n) hi))
  |.call f es=>Fy (C f) (ar f) (wA C ar n es)
  |.inst t a=>wUn (wOk (j8 t)) (wE C ar n a)
  |.len a=>wOf (ac a) (wTm C ar n a) (wE C ar n a) (wOk (cB false)) (wOk (ai cB))
  |.all a=>wOf (ac a) (wTm C ar n a) (wE C ar n a) (wOk (ji false)) (wOk (ai ji))
  |.tupOf a=>wOf (ac a) (wTm C ar n a) (wE C ar n a) (wOk (cL false)) (wOk (ai cL))
  |.listR a=>k9 (IB (wE C ar n a))
  |.srt a=>k9 (wOf (ac a) (wTm C ar n a) (wE C ar n a) (C9 cq) (Da cq))
  |.mxL a=>wOf (ac a) (wTm C ar n a) (wE C ar n a) (wOk (lK false)) (wOk (ai lK))
  |.mxD a c=>wOf (ac a) (wTm C ar n a) (wE C ar n a) (wOk (fY c false)) (wOk (ai (fY c)))
  |.sm a=>wOf (ac a) (wTm C ar n a) (wE C ar n a) (wOk (pX false)) (wOk (ai pX))
  |.rev a=>wUn (wOk rG) (wE C ar n a)
  |.mnN a=>wOf (ac a) (wTm C ar n a) (wE C ar n a) (wOk (jj false)) (wOk (ai jj))
  |.mx a b=>wUn (w2 zM) (wA C ar n [a,b])
  |.mn a b=>wUn (w2 zN) (wA C ar n [a,b])
  |.rep a=>wUn (wOk kj) (wE C ar n a)
  |.comp own elt cls=>k9 (wCf (wI C ar n) own (evT C ar n) (fT C ar n elt) cls)
  |.app o a=>zF dr rR (wE C ar n o) (wA C ar n [a])
  |.ext o a=>zF dr rX (wE C ar n o) (wA C ar n [a])
  |.popAt o a=>zF dr gr (wE C ar n o) (wA C ar n [a])
  |.cnt o a=>zF (λd _=>isTup d) rT (wE C ar n o) (wA C ar n [a])
def wA(C:Calls)(ar:Nat->Nat):Nat->List CE->WP (List D)
 |0,_=>wNo
 |n+1,es=>match es with
  |[]=>MI
  |e::es=>FA (wE C ar n e) (wA C ar n es)
def wTm(C:Calls)(ar:Nat->Nat):Nat->CE->WP (List D)
 |0,_=>wNo
 |n+1,e=>match e with
  |.lst es=>wSh es (wA C ar n es)
  |.listR a=>IB (wE C ar n a)
  |.srt a=>wOf (ac a) (wTm C ar n a) (wE C ar n a) (C9 cq) (Da cq)
  |.comp own elt cls=>wCf (wI C ar n) own (evT C ar n) (fT C ar n elt) cls
  |_=>wNo
def wI(C:Calls)(ar:Nat->Nat):Nat->CI->WP Nxt
 |0,_=>wNo
 |n+1,it=>match it with
  |.val a=>wOf (ac a) (wTm C ar n a) (wE C ar n a) (λds S Q=>Q (nxL ds) S) zI
  |.r1 a=>wR1 (wE C ar n a)
  |.dn a=>wDn (wE C ar n a)
  |.r2 a b=>wR2 (wE C ar n a) (wE C ar n b)
  |.en a=>wOf (ac a) (wTm C ar n a) (wE C ar n a) (λds S Q=>Q (rY ds) S) zJ
def wT(C:Calls)(ar:Nat->Nat):Nat->CE->WP Bool
 |0,_=>wNo
 |n+1,e=>match e with
  |.cmp o a b=>wB (C5 (wCm o) (wE C ar n a) (wE C ar n b))
  |.chn o p a b c=>wB (Iz o p (wE C ar n a) (wE C ar n b) (wE C ar n c))
  |.and a b=>FC (wT C ar n a) (wT C ar n b)
  |.or a b=>ML (wT C ar n a) (wT C ar n b)
  |.not a=>FD (wT C ar n a)
  |.ite _ _ _=>wNo
  |e=>wUn cj (wE C ar n e)
end
def wCl(C:Calls)(ar:Nat->Nat)(n:Nat)(elt:CE):List Cl->WP (List D)
 |[]=>wOn (λd=>[d]) (wE C ar n elt)
 |⟨tg,it,cond⟩::rest=>zH (wI C ar n it) tg (cnd (evT C ar n) cond (fT C ar n elt rest)) LF
theorem oI{C:Calls}{ar:Nat->Nat}:∀ {n:Nat} {es:List CE} {ρ:Rho} {S S':Sto} {ds:List D},evA C ar n es ρ S=some (ds,S')->ds.length=es.length
 |0,_,_,_,_,_,h=>by simp only[evA,xNo] at h;cases h
 |n+1,[],_,_,_,_,h=>by simp only[evA,BL] at h;cases h;rfl
 |n+1,e::es,_,_,_,_,h=>by
  simp only[evA,tK] at h;obtain⟨a,S1,e1,h⟩:=ab h;obtain⟨as,S2,e2,h⟩:=ab h;cases h;rw[Zv,Zv,oI e2]
structure SndW(C:Calls)(ar:Nat->Nat)(n:Nat):Prop where
 e:∀ {e:CE},Sd (wE C ar n e) (evE C ar n e)
 a:∀ {es:List CE},Sd (wA C ar n es) (evA C ar n es)
 m:∀ {e:CE},Sd (wTm C ar n e) (cF C ar n e)
 i:∀ {i:CI},Sd (wI C ar n i) (evI C ar n i)
 t:∀ {e:CE},Sd (wT C ar n e) (evT C ar n e)
section
variable {C:Calls} {ar:Nat->Nat} {n:Nat}
theorem MP(h:SndW C ar n){es:List CE}:Sd (wSh es (wOn D.tup (wA C ar n es))) (jf jg (evA C ar n es)):=λρ S Q w=>by
 obtain⟨le,w⟩:=ib w;obtain⟨ds,S1,e1,q⟩:=h.a _ _ _ w;refine aY ⟨ds,S1,e1,?_⟩;have l:=oI e1;show Ok (jg ds S1) Q;rw[CV];exact⟨by lia,q⟩
theorem zO(h:SndW C ar n){es:List CE}:Sd (wSh es (wA C ar n es)) (mq (evA C ar n es)):=λρ S Q w=>by
 obtain⟨le,w⟩:=ib w;obtain⟨ds,S1,e1,q⟩:=h.a _ _ _ w;rw[CU];have l:=oI e1;exact⟨ds,S1,e1,by lia,q⟩
theorem FH(h:SndW C ar n){o:Option CE}:Sd (wO (wO2 (wE C ar n) o)) (opt (evE C ar n) o):=by
 cases o with
 |none=>exact Oq
 |some e=>exact Ot h.e
theorem Dc{a b:D}{S:Sto}{Q:D->Sto->Prop}(h:zM a b S Q):Ok (yi a b S) Q:=by
 obtain⟨i,rfl,h'⟩:=b8 h;obtain⟨j,rfl,h''⟩:=b8 h';exact bm h''
theorem Dd{a b:D}{S:Sto}{Q:D->Sto->Prop}(h:zN a b S Q):Ok (yj a b S) Q:=by
 obtain⟨i,rfl,h'⟩:=b8 h;obtain⟨j,rfl,h''⟩:=b8 h';exact bm h''
end
section
variable {C:Calls} {ar:Nat->Nat} {n:Nat}
theorem MQ(h:SndW C ar n){o:Option CE}{w:WP (List D)}{x:XA}(hw:Sd w x):Sd (Db (wT C ar n) o w) (cnd (evT C ar n) o x):=by
 cases o with
 |none=>exact hw
 |some c=>exact IH h.t hw
theorem zP{α β:Type}{f:α->Sto->Option (β × Sto)}{a:α}{S:Sto}{Q:β->Sto->Prop}(h:wOk f a S Q):Ok (f a S) Q:=h
theorem s_q(h:SndW C ar n){f:Bool->List D->Sto->Option (D × Sto)}{a:CE}:Sd (wOf (ac a) (wTm C ar n a) (wE C ar n a) (wOk (f false)) (wOk (ai f))) (if ac a=true then lB f (cF C ar n a) else lH f (evE C ar n a)):=
 s_of (C6 (f:=f false) h.m zP) (C6 (f:=ai f) h.e zP)
theorem FI(h:SndW C ar n){a:CE}:Sd (wOf (ac a) (wTm C ar n a) (wE C ar n a) (C9 cq) (Da cq)) (if ac a=true then v5 cq (cF C ar n a) else v7 cq (evE C ar n a)):=s_of (MN h.m) (MO h.e)
theorem s_u{g:D->Sto->Option (D × Sto)}{w:WP D}{x:XE}(hw:Sd w x):Sd (wUn (wOk g) w) (xUn g x):=C6 (f:=g) hw zP
theorem OC{w:WP (List D)}{x:XA}(hw:Sd w x):Sd (wUn (w2 zM) w) (jf (two yi) x):=λ_ _ _ h=>aY ((hw _ _ _ h).mono λ_ _ h=>FF (λz=>Dc z) h)
theorem OD{w:WP (List D)}{x:XA}(hw:Sd w x):Sd (wUn (w2 zN) w) (jf (two yj) x):=λ_ _ _ h=>aY ((hw _ _ _ h).mono λ_ _ h=>FF (λz=>Dd z) h)
theorem II:Sd FG yP:=λ_ _ _ h=>bm h
theorem MR{w:WP D}{x:XE}(hw:Sd w x):Sd (wUn cj w) (BX x):=C6 (f:=j6) hw zL
theorem qy:∀n,SndW C ar n
 |0=>⟨oH,oH,oH,oH,oH⟩
 |n+1=>by
  have h:=qy n;refine⟨λ{e}=>?_,λ{es}=>?_,λ{e}=>?_,λ{i}=>?_,λ{e}=>?_⟩
  ·cases e with
   |non=>exact s_c
   |bl b=>exact s_c
   |int b=>exact s_c
   |str b=>exact s_c
   |var b=>exact Mz
   |con b v=>exact s_c
   |tup es=>exact MP h
   |lst es=>exact ia (zO h)
   |dic0=>exact II
   |bin o a b=>exact zD h.e h.e C7
   |neg a=>exact MF h.e
   |cmp o a b=>exact zD h.e h.e oD
   |chn o p a b c=>exact Fx h.e h.e h.e
   |and a b=>exact MB h.e h.e
   |or a b=>exact Op h.e h.e
   |not a=>exact MD h.e
   |ite c a b=>exact MH h.t h.e h.e
   |ix a b=>exact OB h.m h.e h.e
   |sl a lo hi=>exact Ou h.e (FH h) (FH h)
   |call f es=>exact IA h.a
   |inst t a=>exact s_u h.e
   |len a=>exact s_q h
   |all a=>exact s_q h
   |tupOf a=>exact s_q h
   |listR a=>exact ia (Fz h.e)
   |srt a=>exact ia (FI h)
   |mxL a=>exact s_q h
   |mxD a c=>exact s_q h
   |rev a=>exact s_u h.e
   |mnN a=>exact s_q h
   |sm a=>exact s_q h
   |mx a b=>exact OC h.a
   |mn a b=>exact OD h.a
   |rep a=>exact s_u h.e
   |comp own elt cls=>cases cls with
    |nil=>exact ia oH
    |cons c rest=>cases c with |mk tg it cond=>exact ia (zG h.i)
   |app o a=>exact um h.e h.a
   |popAt o a=>exact um h.e h.a
   |ext o a=>exact um h.e h.a
   |cnt o a=>exact um h.e h.a
  ·cases es with
   |nil=>exact MJ
   |cons e es=>exact IC h.e h.a
  ·cases e with
   |lst es=>exact zO h
   |listR a=>exact Fz h.e
   |srt a=>exact FI h
   |comp own elt cls=>cases cls with
    |nil=>exact oH
    |cons c rest=>cases c with |mk tg it cond=>exact zG h.i
   |_=>exact oH
  ·cases i with
   |val a=>exact s_of (zK h.m) (Ow h.e)
   |r1 a=>exact Oy h.e
   |dn a=>exact Oz h.e
   |r2 a b=>exact OA h.e h.e
   |en a=>exact s_of (zK h.m) (Ox h.e)
  ·cases e with
   |cmp o a b=>exact s_b (zD h.e h.e oD)
   |chn o p a b c=>exact s_b (Fx h.e h.e h.e)
   |and a b=>exact IE h.t h.t
   |or a b=>exact MM h.t h.t
   |not a=>exact IG h.t
   |ite a b c=>exact oH
   |_=>exact MR h.e
theorem OE{elt:CE}{cls:List Cl}:Sd (wCl C ar n elt cls) (fT C ar (n+1) elt cls):=by
 cases cls with
 |nil=>exact zK (qy n).e
 |cons c rest=>cases c with |mk tg it cond=>exact C8 (qy n).i
theorem IJ{elt:CE}{cls:List Cl}{o:Option CE}{ρ:Rho}{S:Sto}{Q:List D->Sto->Prop}(h:Db (wT C ar (n+1)) o (wCl C ar n elt cls) ρ S Q):Ok (cnd (evT C ar (n+1)) o (fT C ar (n+1) elt cls) ρ S) Q:=MQ (qy (n+1)) OE _ _ _ h
def wNm:Nat->D->Rho->(Rho->Prop)->Prop
 |_,_,[],_=>False
 |0,d,_::ρ,Q=>Q (some d::ρ)
 |i+1,d,o::ρ,Q=>wNm i d ρ λρ'=>Q (o::ρ')
theorem oJ:∀ {i:Nat} {d:D} {ρ:Rho} {Q:Rho->Prop},wNm i d ρ Q->i < ρ.length/\Q (ρ.set i (some d))
 |i,_,[],_,h=>by cases i <;> exact h.elim
 |0,d,_::ρ,Q,h=>⟨by simp,h⟩
 |i+1,d,o::ρ,Q,h=>by
  have:=oJ (ρ:=ρ) (Q:=λρ'=>Q (o::ρ')) h;exact⟨by rw[Zv];lia,this.2⟩
def wBs:List Tg->List D->Rho->(Rho->Prop)->Prop
 |[],[],ρ,Q=>Q ρ
 |[],_::_,_,_=>False
 |.name _::_,[],_,_=>False
 |.tup _::_,[],_,_=>False
 |.name i::ts,d::ds,ρ,Q=>wNm i d ρ λρ1=>wBs ts ds ρ1 Q
 |.tup us::ts,d::ds,ρ,Q=>∃ρ1,ax (.tup us) d ρ=some ρ1/\wBs ts ds ρ1 Q
def wTp(ts:List Tg)(d:D)(ρ:Rho)(Q:Rho->Prop):Prop:=match d with
 |.tup ds=>wBs ts ds ρ Q
 |.non=>False |.bl _=>False |.str _=>False |.int _=>False |.ref _=>False
def wBd:Tg->D->Rho->(Rho->Prop)->Prop
 |.name i,d,ρ,Q=>wNm i d ρ Q
 |.tup ts,d,ρ,Q=>wTp ts d ρ Q
theorem zQ{i:Nat}{d:D}{ρ:Rho}{Q:Rho->Prop}(h:wNm i d ρ Q):∃ρ1,ax (.name i) d ρ=some ρ1/\Q ρ1:=⟨_,by rw[C0,if_pos (oJ h).1],(oJ h).2⟩
theorem sG:∀ {ts:List Tg} {ds:List D} {ρ:Rho} {Q:Rho->Prop},wBs ts ds ρ Q->∃ρ1,aO ts ds ρ=some ρ1/\Q ρ1
 |[],[],ρ,Q,h=>⟨ρ,ui,h⟩
 |[],_::_,_,_,h=>h.elim
 |.name _::_,[],_,_,h=>h.elim
 |.tup _::_,[],_,_,h=>h.elim
 |.name i::ts,d::ds,ρ,Q,h=>by
  obtain⟨ρ1,e,q⟩:=zQ h;obtain⟨ρ2,e2,q⟩:=sG q;exact⟨ρ2,by rw[aO,e];exact e2,q⟩
 |.tup us::ts,d::ds,ρ,Q,h=>by
  obtain⟨ρ1,e,q⟩:=h;obtain⟨ρ2,e2,q⟩:=sG q;exact⟨ρ2,by rw[aO,e];exact e2,q⟩
theorem IK{t:Tg}{d:D}{ρ:Rho}{Q:Rho->Prop}(h:wBd t d ρ Q):∃ρ1,ax t d ρ=some ρ1/\Q ρ1:=by
 cases t with
 |name i=>exact zQ h
 |tup ts=>cases d with
  |tup ds=>rw[zA];exact sG h
  |_=>exact h.elim
@[inline]abbrev WS:=Rho->Sto->(Fl->Rho->Sto->Prop)->Prop
def rW(y:WS)(ρ:Rho)(S:Sto)(Q:Fl->Rho->Sto->Prop):Prop:=y ρ S Q
def wNx(y:WS)(Q:Fl->Rho->Sto->Prop)(f:Fl)(ρ:Rho)(S:Sto):Prop:=match f with
 |.nx=>rW y ρ S Q
 |.rt d=>Q (.rt d) ρ S
 |.bk=>Q .bk ρ S
 |.ct=>Q .ct ρ S
mutual
def wS(C:Calls)(ar:Nat->Nat):Nat->CS->WS
 |0,_=>λ_ _ _=>False
 |n+1,s=>match s with
  |.asg t e=>λρ S Q=>wE C ar n e ρ S λd S1=>wBd t d ρ λρ1=>Q .nx ρ1 S1
  |.setI v o i=>λρ S Q=>wE C ar n v ρ S λa S1=>wE C ar n o ρ S1 λb S2=>wE C ar n i ρ S2 λc S3=>∃S4,iB b c a S3=some S4/\Q .nx ρ S4
  |.ex e=>λρ S Q=>wE C ar n e ρ S λ_ S1=>Q .nx ρ S1
  |.ret e=>λρ S Q=>wE C ar n e ρ S λd S1=>Q (.rt d) ρ S1
  |.ifs c a b=>λρ S Q=>wT C ar n c ρ S λt S1=>wIf t (rW (wSs C ar n a) ρ S1 Q) (rW (wSs C ar n b) ρ S1 Q)
  |.for_ t it b=>λρ S Q=>wI C ar n it ρ S λnx S1=>OkS (eI nx t (gy C ar n b) LF 0 ρ S1) Q
  |.cnt=>λρ S Q=>Q .ct ρ S
  |.never=>λ_ _ _=>False
def wSs(C:Calls)(ar:Nat->Nat):Nat->List CS->WS
 |0,_=>λ_ _ _=>False
 |n+1,ss=>match ss with
  |[]=>λρ S Q=>Q .nx ρ S
  |s::ss=>λρ S Q=>wS C ar n s ρ S (wNx (wSs C ar n ss) Q)
end
structure SdS(C:Calls)(ar:Nat->Nat)(n:Nat):Prop where
 s:∀ {s:CS} {ρ S Q},wS C ar n s ρ S Q->OkS (evS C ar n s ρ S) Q
 ss:∀ {ss:List CS} {ρ S Q},wSs C ar n ss ρ S Q->OkS (gy C ar n ss ρ S) Q
theorem zR:∀n,SdS C ar n
 |0=>⟨λh=>by simp only[wS] at h,λh=>by simp only[wSs] at h⟩
 |n+1=>by
  have h:=zR n;have g:SndW C ar n:=qy n;refine⟨λ{s ρ S Q} w=>?_,λ{ss ρ S Q} w=>?_⟩
  ·cases s with
   |asg t e=>simp only[evS,CN];simp only[wS] at w;exact(g.e _ _ _ w).mono λd S1 w=>IK w
   |setI v o i=>simp only[evS,zv];simp only[wS] at w;exact(g.e _ _ _ w).mono λa S1 w=>(g.e _ _ _ w).mono λb S2 w=>g.e _ _ _ w
   |ex e=>simp only[evS,zu];simp only[wS] at w;exact g.e _ _ _ w
   |ret e=>simp only[evS,CO];simp only[wS] at w;exact g.e _ _ _ w
   |ifs c a b=>
    simp only[evS,HV];simp only[wS] at w;refine(g.t _ _ _ w).mono λt S1 w=>?_;cases t with
    |true=>exact h.ss w
    |false=>exact h.ss w
   |for_ t it b=>simp only[evS,CP];simp only[wS] at w;exact g.i _ _ _ w
   |cnt=>simp only[wS] at w;simp only[evS];exact⟨_,_,_,rfl,w⟩
   |never=>simp only[wS] at w
  ·cases ss with
   |nil=>simp only[wSs] at w;simp only[gy];exact⟨_,_,_,rfl,w⟩
   |cons s ss=>
    simp only[wSs] at w;simp only[gy,CM];refine(h.s w).mono λf ρ1 S1 w=>?_;cases f with
    |nx=>exact h.ss w
    |_=>exact w
theorem IL{ss:List CS}{ρ:Rho}{S:Sto}{Q:Fl->Rho->Sto->Prop}(h:rW (wSs C ar n ss) ρ S Q):OkS (gy C ar n ss ρ S) Q:=(zR n).ss h
theorem zS{s:CS}{ss:List CS}{ρ:Rho}{S:Sto}{Q:Fl->Rho->Sto->Prop}(h:wS C ar n s ρ S (wNx (wSs C ar n ss) Q)):rW (wSs C ar (n+1) (s::ss)) ρ S Q:=h
theorem De{ρ:Rho}{S:Sto}{Q:Fl->Rho->Sto->Prop}(h:Q .nx ρ S):rW (wSs C ar (n+1) []) ρ S Q:=h
end
section
variable {C:Calls} {ar:Nat->Nat} {A B:Prop} {S S1:Sto} {Q:D->Sto->Prop} {Ql:List D->Sto->Prop} {Qn:Nxt->Sto->Prop} {Qb:Bool->Prop} {Qi:Int->Prop} {Qd:D->Prop} {Qr:Rho->Prop} {Qt:Bool->Sto->Prop} {Qs:Fl->Rho->Sto->Prop} {t:Bool} {d x y:D} {i j:Int} {n m f:Nat} {s:Str} {o:BOp} {c p:COp} {ds xs ys:List D} {l h:Option Int} {tg:Tg} {ts:List Tg} {ρ ρ2:Rho} {es:List CE} {a b e:CE} {oa ob cd:Option CE} {own:List Str} {it:CI} {rest:List Cl} {ty:Ty} {w wl:WP (List D)} {wv:WP D} {sa sb:List CS} {ws:WS} {od:Option D} {g:D->D->Sto->(D->Sto->Prop)->Prop}
theorem IM:wE C ar (n+1) (.non) ρ S Q=(Q .non S):=rfl
theorem MS:wE C ar (n+1) (.bl t) ρ S Q=(Q (.bl t) S):=rfl
theorem IP:wE C ar (n+1) (.int i) ρ S Q=(Q (.int i) S):=rfl
theorem IQ:wE C ar (n+1) (.str s) ρ S Q=(Q (.str s) S):=rfl
theorem IR:wE C ar (n+1) (.con m i) ρ S Q=(Q (.int i) S):=rfl
theorem IS:wE C ar (n+1) (.var m) ρ S Q=(sC ρ m λd=>Q d S):=rfl
theorem IT:wE C ar (n+1) (.tup es) ρ S Q=(dZ 60 es (wA C ar n es ρ S λds S1=>Q (.tup ds) S1)):=rfl
theorem IU:wE C ar (n+1) (.lst es) ρ S Q=(dZ 60 es (wA C ar n es ρ S λds S1=>Q (.ref S1.length) (S1++[.lst ds]))):=rfl
theorem Df:wE C ar (n+1) (.dic0) ρ S Q=(Q (.ref (Zj S)) (S++[.dic [] []])):=rfl
theorem IV:wE C ar (n+1) (.bin o a b) ρ S Q=(wE C ar n a ρ S λx S1=>wE C ar n b ρ S1 λy S2=>sD o x y S2 Q):=rfl
theorem IW:wE C ar (n+1) (.neg a) ρ S Q=(wE C ar n a ρ S λd S1=>cu d λi=>Q (.int (-i)) S1):=rfl
theorem IX:wE C ar (n+1) (.cmp c a b) ρ S Q=(wE C ar n a ρ S λx S1=>wE C ar n b ρ S1 λy S2=>wCm c x y S2 Q):=rfl
theorem IY:wE C ar (n+1) (.chn c p a b e) ρ S Q=(wE C ar n a ρ S λx S1=>wE C ar n b ρ S1 λy S2=>wCm c x y S2 λr S3=>wBl r λt=>wIf t (wE C ar n e ρ S3 λz S4=>wCm p y z S4 Q) (Q (.bl false) S3)):=rfl
theorem IZ:wE C ar (n+1) (.and a b) ρ S Q=(wE C ar n a ρ S λd S1=>wBl d λt=>wIf t (wE C ar n b ρ S1 Q) (Q (.bl false) S1)):=rfl
theorem MU:wE C ar (n+1) (.or a b) ρ S Q=(wE C ar n a ρ S λd S1=>wBl d λt=>wIf t (Q (.bl true) S1) (wE C ar n b ρ S1 Q)):=rfl
theorem I0:wE C ar (n+1) (.not a) ρ S Q=(wE C ar n a ρ S λd S1=>wBl d λt=>Q (.bl (!t)) S1):=rfl
theorem I8:wE C ar (n+1) (.ite e a b) ρ S Q=(wT C ar n e ρ S λt S1=>wIf t (wE C ar n a ρ S1 Q) (wE C ar n b ρ S1 Q)):=rfl
theorem MV:wE C ar (n+1) (.ix a b) ρ S Q=(aR (ac a) (wTm C ar n a) (wE C ar n a) ρ S (λds S1=>wE C ar n b ρ S1 λi S2=>cu i λk=>∃d,atI ds k=some d/\Q d S2) (λd S1=>wE C ar n b ρ S1 λi S2=>Ok (ixS d i S2) Q)):=rfl
theorem Dg:wE C ar (n+1) (.sl a none none) ρ S Q=(wE C ar n a ρ S λd S1=>sE none none d S1 Q):=rfl
theorem Dh:wE C ar (n+1) (.sl a none (some b)) ρ S Q=(wE C ar n a ρ S λd S1=>wE C ar n b ρ S1 λy S2=>cu y λj=>sE none (some j) d S2 Q):=rfl
theorem Di:wE C ar (n+1) (.sl a (some b) none) ρ S Q=(wE C ar n a ρ S λd S1=>wE C ar n b ρ S1 λy S2=>cu y λj=>sE (some j) none d S2 Q):=rfl
theorem Dj:wE C ar (n+1) (.sl a (some b) (some e)) ρ S Q=(wE C ar n a ρ S λd S1=>wE C ar n b ρ S1 λy S2=>cu y λj=>wE C ar n e ρ S2 λz S3=>cu z λk=>sE (some j) (some k) d S3 Q):=rfl
theorem Dk:wE C ar (n+1) (.call f es) ρ S Q=(wA C ar n es ρ S λds S1=>ds.length=ar f/\Ok (C f ds S1) Q):=rfl
theorem Dm:wE C ar (n+1) (.inst ty a) ρ S Q=(wE C ar n a ρ S λd S1=>Ok (j8 ty d S1) Q):=rfl
theorem Ja:wE C ar (n+1) (.len a) ρ S Q=(aR (ac a) (wTm C ar n a) (wE C ar n a) ρ S (λds S1=>Ok (cB false ds S1) Q) (λd S1=>Ok (ai cB d S1) Q)):=rfl
theorem Jb:wE C ar (n+1) (.all a) ρ S Q=(aR (ac a) (wTm C ar n a) (wE C ar n a) ρ S (λds S1=>Ok (ji false ds S1) Q) (λd S1=>Ok (ai ji d S1) Q)):=rfl
theorem zT:wE C ar (n+1) (.tupOf a) ρ S Q=(aR (ac a) (wTm C ar n a) (wE C ar n a) ρ S (λds S1=>Ok (cL false ds S1) Q) (λd S1=>Ok (ai cL d S1) Q)):=rfl
theorem Jc:wE C ar (n+1) (.mxL a) ρ S Q=(aR (ac a) (wTm C ar n a) (wE C ar n a) ρ S (λds S1=>Ok (lK false ds S1) Q) (λd S1=>Ok (ai lK d S1) Q)):=rfl
theorem Jd:wE C ar (n+1) (.mxD a i) ρ S Q=(aR (ac a) (wTm C ar n a) (wE C ar n a) ρ S (λds S1=>Ok (fY i false ds S1) Q) (λd S1=>Ok (ai (fY i) d S1) Q)):=rfl
theorem MW:wE C ar (n+1) (.sm a) ρ S Q=(aR (ac a) (wTm C ar n a) (wE C ar n a) ρ S (λds S1=>Ok (pX false ds S1) Q) (λd S1=>Ok (ai pX d S1) Q)):=rfl
theorem zU:wE C ar (n+1) (.listR a) ρ S Q=(wE C ar n a ρ S λd S1=>∃i:Nat,d = .int i/\i<=1000/\Q (.ref S1.length) (S1++[.lst ((Zl i).map λj=>.int (Int.ofNat j))])):=rfl
theorem Je:wE C ar (n+1) (.srt a) ρ S Q=(aR (ac a) (wTm C ar n a) (wE C ar n a) ρ S (λds S1=>∃es,cq false ds=some es/\Q (.ref S1.length) (S1++[.lst es])) (λd S1=>∃r es,ay d S1=some r/\cq r.1 r.2=some es/\Q (.ref S1.length) (S1++[.lst es]))):=rfl
theorem Jf:wE C ar (n+1) (.rev a) ρ S Q=(wE C ar n a ρ S λd S1=>Ok (rG d S1) Q):=rfl
theorem Jg:wE C ar (n+1) (.mnN a) ρ S Q=(aR (ac a) (wTm C ar n a) (wE C ar n a) ρ S (λds S1=>Ok (jj false ds S1) Q) (λd S1=>Ok (ai jj d S1) Q)):=rfl
theorem MX:wE C ar (n+1) (.mx a b) ρ S Q=(wA C ar n [a,b] ρ S λds S1=>w2 zM ds S1 Q):=rfl
theorem MY:wE C ar (n+1) (.mn a b) ρ S Q=(wA C ar n [a,b] ρ S λds S1=>w2 zN ds S1 Q):=rfl
theorem Jh:wE C ar (n+1) (.rep a) ρ S Q=(wE C ar n a ρ S λd S1=>Ok (kj d S1) Q):=rfl
theorem Dn:wE C ar (n+1) (.comp own a (⟨tg,it,cd⟩::rest)) ρ S Q=(wI C ar n it ρ S λnx S1=>qw own [] λr=>qx ρ r λρ'=>wFt tg ρ' (Ok (be nx tg (cnd (evT C ar n) cd (fT C ar n a rest)) ρ' LF 0 S1) λes S2=>es.length<=100000/\Q (.ref S2.length) (S2++[.lst es]))):=rfl
theorem Ji:wE C ar (n+1) (.app a b) ρ S Q=(wE C ar n a ρ S λd S1=>dr d S1=true/\wA C ar n [b] ρ S1 λas S2=>Ok (rR d as S2) Q):=rfl
theorem zV:wE C ar (n+1) (.popAt a b) ρ S Q=(wE C ar n a ρ S λd S1=>dr d S1=true/\wA C ar n [b] ρ S1 λas S2=>Ok (gr d as S2) Q):=rfl
theorem Jj:wE C ar (n+1) (.ext a e) ρ S Q=(wE C ar n a ρ S λd S1=>dr d S1=true/\wA C ar n [e] ρ S1 λas S2=>Ok (rX d as S2) Q):=rfl
theorem Jk:wE C ar (n+1) (.cnt a b) ρ S Q=(wE C ar n a ρ S λd S1=>isTup d=true/\wA C ar n [b] ρ S1 λas S2=>Ok (rT d as S2) Q):=rfl
theorem OG:wA C ar (n+1) [] ρ S Ql=Ql [] S:=rfl
theorem OH:wA C ar (n+1) (a::es) ρ S Ql=(wE C ar n a ρ S λd S1=>wA C ar n es ρ S1 λds S2=>Ql (d::ds) S2):=rfl
theorem Jl:wTm C ar (n+1) (.lst es) ρ S Ql=dZ 60 es (wA C ar n es ρ S Ql):=rfl
theorem zW:wTm C ar (n+1) (.listR a) ρ S Ql=(wE C ar n a ρ S λd S1=>∃i:Nat,d = .int i/\i<=1000/\Ql ((Zl i).map λj=>.int (Int.ofNat j)) S1):=rfl
theorem Jm:wTm C ar (n+1) (.srt a) ρ S Ql=(aR (ac a) (wTm C ar n a) (wE C ar n a) ρ S (λds S1=>∃es,cq false ds=some es/\Ql es S1) (λd S1=>∃r es,ay d S1=some r/\cq r.1 r.2=some es/\Ql es S1)):=rfl
theorem Dp:wTm C ar (n+1) (.comp own a (⟨tg,it,cd⟩::rest)) ρ S Ql=(wI C ar n it ρ S λnx S1=>qw own [] λr=>qx ρ r λρ'=>wFt tg ρ' (Ok (be nx tg (cnd (evT C ar n) cd (fT C ar n a rest)) ρ' LF 0 S1) λes S2=>es.length<=100000/\Ql es S2)):=rfl
theorem Jn:wI C ar (n+1) (.val a) ρ S Qn=(aR (ac a) (wTm C ar n a) (wE C ar n a) ρ S (λds S1=>Qn (nxL ds) S1) (λd S1=>zI d S1 Qn)):=rfl
theorem MZ:wI C ar (n+1) (.en a) ρ S Qn=(aR (ac a) (wTm C ar n a) (wE C ar n a) ρ S (λds S1=>Qn (rY ds) S1) (λd S1=>zJ d S1 Qn)):=rfl
theorem M0:wI C ar (n+1) (.r1 a) ρ S Qn=(wE C ar n a ρ S λd S1=>cu d λj=>lim j=true/\Qn (nxR 0 j.toNat) S1):=rfl
theorem M1:wI C ar (n+1) (.dn a) ρ S Qn=(wE C ar n a ρ S λd S1=>cu d λj=>lim j=true/\Qn (nxD j (j+1).toNat) S1):=rfl
theorem M2:wI C ar (n+1) (.r2 a b) ρ S Qn=(wE C ar n a ρ S λd S1=>wE C ar n b ρ S1 λe S2=>cu d λi=>cu e λj=>(lim i=true/\lim j=true)/\Qn (nxR i (j - i).toNat) S2):=rfl
theorem Jo:wT C ar (n+1) (.cmp c a b) ρ S Qt=(wE C ar n a ρ S λx S1=>wE C ar n b ρ S1 λy S2=>wCm c x y S2 λd S3=>wBl d λt=>Qt t S3):=rfl
theorem Jp:wT C ar (n+1) (.chn c p a b e) ρ S Qt=(wE C ar n a ρ S λx S1=>wE C ar n b ρ S1 λy S2=>wCm c x y S2 λr S3=>wBl r λt=>wIf t (wE C ar n e ρ S3 λz S4=>wCm p y z S4 λd S5=>wBl d λt=>Qt t S5) (wBl (.bl false) λt=>Qt t S3)):=rfl
theorem Jq:wT C ar (n+1) (.and a b) ρ S Qt=(wT C ar n a ρ S λt S1=>wIf t (wT C ar n b ρ S1 Qt) (Qt false S1)):=rfl
theorem M3:wT C ar (n+1) (.or a b) ρ S Qt=(wT C ar n a ρ S λt S1=>wIf t (Qt true S1) (wT C ar n b ρ S1 Qt)):=rfl
theorem Jr:wT C ar (n+1) (.not a) ρ S Qt=(wT C ar n a ρ S λt S1=>Qt (!t) S1):=rfl
theorem M4:wT C ar (n+1) (.bl t) ρ S Qt=(wE C ar n (.bl t) ρ S λd S1=>cj d S1 Qt):=rfl
theorem Js:wT C ar (n+1) (.var m) ρ S Qt=(wE C ar n (.var m) ρ S λd S1=>cj d S1 Qt):=rfl
theorem Dq:wT C ar (n+1) (.call f es) ρ S Qt=(wE C ar n (.call f es) ρ S λd S1=>cj d S1 Qt):=rfl
theorem Ds:wT C ar (n+1) (.inst ty a) ρ S Qt=(wE C ar n (.inst ty a) ρ S λd S1=>cj d S1 Qt):=rfl
theorem Jt:wT C ar (n+1) (.all a) ρ S Qt=(wE C ar n (.all a) ρ S λd S1=>cj d S1 Qt):=rfl
theorem Ju:wT C ar (n+1) (.len a) ρ S Qt=(wE C ar n (.len a) ρ S λd S1=>cj d S1 Qt):=rfl
theorem M5:wT C ar (n+1) (.ix a b) ρ S Qt=(wE C ar n (.ix a b) ρ S λd S1=>cj d S1 Qt):=rfl
theorem Jv:wT C ar (n+1) (.lst es) ρ S Qt=(wE C ar n (.lst es) ρ S λd S1=>cj d S1 Qt):=rfl
theorem Jw:wT C ar (n+1) (.tup es) ρ S Qt=(wE C ar n (.tup es) ρ S λd S1=>cj d S1 Qt):=rfl
theorem OI:wCl C ar n a [] ρ S Ql=(wE C ar n a ρ S λd S1=>Ql [d] S1):=rfl
theorem OJ:wCl C ar n a (⟨tg,it,cd⟩::rest) ρ S Ql=(wFt tg ρ (wI C ar n it ρ S λnx S1=>Ok (be nx tg (cnd (evT C ar n) cd (fT C ar n a rest)) ρ LF 0 S1) Ql)):=rfl
theorem OK:Db (wT C ar n) none w ρ S Ql=w ρ S Ql:=rfl
theorem OL:Db (wT C ar n) (some a) w ρ S Ql=(wT C ar n a ρ S λt S1=>wIf t (w ρ S1 Ql) (Ql [] S1)):=rfl
theorem Jx:wS C ar (n+1) (.asg tg a) ρ S Qs=(wE C ar n a ρ S λd S1=>wBd tg d ρ λρ1=>Qs .nx ρ1 S1):=rfl
theorem Dt:wS C ar (n+1) (.setI a b e) ρ S Qs=(wE C ar n a ρ S λx S1=>wE C ar n b ρ S1 λy S2=>wE C ar n e ρ S2 λz S3=>∃S4,iB y z x S3=some S4/\Qs .nx ρ S4):=rfl
theorem M6:wS C ar (n+1) (.ex a) ρ S Qs=(wE C ar n a ρ S λ_ S1=>Qs .nx ρ S1):=rfl
theorem Jy:wS C ar (n+1) (.ret a) ρ S Qs=(wE C ar n a ρ S λd S1=>Qs (.rt d) ρ S1):=rfl
theorem Jz:wS C ar (n+1) (.ifs a sa sb) ρ S Qs=(wT C ar n a ρ S λt S1=>wIf t (rW (wSs C ar n sa) ρ S1 Qs) (rW (wSs C ar n sb) ρ S1 Qs)):=rfl
theorem JA:wS C ar (n+1) (.for_ tg it sa) ρ S Qs=(wI C ar n it ρ S λnx S1=>OkS (eI nx tg (gy C ar n sa) LF 0 ρ S1) Qs):=rfl
theorem JB:wS C ar (n+1) .cnt ρ S Qs=Qs .ct ρ S:=rfl
theorem M7:wNx ws Qs .nx ρ S=rW ws ρ S Qs:=rfl
theorem M8:wNx ws Qs (.rt d) ρ S=Qs (.rt d) ρ S:=rfl
theorem M9:wNx ws Qs .bk ρ S=Qs .bk ρ S:=rfl
theorem Na:wNx ws Qs .ct ρ S=Qs .ct ρ S:=rfl
theorem JC:wIf (true && t) A B=wIf t A B:=rfl
theorem JD:wIf (false && t) A B=B:=rfl
theorem JE:wIf (true || t) A B=A:=rfl
theorem Du:wIf (false || t) A B=wIf t A B:=rfl
theorem Dv:wIf (!(true && t)) A B=wIf (!t) A B:=rfl
theorem Dx:wIf (!(false && t)) A B=A:=rfl
theorem Dy:wIf (!(true || t)) A B=B:=rfl
theorem Dz:wIf (!(false || t)) A B=wIf (!t) A B:=rfl
theorem Nb:wIf true A B=A:=rfl
theorem Nc:wIf false A B=B:=rfl
theorem JF:wIf (!true) A B=B:=rfl
theorem JG:wIf (!false) A B=A:=rfl
theorem Nd:wBl (.bl t) Qb=Qb t:=rfl
theorem JH:cu (.int i) Qi=Qi i:=rfl
theorem JI:sC (some d::ρ) 0 Qd=Qd d:=rfl
theorem JJ:sC (od::ρ) (n+1) Qd=sC ρ n Qd:=rfl
theorem Ng:wFr (none::ρ) 0 A=A:=rfl
theorem Nh:wFr (od::ρ) (n+1) A=wFr ρ n A:=rfl
theorem JK:qv [] ρ A=A:=rfl
theorem JL:qv (.name m::ts) ρ A=wFr ρ m (qv ts ρ A):=rfl
theorem Ni:wFt (.name m) ρ A=wFr ρ m A:=rfl
theorem Nj:wFt (.tup ts) ρ A=qv ts ρ A:=rfl
theorem JM:qw [] ρ Qr=Qr ρ:=rfl
theorem JN:qw (s::own) ρ Qr=qw own (none::ρ) Qr:=rfl
theorem JO:qx [] ρ Qr=Qr ρ:=rfl
theorem JP:qx (od::ρ) ρ2 Qr=qx ρ ρ2 λr=>Qr (od::r):=rfl
theorem Nk:dZ (n+1) [] A=A:=rfl
theorem Nm:dZ (n+1) (a::es) A=dZ n es A:=rfl
theorem Nn:wNm 0 d (od::ρ) Qr=Qr (some d::ρ):=rfl
theorem Np:wNm (n+1) d (od::ρ) Qr=wNm n d ρ λr=>Qr (od::r):=rfl
theorem Nq:wBs [] [] ρ Qr=Qr ρ:=rfl
theorem Nr:wBs (.name m::ts) (d::ds) ρ Qr=wNm m d ρ λr=>wBs ts ds r Qr:=rfl
theorem Nt:wBd (.name m) d ρ Qr=wNm m d ρ Qr:=rfl
theorem Nu:wBd (.tup ts) d ρ Qr=wTp ts d ρ Qr:=rfl
theorem Nv:wTp ts (.tup ds) ρ Qr=wBs ts ds ρ Qr:=rfl
theorem DA:wII .add i j S Q=Q (.int (i+j)) S:=rfl
theorem DB:wII .sub i j S Q=Q (.int (i - j)) S:=rfl
theorem DC:wII .mul i j S Q=(fX i j=true/\Q (.int (i * j)) S):=rfl
theorem DD:wII .mod i j S Q=(0 < j/\Q (.int (i % j)) S):=rfl
theorem zX:wII .fdiv i j S Q=((0 < j/\j < 1298074214633706907132624082305024)/\Q (.int (i / j)) S):=rfl
theorem DE:wII .pow i j S Q=((0<=j/\j<=1000000/\i.natAbs < 2 ^ 64)/\Q (.int (i ^ j.toNat)) S):=rfl
theorem DF:wTT .add xs ys S Q=(xs.length+ys.length<=1000/\Q (.tup (xs++ys)) S):=rfl
theorem DG:zE o i (.int j) S Q=wII o i j S Q:=rfl
theorem DH:ul o xs (.tup ys) S Q=wTT o xs ys S Q:=rfl
theorem DI:ul o xs (.int j) S Q=Ok (bE o (.tup xs) (.int j) S) Q:=rfl
theorem JQ:sD o (.int i) y S Q=zE o i y S Q:=rfl
theorem JR:sD o (.tup xs) y S Q=ul o xs y S Q:=rfl
theorem JS:sD o (.ref n) y S Q=Ok (bE o (.ref n) y S) Q:=rfl
theorem JT:sD o (.str s) y S Q=Ok (bE o (.str s) y S) Q:=rfl
theorem JU:wCI .eq i j S Q=Q (.bl (decide (i=j))) S:=rfl
theorem JV:wCm .eq x y S Q=wCx .eq x y S Q:=rfl
theorem JW:wCI .ne i j S Q=Q (.bl (!decide (i=j))) S:=rfl
theorem JX:wCm .ne x y S Q=wCx .ne x y S Q:=rfl
theorem JY:wCI .lt i j S Q=Q (.bl (decide (i < j))) S:=rfl
theorem JZ:wCm .lt x y S Q=wCx .lt x y S Q:=rfl
theorem J0:wCI .le i j S Q=Q (.bl (decide (i<=j))) S:=rfl
theorem J1:wCm .le x y S Q=wCx .le x y S Q:=rfl
theorem J2:wCI .gt i j S Q=Q (.bl (decide (j < i))) S:=rfl
theorem J3:wCm .gt x y S Q=wCx .gt x y S Q:=rfl
theorem J4:wCI .ge i j S Q=Q (.bl (decide (j<=i))) S:=rfl
theorem J5:wCm .ge x y S Q=wCx .ge x y S Q:=rfl
theorem J6:wCm .is x y S Q=Ok (am .is x y S) Q:=rfl
theorem wn:wCm .isnot x y S Q=Ok (am .isnot x y S) Q:=rfl
theorem zY:wCm .isin x y S Q=Ok (am .isin x y S) Q:=rfl
theorem wo:wCm .notin x y S Q=Ok (am .notin x y S) Q:=rfl
theorem Nw:wCx c (.int i) y S Q=Ix c i y S Q:=rfl
theorem Nx:wCx c (.tup xs) y S Q=wm c xs y S Q:=rfl
theorem Ny:wCx c .non y S Q=Ok (am c .non y S) Q:=rfl
theorem Nz:wCx c (.bl t) y S Q=Ok (am c (.bl t) y S) Q:=rfl
theorem NA:wCx c (.str s) y S Q=Ok (am c (.str s) y S) Q:=rfl
theorem NB:wCx c (.ref n) y S Q=Ok (am c (.ref n) y S) Q:=rfl
theorem J7:Ix c i (.int j) S Q=wCI c i j S Q:=rfl
theorem J8:wm .eq xs (.tup []) S Q=Q (.bl xs.isEmpty) S:=rfl
theorem J9:wm .ne xs (.tup []) S Q=Q (.bl (!xs.isEmpty)) S:=rfl
theorem DJ:wm .eq xs (.tup (y::ys)) S Q=Ok (am .eq (.tup xs) (.tup (y::ys)) S) Q:=rfl
theorem DK:wm .ne xs (.tup (y::ys)) S Q=Ok (am .ne (.tup xs) (.tup (y::ys)) S) Q:=rfl
theorem Ka:sE l h (.tup ds) S Q=Q (.tup (gk ds l h)) S:=rfl
theorem Kb:sE l h (.ref n) S Q=Ok (slS l h (.ref n) S) Q:=rfl
theorem Kc:zI (.tup ds) S Qn=Qn (nxL ds) S:=rfl
theorem Kd:zI (.ref n) S Qn=((ak S n).isSome=true/\Qn (nxS n) S):=rfl
theorem Ke:zJ (.tup ds) S Qn=Qn (rY ds) S:=rfl
theorem Kf:zJ (.ref n) S Qn=((ak S n).isSome=true/\Qn (B5 n) S):=rfl
theorem DM:cj (.bl t) S Qt=Qt t S:=rfl
theorem DN:cj (.tup ds) S Qt=Qt (!ds.isEmpty) S:=rfl
theorem DP:cj (.int i) S Qt=Qt (i != 0) S:=rfl
theorem DQ:cj (.ref n) S Qt=Ok (j6 (.ref n) S) Qt:=rfl
theorem OM:w2 g [x,y] S Q=g x y S Q:=rfl
theorem Kg:zM (.int i) (.int j) S Q=Q (.int (if j > i then j else i)) S:=rfl
theorem Kh:zN (.int i) (.int j) S Q=Q (.int (if j < i then j else i)) S:=rfl
theorem DR:aR (ac (.lst es)) wl wv ρ S Ql Q=wl ρ S Ql:=rfl
theorem wp:aR (ac (.listR a)) wl wv ρ S Ql Q=wl ρ S Ql:=rfl
theorem DS:aR (ac (.srt a)) wl wv ρ S Ql Q=wl ρ S Ql:=rfl
theorem zZ:aR (ac (.comp own a rest)) wl wv ρ S Ql Q=wl ρ S Ql:=rfl
theorem DT:aR (ac (.non)) wl wv ρ S Ql Q=wv ρ S Q:=rfl
theorem Ki:aR (ac (.bl t)) wl wv ρ S Ql Q=wv ρ S Q:=rfl
theorem DU:aR (ac (.int i)) wl wv ρ S Ql Q=wv ρ S Q:=rfl
theorem DV:aR (ac (.str s)) wl wv ρ S Ql Q=wv ρ S Q:=rfl
theorem DW:aR (ac (.var m)) wl wv ρ S Ql Q=wv ρ S Q:=rfl
theorem DX:aR (ac (.con m i)) wl wv ρ S Ql Q=wv ρ S Q:=rfl
theorem DY:aR (ac (.tup es)) wl wv ρ S Ql Q=wv ρ S Q:=rfl
theorem z3:aR (ac (.dic0)) wl wv ρ S Ql Q=wv ρ S Q:=rfl
theorem DZ:aR (ac (.bin o a b)) wl wv ρ S Ql Q=wv ρ S Q:=rfl
theorem D0:aR (ac (.neg a)) wl wv ρ S Ql Q=wv ρ S Q:=rfl
theorem D1:aR (ac (.cmp c a b)) wl wv ρ S Ql Q=wv ρ S Q:=rfl
theorem D2:aR (ac (.chn c p a b e)) wl wv ρ S Ql Q=wv ρ S Q:=rfl
theorem D3:aR (ac (.and a b)) wl wv ρ S Ql Q=wv ρ S Q:=rfl
theorem Kj:aR (ac (.or a b)) wl wv ρ S Ql Q=wv ρ S Q:=rfl
theorem D4:aR (ac (.not a)) wl wv ρ S Ql Q=wv ρ S Q:=rfl
theorem D5:aR (ac (.ite e a b)) wl wv ρ S Ql Q=wv ρ S Q:=rfl
theorem Kk:aR (ac (.ix a b)) wl wv ρ S Ql Q=wv ρ S Q:=rfl
theorem Kl:aR (ac (.sl a oa ob)) wl wv ρ S Ql Q=wv ρ S Q:=rfl
theorem z4:aR (ac (.call f es)) wl wv ρ S Ql Q=wv ρ S Q:=rfl
theorem z5:aR (ac (.inst ty a)) wl wv ρ S Ql Q=wv ρ S Q:=rfl
theorem D6:aR (ac (.len a)) wl wv ρ S Ql Q=wv ρ S Q:=rfl
theorem D7:aR (ac (.all a)) wl wv ρ S Ql Q=wv ρ S Q:=rfl
theorem wq:aR (ac (.tupOf a)) wl wv ρ S Ql Q=wv ρ S Q:=rfl
theorem D8:aR (ac (.mxL a)) wl wv ρ S Ql Q=wv ρ S Q:=rfl
theorem D9:aR (ac (.mxD a i)) wl wv ρ S Ql Q=wv ρ S Q:=rfl
theorem Km:aR (ac (.sm a)) wl wv ρ S Ql Q=wv ρ S Q:=rfl
theorem Ea:aR (ac (.rev a)) wl wv ρ S Ql Q=wv ρ S Q:=rfl
theorem Eb:aR (ac (.mnN a)) wl wv ρ S Ql Q=wv ρ S Q:=rfl
theorem Ko:aR (ac (.mx a b)) wl wv ρ S Ql Q=wv ρ S Q:=rfl
theorem Kq:aR (ac (.mn a b)) wl wv ρ S Ql Q=wv ρ S Q:=rfl
theorem Ec:aR (ac (.rep a)) wl wv ρ S Ql Q=wv ρ S Q:=rfl
theorem Ed:aR (ac (.app a b)) wl wv ρ S Ql Q=wv ρ S Q:=rfl
theorem wt:aR (ac (.popAt a b)) wl wv ρ S Ql Q=wv ρ S Q:=rfl
theorem Ee:aR (ac (.ext a e)) wl wv ρ S Ql Q=wv ρ S Q:=rfl
theorem Ef:aR (ac (.cnt a b)) wl wv ρ S Ql Q=wv ρ S Q:=rfl
theorem aa{α:Type}{z:Option (α × Sto)}{r:α}{S2:Sto}{K:α->Sto->Prop}(e:z=some (r,S2))(q:K r S2):Ok z K:=⟨r,S2,e,q⟩
theorem cx(h1:t=true->A)(h2:t=false->B):wIf t A B:=by
 cases t with
 |true=>exact h1 rfl
 |false=>exact h2 rfl
end
end Ev
local macro_rules |`(tactic|k_go)=>`(tactic|dsimp only[↓Ev.IM,↓Ev.MS,↓Ev.IP,↓Ev.IQ,↓Ev.IR,↓Ev.IS,↓Ev.IT,↓Ev.IU,↓Ev.Df,↓Ev.IV,↓Ev.IW,↓Ev.IX,↓Ev.IY,↓Ev.IZ,↓Ev.MU,↓Ev.I0,↓Ev.I8,↓Ev.MV,↓Ev.Dg,↓Ev.Dh,↓Ev.Di,↓Ev.Dj,↓Ev.Dk,↓Ev.Dm,↓Ev.Ja,↓Ev.Jb,↓Ev.zT,↓Ev.Jc,↓Ev.Jd,↓Ev.MW,↓Ev.zU,↓Ev.Je,↓Ev.Jf,↓Ev.Jg,↓Ev.MX,↓Ev.MY,↓Ev.Jh,↓Ev.Dn,↓Ev.Ji,↓Ev.zV,↓Ev.Jj,↓Ev.Jk,↓Ev.OG,↓Ev.OH,↓Ev.Jl,↓Ev.zW,↓Ev.Jm,↓Ev.Dp,↓Ev.Jn,↓Ev.MZ,↓Ev.M0,↓Ev.M2,↓Ev.M1,↓Ev.Jo,↓Ev.Jp,↓Ev.Jq,↓Ev.M3,↓Ev.Jr,↓Ev.M4,↓Ev.Js,↓Ev.Dq,↓Ev.Ds,↓Ev.Jt,↓Ev.Ju,↓Ev.M5,↓Ev.Jv,↓Ev.Jw,↓Ev.OI,↓Ev.OJ,↓Ev.OK,↓Ev.OL,↓Ev.Jx,↓Ev.Dt,↓Ev.M6,↓Ev.Jy,↓Ev.Jz,↓Ev.JA,↓Ev.JB,↓Ev.M7,↓Ev.M8,↓Ev.M9,↓Ev.Na,↓Ev.JC,↓Ev.JD,↓Ev.JE,↓Ev.Du,↓Ev.Dv,↓Ev.Dx,↓Ev.Dy,↓Ev.Dz,↓Ev.Nb,↓Ev.Nc,↓Ev.JF,↓Ev.JG,↓Ev.Nd,↓Ev.JH,↓Ev.JI,↓Ev.JJ,↓Ev.Ng,↓Ev.Nh,↓Ev.JK,↓Ev.JL,↓Ev.Ni,↓Ev.Nj,↓Ev.JM,↓Ev.JN,↓Ev.JO,↓Ev.JP,↓Ev.Nk,↓Ev.Nm,↓Ev.Nn,↓Ev.Np,↓Ev.Nq,↓Ev.Nr,↓Ev.Nt,↓Ev.Nu,↓Ev.Nv,↓Ev.DA,↓Ev.DB,↓Ev.DC,↓Ev.DD,↓Ev.zX,↓Ev.DE,↓Ev.DF,↓Ev.DG,↓Ev.DH,↓Ev.DI,↓Ev.JQ,↓Ev.JR,↓Ev.JS,↓Ev.JT,↓Ev.JU,↓Ev.JV,↓Ev.JW,↓Ev.JX,↓Ev.JY,↓Ev.JZ,↓Ev.J0,↓Ev.J1,↓Ev.J2,↓Ev.J3,↓Ev.J4,↓Ev.J5,↓Ev.J6,↓Ev.wn,↓Ev.zY,↓Ev.wo,↓Ev.Nw,↓Ev.Nx,↓Ev.Ny,↓Ev.Nz,↓Ev.NA,↓Ev.NB,↓Ev.J7,↓Ev.J8,↓Ev.J9,↓Ev.DJ,↓Ev.DK,↓Ev.Ka,↓Ev.Kb,↓Ev.Kc,↓Ev.Kd,↓Ev.Ke,↓Ev.Kf,↓Ev.DM,↓Ev.DN,↓Ev.DP,↓Ev.DQ,↓Ev.OM,↓Ev.Kg,↓Ev.Kh,↓Ev.DR,↓Ev.wp,↓Ev.DS,↓Ev.zZ,↓Ev.DT,↓Ev.Ki,↓Ev.DU,↓Ev.DV,↓Ev.DW,↓Ev.DX,↓Ev.DY,↓Ev.z3,↓Ev.DZ,↓Ev.D0,↓Ev.D1,↓Ev.D2,↓Ev.D3,↓Ev.Kj,↓Ev.D4,↓Ev.D5,↓Ev.Kk,↓Ev.Kl,↓Ev.z4,↓Ev.z5,↓Ev.D6,↓Ev.D7,↓Ev.wq,↓Ev.D8,↓Ev.D9,↓Ev.Km,↓Ev.Ea,↓Ev.Eb,↓Ev.Ko,↓Ev.Kq,↓Ev.Ec,↓Ev.Ed,↓Ev.wt,↓Ev.Ee,↓Ev.Ef,↓Ev.HW,↓Ev.HX])
local macro_rules |`(tactic|k_is)=>`(tactic|((with_reducible first |refine Ev.IL ?_ |refine Ev.IJ ?_ |refine Ev.wcl_ok ?_ |skip);(try dsimp only[List.set_cons_zero,List.set_cons_succ]);(try k_go);(repeat ((with_reducible first |refine Ev.zS ?_ |refine Ev.De ?_);(try k_go)))))
namespace Lw
open PySem Ev
variable {p:Nat} {S:Sto} {k:Nat} {Q:D->Sto->Prop}
theorem z6(h:TD p S t d)(q:Q (.bl (Dw.isW t)) S):Ok (evC ae (k+1) 0 [d] S) Q:=by
 refine aA (d:=gA) (ρ:=[some d]) rfl rfl ?_;dsimp only[gA,kM];k_is;refine aa (ou h) ?_;k_is;cases t <;> first |exact q |(k_is;rw[ou h,aH];exact q)
theorem mV{a b:Int}(h:TD p S t d)(q:Q (.bl (Dw.gj t a b)) S):Ok (evC ae (k+2) 1 [d,.int a,.int b] S) Q:=by
 refine aA (d:=fe) (ρ:=[some d,some (.int a),some (.int b)]) rfl rfl ?_;dsimp only[fe,iV];k_is;refine⟨rfl,z6 h ?_⟩;k_is;cases t with
 |int i=>
  obtain rfl:=h.int;dsimp only[Dw.isW];k_is;dsimp only[Dw.gj] at q;cases c:decide (a<=i) with
  |true=>rw[c] at q;exact q
  |false=>rw[c] at q;exact q
 |_=>exact q
theorem wu(h:TD p S t d)(q:Q (.bl (Dw.gj t 0 9999)) S):Ok (evC ae (k+3) 2 [d] S) Q:=by
 refine aA (d:=ff) (ρ:=[some d]) rfl rfl ?_;dsimp only[ff,iW];k_is;exact⟨rfl,mV h q⟩
theorem z7{a b:Int}(h:TD p S t d)(q:Q (.bl (Dw.isT t a b)) S):Ok (evC ae (k+1) 3 [d,.int a,.int b] S) Q:=by
 refine aA (d:=gB) (ρ:=[some d,some (.int a),some (.int b)]) rfl rfl ?_;dsimp only[gB,kN];k_is;refine aa (ou h) ?_;k_is;cases t with
 |tup ts=>
  obtain⟨ds,rfl,hs⟩:=h.tup;rw[show eX Ty.tuple (tyT (Dw.D.tup ts))=true from rfl];k_is;refine aa (Ij hs) ?_;k_is;dsimp only[Dw.isT] at q;cases c:decide (a<=(ts.length:Int)) with
  |true=>rw[c] at q;exact q
  |false=>rw[c] at q;exact q
 |_=>exact q
theorem aG{f:Int}(h:Pot p S)(h0:0 < f)(h1:f < 1298074214633706907132624082305024)(q:∀ (r:Int) S',0<=r->r < f->Dr p S S'->Q (.int r) S'):Ok (evC ae (k+1) 41 [.ref p,.int f] S) Q:=by
 obtain⟨n,e⟩:=h;have lt:p < S.length:=(Zb.mp e).1;refine aA (d:=gG) (ρ:=[some (.ref p),some (.int f),none]) rfl rfl ?_;dsimp only[gG,kR];k_is;have ix:ixS (.ref p) (.int 0) S=some (.int n,S):=by simp only[ixS,ay,ak,e];rfl
 refine aa ix ?_;k_is;refine⟨h0,?_⟩;k_is;refine aa ix ?_;k_is;refine⟨⟨h0,h1⟩,?_⟩;k_is;refine⟨S.set p (.lst [.int (n / f)]),by simp only[iB,e];rfl,?_⟩;exact q _ _ (X5 _ (by omega)) (XF _ h0) ⟨Io,_,c9 lt⟩
theorem Eg{c:Nat}{ns:List Int}(h:S[0]?=some (.frz (ns.map D.int)))(q:∀i:Int,Q (.int i) S):Ok (evC ae (k+1) 39 [.ref 0,.int c] S) Q:=by
 refine aA (d:=c8) (ρ:=[some (.ref 0),some (.int c)]) rfl rfl ?_;dsimp only[c8,gf];k_is;have ln:ai cB (.ref 0) S=some (.int ns.length,S):=by simp only[ai,ay,ak,h,ZA,cB,Za]
 refine aa ln ?_;k_is;refine cx (λhc=>?_) λhc=>?_
 ·k_is;have hc':=of_decide_eq_true hc;obtain⟨d,e1,e2⟩:=Iq (ds:=ns.map D.int) (i:=c) (by omega) (by rw[Za];omega);have ix:ixS (.ref 0) (.int c) S=some (d,S):=by simp only[ixS,ay,ak,h,ZA,e1]
  refine aa ix ?_;rw[Zo] at e2;cases hn:ns[(c:Int).toNat]? with
  |none=>rw[hn] at e2;cases e2
  |some i=>rw[hn] at e2;cases e2;exact q i
 ·k_is;exact q 0
theorem Kr{c:Int}(q:∀n:Int,Q (.ref S.length) (S++[.lst [.int n]])):Ok (evC ae (k+1) 40 [.int c] S) Q:=by
 refine aA (d:=iK) (ρ:=[some (.int c),none,none,none]) rfl rfl ?_;dsimp only[iK,mR];k_is;refine⟨⟨by decide,by decide,by decide⟩,?_⟩;k_is;refine cx (λ_=>?_) λ_=>?_
 ·k_is;refine⟨⟨by decide,by decide,by decide⟩,?_⟩;k_is;exact q _
 ·k_is;refine⟨by decide,?_⟩;refine hZ (by decide) (λi ρ S'=>S'=S/\∃n:Int,∃u v,ρ=[some (.int c),some (.int n),u,v]) (λi ρ S' hi ⟨es,n,u,v,er⟩=>?_) (λρ S' ⟨es,n,u,v,er⟩=>?_) ⟨rfl,0,none,none,rfl⟩
  ·subst es er;refine⟨_,rfl,?_⟩;k_is;refine⟨by decide,?_⟩;k_is;refine⟨oB (by decide) (by decide),?_⟩;k_is;refine⟨uj (by decide) (by decide),by decide,?_⟩;k_is;have a1:=X5 ((c % 2147483629+7919 * (0+(i:Int))+1) * 48271) (show(2147483647:Int) ≠ 0 by decide);have a2:=XF ((c % 2147483629+7919 * (0+(i:Int))+1) * 48271) (show(0:Int) < 2147483647 by decide);refine⟨oB (by omega) (by omega),?_⟩;k_is;refine⟨oB (by decide) (by decide),?_⟩;k_is;refine⟨by decide,?_⟩;k_is;refine⟨uj (by decide) (by decide),?_⟩;k_is;exact⟨rfl,_,_,_,rfl⟩
  ·subst es er;k_is;exact q n
end Lw
namespace Sn
open Ev
structure Sky where
 r:Int
 s:Int
 M:List (List Int)
 H:List (Int × Int)
 ah:Option (Int × Int)
 G:List (List Int)
 F:List Int
abbrev gi(G:List (List Int))(i:Int)(k:Nat):Int:=((G[i.toNat]?).getD []).getD k 0
abbrev fns:List (Int × Int)->Int->Int
 |[],m=>m
 |p::l,m=>if p.1<=m/\m < p.2 then p.2 else fns l m
abbrev opm:List (Int × Int)->Int->Int
 |[],m=>m
 |p::l,m=>opm l (if p.1<=m/\m < p.2 then p.2 else m)
def Ris:Int->List (Int × Int)->Prop
 |_,[]=>True
 |lo,p::l=>lo < p.1/\p.1 < p.2/\Ris p.2 l
theorem ur:∀ {l:List (Int × Int)} {lo m:Int},Ris lo l->m<=lo->opm l m=m
 |[],_,_,_,_=>rfl
 |p::l,lo,m,h,hm=>by
  rw[Ris] at h;rw[opm,if_neg (by lia)];exact ur h.2.2 (by lia)
theorem ut:∀ {l:List (Int × Int)} {lo m:Int},Ris lo l->opm l m=fns l m
 |[],_,_,_=>rfl
 |p::l,lo,m,h=>by
  rw[Ris] at h;rw[opm,fns];split
  ·exact ur h.2.2 (ZO _)
  ·exact ut h.2.2
section
variable (K:Sky)
abbrev jn(g:Int):Int:=gi K.G g 1
abbrev gp(a b:Int):Int:=Dw.mg2 K.M a.toNat b.toNat
abbrev ww(ah:Option (Int × Int))(k:Int):Int:=match ah with
 |none=>0
 |some p=>p.2+gp K p.1 k
abbrev au(ah:Option (Int × Int))(g:Int):Int:=match ah with
 |none=>gi K.G g 2
 |some p=>if p.2+gp K p.1 (gi K.G g 0) > gi K.G g 2 then p.2+gp K p.1 (gi K.G g 0) else gi K.G g 2
abbrev js:List Int:=eZ (K.G.map λg=>g.getD 1 0)
abbrev eM(place:Nat)(m:Int):Bool:=match (js K)[(K.r+place).toNat]? with
 |some j=>decide (j < m - K.s)
 |none=>false
abbrev step(ah:Option (Int × Int))(g:Int)(place:Nat):Option Int:=if (decide (gi K.G g 3 < opm K.H (au K ah g)) || eM K place (opm K.H (au K ah g)))=true then none else some (opm K.H (au K ah g))
abbrev aC(t:Int)(p:Int × Int):Bool:=decide (jn K p.1<=t) && decide (t < p.2 - K.s)
abbrev wts(L:List (Int × Int))(t:Int):Nat:=(L.filter (aC K t)).length
abbrev eF(L:List (Int × Int))(g m:Int):List Int:=((jn K g::L.map λp=>jn K p.1).filter λt=>decide (jn K g<=t) && decide (t < m - K.s))
abbrev oK(L:List (Int × Int))(g m:Int):Int:=vT 0 ((eF K L g m).map λt=>1+(wts K L t:Int))
abbrev gL(L:List (Int × Int))(g m:Int):List Int:=jn K g::(js K).filter λt=>decide (jn K g < t) && aC K t (g,m)
abbrev qz(L:List (Int × Int))(g m:Int):Int:=gq ((gL K L g m).map λt=>1+(wts K L t:Int))
abbrev qA(L:List (Int × Int))(g m:Int):Bool:=decide (0 < gi K.G g 6) && (aC K (jn K g) (g,m) && decide (gi K.G g 6 < qz K L g m))
abbrev cm(L:List (Int × Int))(g m:Int):Bool:=decide (0 < gi K.G g 6) && decide (gi K.G g 6 < oK K L g m)
abbrev rn:List Int->Option (Int × Int)->List (Int × Int)->Nat ⊕ List (Int × Int)
 |[],_,L=>.inr L
 |g::os,ah,L=>match step K ah g L.length with
  |none=>.inl L.length
  |some m=>if cm K L g m=true then .inl L.length else rn os (some (gi K.G g 0,m)) (L++[(g,m)])
end
variable {K:Sky}
theorem Eh(h:ns ≠ []):gq ns ∈ ns:=by
 cases ns with
 |nil=>exact absurd rfl h
 |cons n ns=>exact(g5 ns n).1
theorem Ks{x:Int}(h:x ∈ ns):x<=gq ns:=by
 cases ns with
 |nil=>simp at h
 |cons n ns=>exact(g5 ns n).2 x h
theorem z8(hA:A ≠ [])(h:∀x ∈ A,∃y ∈ B,x<=y):gq A<=gq B:=by
 obtain⟨y,hy,hle⟩:=h _ (Eh hA);exact XJ hle (Ks hy)
theorem z9{c:Int}(h:ns ≠ []):vT c ns=gq ns:=by
 cases ns with
 |nil=>exact absurd rfl h
 |cons n ns=>rfl
theorem uu{α:Type}{p q:α->Bool}:∀ {l:List α},(∀x ∈ l,p x=true->q x=true)->(l.filter p).length<=(l.filter q).length
 |[],_=>Zf _
 |a::l,h=>by
  have ih:=uu (l:=l) λx hx=>h x (Zg _ hx);have h0:=h a Zi;rw[Xd,Xd];split
  ·rename_i c;rw[if_pos (h0 c),Zv,Zv]
   lia
  ·split
   ·rw[Zv];lia
   ·exact ih
theorem Aa{j t:Int}(hj:j<=t):∀ (L:List (Int × Int)),∃u,(u=j\/∃p ∈ L,u=jn K p.1)/\j<=u/\u<=t/\∀p ∈ L,aC K t p=true->jn K p.1<=u
 |[]=>⟨j,.inl rfl,ZO _,hj,λp hp=>by simp at hp⟩
 |p::L=>by
  obtain⟨u,h1,h2,h3,h4⟩:=Aa hj L;by_cases hw:aC K t p=true/\u < jn K p.1
  ·refine⟨jn K p.1,.inr ⟨p,Zi,rfl⟩,by lia,?_,λq hq hqw=>?_⟩
   ·have:=hw.1;simp only[aC,bAE,decide_eq_true_eq] at this;exact this.1
   ·rcases Zn.mp hq with rfl |hq
    ·exact ZO _
    ·have:=h4 q hq hqw;lia
  ·refine⟨u,?_,h2,h3,λq hq hqw=>?_⟩
   ·rcases h1 with h1 |⟨q,hq,h1⟩
    ·exact .inl h1
    ·exact .inr ⟨q,Zg _ hq,h1⟩
   ·rcases Zn.mp hq with rfl |hq
    ·by_cases hlt:u < jn K q.1
     ·exact absurd ⟨hqw,hlt⟩ hw
     ·lia
    ·exact h4 q hq hqw
theorem Ei{L:List (Int × Int)}{g m:Int}(h:jn K g < m - K.s)(hL:∀p ∈ L,jn K p.1 ∈ js K):qz K L g m=oK K L g m:=by
 have k0:jn K g ∈ eF K L g m:=by
  unfold eF;rw[ZX];exact⟨Zi,by simp[h]⟩
 have kn:(eF K L g m).map (λt=>1+(wts K L t:Int)) ≠ []:=λz=>by
  rw[Xy] at z;rw[z] at k0;simp at k0
 unfold oK qz;rw[z9 kn];refine X6 (z8 (by simp[gL]) λx hx=>?_) (z8 kn λx hx=>?_)
 ·obtain⟨t,ht,rfl⟩:=ZD.mp hx
  have ht':jn K g<=t/\t < m - K.s:=by
   rcases Zn.mp ht with rfl |ht
   ·exact⟨ZO _,h⟩
   ·have:=(ZX.mp ht).2;simp only[aC,bAE,decide_eq_true_eq] at this;exact⟨this.2.1,this.2.2⟩
  obtain⟨u,h1,h2,h3,h4⟩:=Aa (K:=K) ht'.1 L;refine⟨1+(wts K L u:Int),ZD.mpr ⟨u,?_,rfl⟩,?_⟩
  ·unfold eF;refine ZX.mpr ⟨?_,by simp only[bAE,decide_eq_true_eq];lia⟩;rcases h1 with rfl |⟨p,hp,rfl⟩
   ·exact Zi
   ·exact Zg _ (ZD.mpr ⟨p,hp,rfl⟩)
  ·have:wts K L t<=wts K L u:=uu λp hp hw=>by
    have a:=h4 p hp hw;simp only[aC,bAE,decide_eq_true_eq] at hw ⊢
    lia
   lia
 ·obtain⟨t,ht,rfl⟩:=ZD.mp hx;refine⟨1+(wts K L t:Int),ZD.mpr ⟨t,?_,rfl⟩,ZO _⟩;unfold eF at ht;obtain⟨h1,h2⟩:=ZX.mp ht;simp only[bAE,decide_eq_true_eq] at h2;unfold gL;by_cases e:t=jn K g
  ·rw[e];exact Zi
  ·refine Zg _ (ZX.mpr ⟨?_,by simp only[aC,bAE,decide_eq_true_eq];lia⟩);rcases Zn.mp h1 with rfl |h1
   ·exact absurd rfl e
   ·obtain⟨p,hp,rfl⟩:=ZD.mp h1;exact hL p hp
theorem wx{g m:Int}(h:¬ jn K g < m - K.s):oK K L g m=0:=by
 have:eF K L g m=[]:=by
  unfold eF;rw[List.filter_eq_nil_iff];intro t _;simp only[bAE,decide_eq_true_eq]
  lia
 unfold oK;rw[this];rfl
theorem Ej{g m:Int}(hL:∀p ∈ L,jn K p.1 ∈ js K):qA K L g m=cm K L g m:=by
 unfold qA cm;by_cases h:jn K g < m - K.s
 ·rw[Ei h hL];have:aC K (jn K g) (g,m)=true:=by simp only[aC,bAE,decide_eq_true_eq];exact⟨ZO _,h⟩
  rw[this,XB]
 ·rw[wx h];have:aC K (jn K g) (g,m)=false:=by simp[aC,h]
  rw[this,YZ];by_cases h0:0 < gi K.G g 6
  ·have e:decide (gi K.G g 6 < 0)=false:=by simp;lia
   rw[e]
  ·rw[decide_eq_false h0];rfl
theorem Ab{g:Int}(h:0<=gi K.G g 2):(if ww K ah (gi K.G g 0) > gi K.G g 2 then ww K ah (gi K.G g 0) else gi K.G g 2)=au K ah g:=by
 cases ah with
 |none=>unfold ww au;dsimp only;rw[if_neg (by lia)]
 |some p=>rfl
end Sn
namespace Lw
open PySem Ev Sn
variable {p:Nat} {S:Sto} {k:Nat} {Q:D->Sto->Prop}
theorem Ac{ds:List D}{tg:Tg}{b:XS}{ρ:Rho}{Q:Fl->Rho->Sto->Prop}(hl:ds.length<=100000)(I:Nat->Rho->Sto->Prop)
  (step:∀ (i:Nat) d ρ S',ds[i]?=some d->I i ρ S'->∃ρ1,ax tg d ρ=some ρ1/\OkS (b ρ1 S') λfl ρ2 S2=>match fl with |.nx=>I (i+1) ρ2 S2 |.ct=>I (i+1) ρ2 S2 |.bk=>Q .nx ρ2 S2 |.rt d=>Q (.rt d) ρ2 S2)
  (q:∀ρ S',I ds.length ρ S'->Q .nx ρ S') (h0:I 0 ρ S):OkS (eI (nxL ds) tg b LF 0 ρ S) Q:=by
 refine jx ds.length I (by unfold LF;lia) (λi ρ S' hi iv=>?_) (λρ S' iv=>⟨?_,q ρ S' iv⟩) h0
 ·obtain⟨ρ1,e2,z⟩:=step i ds[i] ρ S' (gEG hi) iv;exact⟨ds[i],ρ1,by show some ds[i]?=_;rw[gEG hi],e2,z⟩
 ·show some ds[ds.length]?=_;rw[Zs (Zf _)]
theorem Ae{ds:List D}{tg:Tg}{b:XS}{ρ:Rho}{Q:Fl->Rho->Sto->Prop}(hl:ds.length<=100000)(I:Nat->Rho->Sto->Prop)
  (step:∀ (i:Nat) d ρ S',ds[i]?=some d->I i ρ S'->∃ρ1,ax tg (.tup [.int i,d]) ρ=some ρ1/\OkS (b ρ1 S') λfl ρ2 S2=>match fl with |.nx=>I (i+1) ρ2 S2 |.ct=>I (i+1) ρ2 S2 |.bk=>Q .nx ρ2 S2 |.rt d=>Q (.rt d) ρ2 S2)
  (q:∀ρ S',I ds.length ρ S'->Q .nx ρ S') (h0:I 0 ρ S):OkS (eI (rY ds) tg b LF 0 ρ S) Q:=by
 refine jx ds.length I (by unfold LF;lia) (λi ρ S' hi iv=>?_) (λρ S' iv=>⟨?_,q ρ S' iv⟩) h0
 ·obtain⟨ρ1,e2,z⟩:=step i ds[i] ρ S' (gEG hi) iv;refine⟨.tup [.int i,ds[i]],ρ1,?_,e2,z⟩;show enm ds i=_;unfold enm;rw[if_pos (by lia),gEG hi];rfl
 ·show enm ds ds.length=_;unfold enm;rw[if_pos (Zf _),Zs (Zf _)];rfl
theorem bQ{α:Type}{nx:Nxt}{tg:Tg}{c:XA}{ρ:Rho}{Q:List D->Sto->Prop}(l:List α)(E:α->D)(f:α->List D)(hl:l.length<=1000)(hf:∀a ∈ l,(f a).length<=1)
  (hnx:∀i S',Sm S S'->nx i S'=some ((l[i]?).map E))
  (step:∀ (i:Nat) a S',l[i]?=some a->Sm S S'->∃ρ1,ax tg (E a) ρ=some ρ1/\Ok (c ρ1 S') λes S1=>es=f a/\Sm S' S1) (q:∀S',Sm S S'->Q (l.flatMap f) S') :
  Ok (be nx tg c ρ LF 0 S) λes S2=>es.length<=100000/\Q es S2:=by
 refine(fv l.length (λi acc S'=>Sm S S'/\acc=(l.take i).flatMap f) (by unfold LF;lia) (λi acc S' hi ⟨sm,ea⟩=>?_) (λacc S' ⟨sm,ea⟩=>?_) ⟨Sm.refl S,by simp⟩).mono λes S' ⟨sm,ea⟩=>?_
 ·obtain⟨ρ1,e2,es,S1,e3,e4,sm'⟩:=step i l[i] S' (gEG hi) sm;refine⟨E l[i],ρ1,by rw[hnx i S' sm,gEG hi];rfl,e2,es,S1,e3,sm.trans sm',?_⟩;rw[ea,e4,ZT hi,Yc];simp
 ·rw[hnx _ S' sm,Zs (Zf _)];rfl
 ·rw[YB] at ea;subst ea;refine⟨?_,q S' sm⟩
  have:∀m:List α,(∀a ∈ m,(f a).length<=1)->(m.flatMap f).length<=m.length:=λm=>by
   induction m with
   |nil=>intro _;simp
   |cons a m ih=>
    intro h;rw[Z0,Zh,Zv];have:=h a Zi;have:=ih λb hb=>h b (Zg _ hb)
    lia
  have:=this l hf
  lia
theorem cK{α:Type}{l:List α}{E:α->D}:∀i S',Sm S S'->nxL (l.map E) i S'=some ((l[i]?).map E):=λi S' _=>by
 show some (l.map E)[i]?=_;rw[Zo]
theorem ei{α:Type}{n:Nat}{l:List α}{E:α->D}(h:S[n]?=some (.lst (l.map E))):∀i S',Sm S S'->nxS n i S'=some ((l[i]?).map E):=λi S' sm=>by
 show(ak S' n).map (λds=>ds[i]?)=_;rw[aM (sm _ _ h),ZA,Zo]
theorem ce{α:Type}(l:List α)(f:α->D):(l.flatMap λa=>[f a])=l.map f:=by
 induction l with
 |nil=>rfl
 |cons a l ih=>rw[Z0,ih];rfl
theorem bB{α:Type}(l:List α)(c:α->Bool)(f:α->D):(l.flatMap λa=>if c a=true then [f a] else [])=(l.filter c).map f:=by
 induction l with
 |nil=>rfl
 |cons a l ih=>
  rw[Z0,ih,Xd];split <;> rfl
abbrev az(r:List Int):D:=.tup (r.map D.int)
abbrev ahE:Option (Int × Int)->D
 |none=>.non
 |some q=>.tup [.int q.1,.int q.2]
abbrev meE(K:Sky):D:=.tup [.int K.r,.int K.s,.tup (K.M.map az),.tup (K.H.map ag)]
abbrev skE(K:Sky):D:=.tup [meE K,ahE K.ah,.tup (K.G.map az),.tup (K.F.map D.int)]
structure Vd(K:Sky):Prop where
 r0:0<=K.r
 r8:K.r<=8
 s0:0<=K.s
 s60:K.s<=60
 m0:1<=K.M.length
 m4:K.M.length<=4
 row:∀r ∈ K.M,r.length=K.M.length
 ris:Ris (-1) K.H
 h4:K.H.length<=4
 ah0:∀q,K.ah=some q->0<=q.1/\q.1 < K.M.length
 g7:K.G.length<=7
 gl:∀g ∈ K.G,g.length=7/\0<=g.getD 0 0/\g.getD 0 0 < K.M.length/\0<=g.getD 2 0
variable {K:Sky}
theorem sk0:ixS (skE K) (.int 0) S=some (meE K,S):=rfl
theorem sk1:ixS (skE K) (.int 1) S=some (ahE K.ah,S):=rfl
theorem sk2:ixS (skE K) (.int 2) S=some (.tup (K.G.map az),S):=rfl
theorem sk3:ixS (skE K) (.int 3) S=some (.tup (K.F.map D.int),S):=rfl
theorem me0:ixS (meE K) (.int 0) S=some (.int K.r,S):=rfl
theorem me1:ixS (meE K) (.int 1) S=some (.int K.s,S):=rfl
theorem me2:ixS (meE K) (.int 2) S=some (.tup (K.M.map az),S):=rfl
theorem me3:ixS (meE K) (.int 3) S=some (.tup (K.H.map ag),S):=rfl
theorem gl7(V:Vd K){g:Int}(h0:0<=g)(h1:g < K.G.length):∃a b c d e f h,K.G[g.toNat]?=some [a,b,c,d,e,f,h]/\gi K.G g 0=a/\gi K.G g 1=b/\gi K.G g 2=c/\gi K.G g 3=d/\gi K.G g 6=h/\0<=a/\a < K.M.length/\0<=c:=by
 have hi:g.toNat < K.G.length:=by lia
 obtain⟨l7,a0,a1,c0⟩:=V.gl K.G[g.toNat] (ZM hi)
 match hr:K.G[g.toNat],l7 with
 |[a,b,c,d,e,f,h],_=>
  have eq:K.G[g.toNat]?=some [a,b,c,d,e,f,h]:=by rw[gEG hi,hr]
  rw[hr] at a0 a1 c0;refine⟨a,b,c,d,e,f,h,eq,?_,?_,?_,?_,?_,a0,a1,c0⟩ <;> (unfold gi;rw[eq];rfl)
theorem qB{i:Int}(h0:0<=i)(h:ds[i.toNat]?=some d):ixS (.tup ds) (.int i) S=some (d,S):=by
 obtain⟨n,rfl⟩:∃n:Nat,i=(n:Int):=⟨i.toNat,by lia⟩;exact xu h
theorem gg{g:Int}(h0:0<=g)(h:K.G[g.toNat]?=some r):ixS (.tup (K.G.map az)) (.int g) S=some (az r,S):=qB h0 (by rw[Zo,h];rfl)
theorem lb(V:Vd K){a b:Int}(a0:0<=a)(a1:a < K.M.length)(b0:0<=b)(b1:b < K.M.length):∃r,ixS (.tup (K.M.map az)) (.int a) S=some (az r,S)/\ixS (az r) (.int b) S=some (.int (gp K a b),S):=by
 have hi:a.toNat < K.M.length:=by lia
 have hr:=V.row K.M[a.toNat] (ZM hi);have hj:b.toNat < K.M[a.toNat].length:=by lia
 refine⟨K.M[a.toNat],qB a0 (by rw[Zo,gEG hi];rfl),qB b0 ?_⟩;rw[Zo,gEG hj];have:gp K a b=K.M[a.toNat][b.toNat]:=by unfold gp Dw.mg2;rw[gEG hi,ZZ,gEG hj];rfl
 rw[this];rfl
end Lw
namespace Lw
open PySem Ev Sn
variable {p:Nat} {S:Sto} {k:Nat} {Q:D->Sto->Prop} {K:Sky}
theorem qC{t u:Bool}{A B:Prop}(ha:t=true->u=true->A)(hb:(t && u)=false->B):wIf t (wIf u A B) B:=by
 cases t with
 |false=>exact hb rfl
 |true=>cases u with
  |true=>exact ha rfl rfl
  |false=>exact hb rfl
theorem jy{α:Type}{l:List α}{i:Nat}{a:α}(h:l[i]?=some a):l.drop i=a::l.drop (i+1):=by
 obtain⟨hi,e⟩:=Zb.mp h;rw[YD hi,e]
theorem iO{α:Type}{l:List α}{E:α->D}{i:Nat}{d:D}(h:(l.map E)[i]?=some d):∃a,l[i]?=some a/\d=E a:=by
 rw[Zo] at h;cases e:l[i]? with
 |none=>rw[e] at h;cases h
 |some a=>rw[e] at h;cases h;exact⟨a,rfl,rfl⟩
theorem Kt{m:Int}(hl:K.H.length<=4)(q:Q (.int (fns K.H m)) S):Ok (evC ae (k+1) 13 [meE K,.int m] S) Q:=by
 refine aA (d:=bV) (ρ:=[some (meE K),some (.int m),none,none]) rfl rfl ?_;dsimp only[bV,dA];k_is;refine aa me3 ?_;k_is;refine Ac (by rw[Za];lia) (λi ρ S'=>S'=S/\fns K.H m=fns (K.H.drop i) m/\∃u v,ρ=[some (meE K),some (.int m),u,v]) (λi d ρ S' hd ⟨es,ef,u,v,er⟩=>?_) (λρ S' ⟨es,ef,u,v,er⟩=>?_) ⟨rfl,rfl,none,none,rfl⟩
 ·subst es er;obtain⟨pr,hp,rfl⟩:=iO hd;refine⟨_,show ax (.tup [.name 2,.name 3]) (.tup [.int pr.1,.int pr.2]) _=_ from fw (by simp) (by simp),?_⟩;k_is;rw[jy hp,fns] at ef;refine qC (λh1 h2=>?_) λh=>?_
  ·k_is;rw[if_pos ⟨of_decide_eq_true h1,of_decide_eq_true h2⟩] at ef;rw[ef] at q;exact q
  ·k_is;rw[if_neg (λz=>by rw[decide_eq_true z.1,decide_eq_true z.2] at h;cases h)] at ef;exact⟨rfl,ef,_,_,rfl⟩
 ·subst es er;k_is;rw[Za,YC,fns] at ef;rw[ef] at q;exact q
abbrev aE(K:Sky)(L:List (Int × Int)):Option (Int × Int):=match L.getLast? with
 |none=>K.ah
 |some p=>some (gi K.G p.1 0,p.2)
def InG(K:Sky)(L:List (Int × Int)):Prop:=∀p ∈ L,0<=p.1/\p.1 < K.G.length
theorem qD(V:Vd K){L:List (Int × Int)}{n:Nat}(hn:S[n]?=some (.lst (L.map ag)))(hL:InG K L)(q:Q (ahE (aE K L)) S):Ok (evC ae (k+1) 22 [skE K,.ref n] S) Q:=by
 refine aA (d:=cg) (ρ:=[some (skE K),some (.ref n),none,none]) rfl rfl ?_;dsimp only[cg,eC];k_is;have tr:j6 (.ref n) S=some (!(L.map ag).isEmpty,S):=by simp only[j6,aM hn]
 refine aa tr ?_;k_is;rcases List.eq_nil_or_concat L with rfl |⟨L',z,rfl⟩
 ·k_is;exact aa sk1 q
 ·rw[List.concat_eq_append] at hn hL q ⊢;rw[show(!!((L'++[z]).map ag).isEmpty)=false by simp];k_is;have hz:=hL z (by simp);refine aa (oC (ds:=L'.map ag) (e:=ag z) (by rw[hn,ZP];rfl)) ?_;rw[show ag z = .tup [.int z.1,.int z.2] from rfl];k_is;refine aa sk2 ?_;obtain⟨a,b,c,d,e,f,h,eg,e0,_⟩:=gl7 V hz.1 hz.2;refine aa (gg hz.1 eg) (aa (show ixS (az [a,b,c,d,e,f,h]) (.int 0) S=some (.int a,S) from rfl) ?_);k_is
  have:aE K (L'++[z])=some (a,z.2):=by
   unfold aE;rw[Xs];simp[e0]
  rw[this] at q;exact q
theorem Ek(V:Vd K){a:Option (Int × Int)}{kd:Int}(ha:∀q,a=some q->0<=q.1/\q.1 < K.M.length)(k0:0<=kd)(k1:kd < K.M.length)(q:Q (.int (ww K a kd)) S):Ok (evC ae (k+1) 23 [skE K,ahE a,.int kd] S) Q:=by
 refine aA (d:=iJ) (ρ:=[some (skE K),some (ahE a),some (.int kd)]) rfl rfl ?_;dsimp only[iJ,mQ];k_is;cases a with
 |none=>exact aa (show am .is (ahE none) .non S=some (.bl true,S) from rfl) (by k_is;exact q)
 |some z=>
  refine aa (show am .is (ahE (some z)) .non S=some (.bl false,S) from rfl) ?_;k_is;obtain⟨h0,h1⟩:=ha z rfl;refine aa (show ixS (ahE (some z)) (.int 1) S=some (.int z.2,S) from rfl) ?_;refine aa sk0 (aa me2 (aa (show ixS (ahE (some z)) (.int 0) S=some (.int z.1,S) from rfl) ?_));obtain⟨r,g1,g2⟩:=lb (S:=S) V h0 h1 k0 k1;refine aa g1 (aa g2 ?_);k_is;exact q
theorem lc(V:Vd K){z:Int × Int}{t:Int}(h0:0<=z.1)(h1:z.1 < K.G.length)(q:Q (.bl (aC K t z)) S):Ok (evC ae (k+1) 24 [skE K,ag z,.int t] S) Q:=by
 refine aA (d:=gF) (ρ:=[some (skE K),some (ag z),some (.int t),none,none]) rfl rfl ?_;dsimp only[gF,kQ];rw[show ag z = .tup [.int z.1,.int z.2] from rfl];k_is;refine aa sk2 ?_;obtain⟨a,b,c,d,e,f,h,eg,_,e1,_⟩:=gl7 V h0 h1;refine aa (gg h0 eg) (aa (show ixS (az [a,b,c,d,e,f,h]) (.int 1) S=some (.int b,S) from rfl) ?_);k_is;have ew:aC K t z=(decide (b<=t) && decide (t < z.2 - K.s)):=by unfold aC jn;rw[e1]
 rw[ew] at q;cases c1:decide (b<=t) with
 |false=>rw[c1] at q;k_is;exact q
 |true=>
  rw[c1] at q;k_is;refine aa sk0 (aa me1 ?_);k_is;exact q
theorem Ku(V:Vd K){L:List (Int × Int)}{n:Nat}{t:Int}(hn:S[n]?=some (.lst (L.map ag)))(hL:InG K L)(hl:L.length<=1000)(q:∀S',Sm S S'->Q (.int (wts K L t)) S'):Ok (evC ae (k+2) 25 [skE K,.ref n,.int t] S) Q:=by
 refine aA (d:=ci) (ρ:=[some (skE K),some (.ref n),some (.int t)]) rfl rfl ?_;dsimp only[ci,eD];k_is;refine⟨by rw[aM hn];rfl,?_⟩;refine bQ L ag (λz=>if aC K t z=true then [ag z] else []) hl (λz _=>by split <;> simp) (ei hn) (λi z S' hz sm=>⟨_,rfl,?_⟩) λS' sm=>?_
 ·have:=hL z (Ze hz);k_is;refine⟨rfl,lc V this.1 this.2 ?_⟩;k_is;cases aC K t z with
  |true=>k_is;exact⟨rfl,Sm.refl _⟩
  |false=>k_is;exact⟨rfl,Sm.refl _⟩
 ·rw[bB];refine aa (show cB false ((L.filter (aC K t)).map ag) S'=some (.int (wts K L t),S') by unfold cB wts;rw[Za]) ?_;k_is;exact q S' sm
theorem wy{x:Int}{xs:List Int}:e7 ((x::xs).map D.int)=none:=by simp only[ZC,e7,nT]
theorem fN:∀ (xs:List Int),dq (xs.map D.int)=some xs
 |[]=>rfl
 |x::xs=>by simp only[ZC,dq,fN xs]
theorem qE{xs:List Int}(h:xs.length < 64):cq false (xs.map D.int)=some ((eZ xs).map D.int):=by
 unfold cq;rw[if_pos rfl];cases xs with
 |nil=>rfl
 |cons x xs=>
  simp only[yq,wy,fN];rw[if_pos h]
theorem Kv:(js K).length=K.G.length:=by unfold js;rw[(cD _).length_eq,Za]
theorem qF(V:Vd K)(q:∀S',Sm S S'->S'[Zj S' - 1]?=some (.lst ((js K).map D.int))->Zj S<=Zj S' - 1->Q (.ref (Zj S' - 1)) S'):Ok (evC ae (k+1) 26 [skE K] S) Q:=by
 refine aA (d:=bO) (ρ:=[some (skE K)]) rfl rfl ?_;dsimp only[bO,cQ];k_is;refine aa sk2 ?_;k_is;refine bQ K.G az (λg=>[.int (g.getD 1 0)]) (by have:=V.g7;lia) (λ_ _=>Zf _) cK (λi g S' hg sm=>⟨_,rfl,?_⟩) λS' sm=>?_
 ·obtain⟨l7,_⟩:=V.gl g (Ze hg)
  match g,l7 with
  |[a,b,c,d,e,f,h],_=>
   k_is;exact aa (show ixS (az [a,b,c,d,e,f,h]) (.int 1) S'=some (.int b,S') from rfl) ⟨rfl,Sm.refl _⟩
 ·rw[ce];refine⟨_,show cq false (K.G.map λg=>D.int (g.getD 1 0))=some ((js K).map D.int) from ?_,?_⟩
  ·have:=qE (xs:=K.G.map λg=>g.getD 1 0) (by rw[Za];have:=V.g7;lia);rw[ZU] at this;exact this
  ·have e:Zj (S'++[Ob.lst ((js K).map D.int)]) - 1=Zj S':=by simp
   have sl:Zj S<=Zj S':=by
    cases hz:decide (Zj S<=Zj S') with
    |true=>exact of_decide_eq_true hz
    |false=>
     exfalso;have hlt:Zj S' < Zj S:=by have:=of_decide_eq_false hz;lia
     have:=sm (Zj S') S[Zj S'] (gEG hlt);rw[Zs (Zf _)] at this;cases this
   have:=q (S'++[Ob.lst ((js K).map D.int)]) (sm.trans (Sm.app _ _)) (by rw[e];exact aK) (by rw[e];exact sl);rw[e] at this;exact this
theorem fB{n:Nat}{ds:List D}{i:Int}{d:D}(hn:S[n]?=some (.lst ds))(h0:0<=i)(h:ds[i.toNat]?=some d):ixS (.ref n) (.int i) S=some (d,S):=by
 obtain⟨j,rfl⟩:∃j:Nat,i=(j:Int):=⟨i.toNat,by lia⟩;rw[ZE] at h;simp only[ixS,ay,aM hn,ZA,Ev.td h]
theorem uv{n:Nat}{ds:List D}{j:Nat}(hn:S[n]?=some (.lst ds)):slS none (some (j:Int)) (.ref n) S=some (.ref (Zj S),S++[.lst (ds.take j)]):=by
 have:gk ds none (some (j:Int))=ds.take j:=by
  by_cases h:j<=ds.length
  ·exact zB ds j h
  ·unfold gk;rw[Dw.xR _ _ (by lia),ZE,XW (by lia)];show(ds.drop 0).take (ds.length - 0)=ds.take j;rw[List.drop_zero,Z5 (by lia),Z5 (by lia)]
 simp only[slS,aM hn,this]
theorem uw{a b:Nat}{xs ys:List D}(ha:S[a]?=some (.lst xs))(hb:S[b]?=some (.lst ys))(hl:xs.length+ys.length<=100000):bE .add (.ref a) (.ref b) S=some (.ref (Zj S),S++[.lst (xs++ys)]):=by
 simp only[bE,jh,GW,ha,hb];rw[if_pos hl]
theorem fO{n:Nat}{ds:List D}(hn:S[n]?=some (.lst ds)):ai cB (.ref n) S=some (.int ds.length,S):=by simp only[ai,ay,aM hn,ZA,cB]
theorem Af{xs:List Int}(h:xs ≠ []):lK false (xs.map D.int) S=some (.int (gq xs),S):=by
 cases xs with
 |nil=>exact absurd rfl h
 |cons x xs=>unfold lK;rw[fN]
theorem El(V:Vd K){L:List (Int × Int)}{n j:Nat}{z:Int × Int}(hn:S[n]?=some (.lst (L.map ag)))(hz:L[j]?=some z)(hL:InG K L)(hl:L.length<=100)(q:∀S',Sm S S'->Q (.int (qz K (L.take j) z.1 z.2)) S'):Ok (evC ae (k+3) 28 [skE K,.ref n,.int j,.int (jn K z.1)] S) Q:=by
 refine aA (d:=c7) (ρ:=[some (skE K),some (.ref n),some (.int j),some (.int (jn K z.1)),none,none]) rfl rfl ?_;dsimp only[c7,ga];have hzG:=hL z (Ze hz);k_is;refine aa (uv hn) ?_;k_is;have s1:Sm S (S++[Ob.lst ((L.map ag).take j)]):=Sm.app _ _;have a1:(S++[Ob.lst ((L.map ag).take j)])[Zj S]?=some (Ob.lst ((L.take j).map ag)):=by rw[aK,We]
 generalize Zj S=N1 at *;generalize S++[Ob.lst ((L.map ag).take j)]=S1 at *;refine⟨rfl,qF V λS2 s2 a2 _=>?_⟩;k_is;refine⟨by rw[aM a2];rfl,?_⟩;have hjl:(js K).length<=7:=by rw[Kv];exact V.g7
 refine bQ (js K) D.int (λt=>if (decide (jn K z.1 < t) && aC K t z)=true then [D.int t] else []) (by lia) (λ_ _=>by split <;> simp) (ei a2) (λi t S' ht sm=>⟨_,rfl,?_⟩) λS3 s3=>?_
 ·k_is;cases c:decide (jn K z.1 < t) with
  |false=>k_is;exact⟨rfl,Sm.refl _⟩
  |true=>
   k_is;have hn':=sm _ _ (s2 _ _ (s1 _ _ hn));refine aa (fB hn' (by lia) (show(L.map ag)[((j:Nat):Int).toNat]?=some (ag z) by rw[ZE,Zo,hz];rfl)) ?_;refine⟨rfl,lc V hzG.1 hzG.2 ?_⟩;k_is;cases aC K t z with
   |true=>k_is;exact⟨rfl,Sm.refl _⟩
   |false=>k_is;exact⟨rfl,Sm.refl _⟩
 ·rw[bB];k_is;have lt3:Zj S3 < Zj (S3++[Ob.lst (((js K).filter λt=>decide (jn K z.1 < t) && aC K t z).map D.int)]):=by simp
  have a3:(S3++[Ob.lst (((js K).filter λt=>decide (jn K z.1 < t) && aC K t z).map D.int)])[Zj S3]?=some (Ob.lst (((js K).filter λt=>decide (jn K z.1 < t) && aC K t z).map D.int)):=aK;have s4:Sm S3 (S3++[Ob.lst (((js K).filter λt=>decide (jn K z.1 < t) && aC K t z).map D.int)]):=Sm.app _ _;have lf:((js K).filter λt=>decide (jn K z.1 < t) && aC K t z).length<=7:=ZI (Xo _ _) hjl;generalize Zj S3=N3 at *;generalize S3++[Ob.lst (((js K).filter λt=>decide (jn K z.1 < t) && aC K t z).map D.int)]=S4 at *;have s5:Sm S4 (S4++[Ob.lst [D.int (jn K z.1)]]):=Sm.app _ _;refine aa (uw (xs:=[D.int (jn K z.1)]) aK (s5 _ _ a3) (by rw[Za,Zm];lia)) ?_;k_is;have s6:Sm (S4++[Ob.lst [D.int (jn K z.1)]]) (S4++[Ob.lst [D.int (jn K z.1)]]++[Ob.lst ([D.int (jn K z.1)]++((js K).filter λt=>decide (jn K z.1 < t) && aC K t z).map D.int)]):=Sm.app _ _;have a6:(S4++[Ob.lst [D.int (jn K z.1)]]++[Ob.lst ([D.int (jn K z.1)]++((js K).filter λt=>decide (jn K z.1 < t) && aC K t z).map D.int)])[Zj (S4++[Ob.lst [D.int (jn K z.1)]])]?=some (Ob.lst ((gL K (L.take j) z.1 z.2).map D.int)):=aK;refine⟨by rw[aM a6];rfl,?_⟩;have sA:=((((s1.trans s2).trans s3).trans s4).trans s5).trans s6;have aL:=(((((s2.trans s3).trans s4).trans s5).trans s6)) _ _ a1;refine bQ (gL K (L.take j) z.1 z.2) D.int (λt=>[D.int (1+(wts K (L.take j) t:Int))]) (by show((js K).filter λt=>decide (jn K z.1 < t) && aC K t z).length+1<=1000;lia) (λ_ _=>Zf _) (ei a6) (λi t S' ht sm=>⟨_,rfl,?_⟩) λS7 s7=>?_
  ·k_is;refine⟨rfl,Ku V (sm _ _ aL) (λw hw=>hL w (List.mem_of_mem_take hw)) (by rw[Yq];lia) λS8 s8=>?_⟩;k_is;exact⟨rfl,s8⟩
  ·rw[ce];have em:=Af (S:=S7) (xs:=(gL K (L.take j) z.1 z.2).map λt=>1+(wts K (L.take j) t:Int)) (by unfold gL;simp);rw[ZU] at em;exact aa em (by k_is;exact q S7 (sA.trans s7))
theorem Em(V:Vd K){L:List (Int × Int)}{n j:Nat}{z:Int × Int}(hn:S[n]?=some (.lst (L.map ag)))(hz:L[j]?=some z)(hL:InG K L)(hl:L.length<=100)(q:∀S',Sm S S'->Q (.bl (qA K (L.take j) z.1 z.2)) S'):Ok (evC ae (k+4) 27 [skE K,.ref n,.int j] S) Q:=by
 refine aA (d:=c6) (ρ:=[some (skE K),some (.ref n),some (.int j),none,none,none,none,none,none,none]) rfl rfl ?_;dsimp only[c6,f9];have hzG:=hL z (Ze hz);obtain⟨a,b,c,d,e,f,h,eg,e0,e1,e2,e3,e6,_⟩:=gl7 V hzG.1 hzG.2;have hi:=fB hn (show(0:Int)<=(j:Int) by lia) (show(L.map ag)[((j:Nat):Int).toNat]?=some (ag z) by rw[ZE,Zo,hz];rfl);k_is;refine aa sk2 (aa hi (aa (show ixS (ag z) (.int 0) S=some (.int z.1,S) from rfl) (aa (gg hzG.1 eg) ?_)));rw[show az [a,b,c,d,e,f,h] = .tup [.int a,.int b,.int c,.int d,.int e,.int f,.int h] from rfl];k_is;have ej:jn K z.1=b:=e1;have eh:qA K (L.take j) z.1 z.2=(decide (0 < h) && (aC K b z && decide (h < qz K (L.take j) z.1 z.2))):=by unfold qA;rw[e6,ej]
 rw[eh] at q;cases c1:decide (0 < h) with
 |false=>rw[c1] at q;k_is;exact q S (Sm.refl S)
 |true=>
  rw[c1] at q;k_is;refine aa hi ?_;refine⟨rfl,lc V hzG.1 hzG.2 ?_⟩;k_is;cases c2:aC K b z with
  |false=>rw[c2] at q;k_is;exact q S (Sm.refl S)
  |true=>
   rw[c2] at q;k_is
   have rg:=El (k:=k) (Q:=λy S2=>wCx .gt y (.int h) S2 λd S1=>Q d S1) V hn hz hL hl λS' sm=>by
    k_is;exact q S' sm
   rw[ej] at rg;exact⟨rfl,rg⟩
theorem En(V:Vd K){j:Nat}{m:Int}(q:∀S',Sm S S'->Q (.bl (eM K j m)) S'):Ok (evC ae (k+2) 32 [skE K,.int j,.int m] S) Q:=by
 refine aA (d:=bP) (ρ:=[some (skE K),some (.int j),some (.int m),none,none,none,none,none,none]) rfl rfl ?_;dsimp only[bP,cR];k_is;refine aa sk0 ?_;rw[show meE K = .tup [.int K.r,.int K.s,.tup (K.M.map az),.tup (K.H.map ag)] from rfl];k_is;refine⟨rfl,qF V λS1 s1 a1 _=>?_⟩;k_is;refine aa (fO a1) ?_;k_is;rw[Za];have r0:=V.r0;have el:eM K j m=match (js K)[(K.r+j).toNat]? with |some t=>decide (t < m - K.s) |none=>false:=rfl
 refine cx (λh=>?_) λh=>?_
 ·have hlt:(K.r+j).toNat < (js K).length:=by have:=of_decide_eq_true h;lia
  rw[gEG hlt] at el;k_is;refine aa (fB a1 (by lia) (show((js K).map D.int)[(K.r+(j:Int)).toNat]?=some (.int (js K)[(K.r+(j:Int)).toNat]) by rw[Zo,gEG hlt];rfl)) ?_;k_is;have:=q S1 s1;rw[el] at this;exact this
 ·have hge:(js K).length<=(K.r+j).toNat:=by have:=of_decide_eq_false h;lia
  rw[Zs hge] at el;have:=q S1 s1;rw[el] at this;exact this
abbrev df:Option Int->D
 |none=>.non
 |some m=>.int m
theorem mW(V:Vd K){a:Option (Int × Int)}{g:Int}{j:Nat}(ha:∀q,a=some q->0<=q.1/\q.1 < K.M.length)(g0:0<=g)(g1:g < K.G.length)(q:∀S',Sm S S'->Q (df (Sn.step K a g j)) S'):Ok (evC ae (k+3) 31 [skE K,ahE a,.int g,.int j] S) Q:=by
 refine aA (d:=bX) (ρ:=[some (skE K),some (ahE a),some (.int g),some (.int j),none,none,none,none,none,none,none,none]) rfl rfl ?_;dsimp only[bX,dC];obtain⟨a0,b,c,d,e,f,h,eg,e0,e1,e2,e3,e6,k0,k1,c0⟩:=gl7 V g0 g1;k_is;refine aa sk2 (aa (gg g0 eg) ?_);rw[show az [a0,b,c,d,e,f,h] = .tup [.int a0,.int b,.int c,.int d,.int e,.int f,.int h] from rfl];k_is;refine aa sk0 ?_;refine⟨rfl,Ek V ha k0 k1 ?_⟩;k_is;refine⟨rfl,Kt V.h4 ?_⟩;k_is
 have em:fns K.H (if ww K a a0 > c then ww K a a0 else c)=opm K.H (au K a g):=by
  have:=Ab (K:=K) (ah:=a) (g:=g) (by rw[e2];exact c0);rw[e0,e2] at this;rw[this,ut V.ris]
 rw[em];have es:Sn.step K a g j=if (decide (d < opm K.H (au K a g)) || eM K j (opm K.H (au K a g)))=true then none else some (opm K.H (au K a g)):=by unfold Sn.step;rw[e3]
 rw[es] at q;cases c1:decide (d < opm K.H (au K a g)) with
 |true=>rw[c1] at q;k_is;exact q S (Sm.refl S)
 |false=>
  rw[c1] at q;k_is;refine⟨rfl,En V λS1 s1=>?_⟩;k_is;cases c2:eM K j (opm K.H (au K a g)) with
  |true=>rw[c2] at q;k_is;exact q S1 s1
  |false=>rw[c2] at q;k_is;exact q S1 s1
theorem Sm.setNew{S S':Sto}{f:Nat}{o:Ob}(h:Sm S S')(hf:S.length<=f):Sm S (S'.set f o):=λi u e=>by
 have hi:=(Zb.mp e).1;rw[Zq (by lia)];exact h i u e
theorem Kw{g:Int}(g0:0<=g)(g1:g < K.G.length):jn K g ∈ js K:=by
 have hi:g.toNat < K.G.length:=by lia
 refine(cD _).mem_iff.mpr (ZD.mpr ⟨K.G[g.toNat],ZM hi,?_⟩);unfold jn gi;rw[gEG hi];rfl
theorem lh(V:Vd K){L:List (Int × Int)}(hL:InG K L):∀q,aE K L=some q->0<=q.1/\q.1 < K.M.length:=λq e=>by
 unfold aE at e;cases h:L.getLast? with
 |none=>rw[h] at e;exact V.ah0 q e
 |some z=>
  rw[h] at e;cases e;have hz:=hL z (List.mem_of_getLast? h);obtain⟨a,b,c,d,e,f,h,eg,e0,e1,e2,e3,e6,k0,k1,c0⟩:=gl7 V hz.1 hz.2;show 0<=gi K.G z.1 0/\gi K.G z.1 0 < K.M.length;rw[e0];exact⟨k0,k1⟩
theorem b5{L:List (Int × Int)}{z:Int × Int}:aE K (L++[z])=some (gi K.G z.1 0,z.2):=by
 unfold aE;rw[Xs];rfl
theorem iz:∀ (os:List Int) (a:Option (Int × Int)) (L:List (Int × Int)) (j:Nat),rn K os a L = .inl j->j < L.length+os.length
 |[],_,_,_,h=>by cases h
 |g::os,a,L,j,h=>by
  rw[rn] at h;rw[Zv];split at h
  ·cases h;lia
  ·split at h
   ·cases h;lia
   ·have:=iz os _ _ j h;rw[Zh,Zm] at this
    lia
theorem jz:∀ (os:List Int) (a:Option (Int × Int)) (L R:List (Int × Int)),rn K os a L = .inr R->R.length=L.length+os.length
 |[],_,_,_,h=>by cases h;rfl
 |g::os,a,L,R,h=>by
  rw[rn] at h;rw[Zv];split at h
  ·cases h
  ·split at h
   ·cases h
   ·have:=jz os _ _ R h;rw[Zh,Zm] at this
    lia
structure Ends(K:Sky)(os:List Int)(L:List (Int × Int)):Prop where
 stuck:∀j,rn K os K.ah [] = .inl j->L.length=j
 lands:∀R,rn K os K.ah [] = .inr R->L=R
theorem qG(V:Vd K){os:List Int}(ho:∀g ∈ os,0<=g/\g < K.G.length)(lo:os.length<=7)
  (q:∀n L S',Sm S S'->S'[n]?=some (.lst (L.map ag))->Zj S<=n->Ends K os L->Q (.ref n) S'):Ok (evC ae (k+5) 29 [skE K,.tup (os.map D.int)] S) Q:=by
 refine aA (d:=bK) (ρ:=[some (skE K),some (.tup (os.map D.int)),none,none,none,none]) rfl rfl ?_;dsimp only[bK,cH];k_is;refine Ae (by rw[Za];lia) (λi ρ S'=>Sm S S'/\∃L u v w,ρ=[some (skE K),some (.tup (os.map D.int)),some (.ref (Zj S)),u,v,w]/\S'[Zj S]?=some (.lst (L.map ag))/\L.length=i/\InG K L/\rn K os K.ah []=rn K (os.drop i) (aE K L) L) (λi d ρ S1 hd ⟨s1,L,u,v,w,er,hn,hi,hL,hr⟩=>?_) (λρ S1 ⟨s1,L,u,v,w,er,hn,hi,hL,hr⟩=>?_) ⟨Sm.app _ _,[],none,none,none,rfl,aK,rfl,λ_ h=>(by simp at h),rfl⟩
 ·subst er;obtain⟨g,hg,rfl⟩:=iO hd;have hgG:=ho g (Ze hg);have hil:i < os.length:=(Zb.mp hg).1;rw[jy hg,rn,hi] at hr;refine⟨_,fw (by simp) (by simp),?_⟩;k_is;refine⟨rfl,qD V hn hL ?_⟩;refine⟨rfl,mW V (lh V hL) hgG.1 hgG.2 λS2 s2=>?_⟩;k_is;cases hst:Sn.step K (aE K L) g i with
  |none=>
   rw[hst] at hr;refine aa (show am .is (df none) .non S2=some (.bl true,S2) from rfl) ?_;k_is;exact q _ L S2 (s1.trans s2) (s2 _ _ hn) (Zf _) ⟨λj e=>by rw[hr] at e;cases e;exact hi,λR e=>by rw[hr] at e;cases e⟩
  |some m=>
   rw[hst] at hr;refine aa (show am .is (df (some m)) .non S2=some (.bl false,S2) from rfl) ?_;rw[show df (some m) = .int m from rfl];k_is;have hn2:=s2 _ _ hn;refine⟨cJ hn2,?_⟩;rw[k7 hn2 (by rw[Za];lia)];k_is;have lt2:Zj S < S2.length:=(Zb.mp hn2).1;have hn3:(S2.set (Zj S) (Ob.lst (L.map ag++[D.tup [D.int g,D.int m]])))[Zj S]?=some (.lst ((L++[(g,m)]).map ag)):=by rw[c9 lt2,ZP];rfl
   have s3:Sm S (S2.set (Zj S) (Ob.lst (L.map ag++[D.tup [D.int g,D.int m]]))):=Sm.setNew (s1.trans s2) (Zf _);generalize S2.set (Zj S) (Ob.lst (L.map ag++[D.tup [D.int g,D.int m]]))=S3 at *
   have hL3:InG K (L++[(g,m)]):=λz hz=>by
    rcases ZQ.mp hz with hz |hz
    ·exact hL z hz
    ·rw[Zx.mp hz];exact hgG
   have hz3:(L++[(g,m)])[i]?=some (g,m):=by rw[Zp (by lia),hi,Yo];rfl
   have ht3:(L++[(g,m)]).take i=L:=by rw[<-hi,List.take_left]
   refine⟨rfl,Em V hn3 hz3 hL3 (by rw[Zh,Zm];lia) λS4 s4=>?_⟩;rw[ht3,Ej λz hz=>Kw (hL z hz).1 (hL z hz).2];k_is;dsimp only at hr;cases hh:cm K L g m with
   |true=>
    rw[hh,if_pos rfl] at hr;k_is;refine aa (uv (s4 _ _ hn3)) ?_;k_is;have a5:(S4++[Ob.lst (((L++[(g,m)]).map ag).take i)])[Zj S4]?=some (.lst (L.map ag)):=by rw[aK,<-We,ht3]
    have l4:Zj S<=Zj S4:=YU (Zb.mp (s4 _ _ hn3)).1;exact q _ L _ ((s3.trans s4).trans (Sm.app _ _)) a5 l4 ⟨λj e=>by rw[hr] at e;cases e;exact hi,λR e=>by rw[hr] at e;cases e⟩
   |false=>
    rw[hh,if_neg Zd] at hr;k_is;exact⟨s3.trans s4,L++[(g,m)],_,_,_,rfl,s4 _ _ hn3,by rw[Zh,Zm];lia,hL3,by rw[b5];exact hr⟩
 ·subst er;k_is;rw[Za,YC,rn] at hr;exact q _ L S1 s1 hn (Zf _) ⟨λj e=>(by rw[hr] at e;cases e),λR e=>(by rw[hr] at e;cases e;rfl)⟩
end Lw
namespace Lw
open PySem Ev
variable {p:Nat} {S:Sto} {k:Nat} {Q:D->Sto->Prop}
end Lw
namespace Lw
open PySem Ev Sn
variable {p:Nat} {S:Sto} {k:Nat} {Q:D->Sto->Prop} {K:Sky}
theorem fP(r:List Int):TDs p S (r.map Dw.D.int) (r.map D.int):=by
 induction r with
 |nil=>exact bI
 |cons a r ih=>exact ao bp ih
theorem fC:∀ (M:List (List Int)),TDs p S (Dw.je M) (M.map az)
 |[]=>bI
 |r::M=>ao (bA (fP r)) (fC M)
abbrev ahT:Option (Int × Int)->Dw.D
 |none=>.non
 |some q=>.tup [.int q.1,.int q.2]
abbrev skT(K:Sky):Dw.D:=.tup [.tup [.int K.r,.int K.s,.tup (Dw.je K.M),.tup (K.H.map Dw.mo)],ahT K.ah,.tup (Dw.je K.G),.tup (K.F.map Dw.D.int)]
theorem FJ:∀ (a:Option (Int × Int)),TD p S (ahT a) (ahE a)
 |none=>zw
 |some q=>bA (ao bp (ao bp bI))
theorem NC:TD p S (skT K) (skE K):=bA (ao (bA (ao bp (ao bp (ao (bA (fC K.M)) (ao (bA (fA K.H)) bI))))) (ao (FJ K.ah) (ao (bA (fC K.G)) (ao (bA (fP K.F)) bI))))
theorem Ag{H:List (Int × Int)}{m:Int}(hl:H.length<=4)(q:Q (.int (opm H m)) S):Ok (evC ae (k+1) 45 [.tup (H.map ag),.int m] S) Q:=by
 refine aA (d:=gI) (ρ:=[some (.tup (H.map ag)),some (.int m),none,none]) rfl rfl ?_;dsimp only[gI,kS];k_is;refine Ac (by rw[Za];lia) (λi ρ S'=>S'=S/\∃ (m':Int) (u v:Option D),opm H m=opm (H.drop i) m'/\ρ=[some (.tup (H.map ag)),some (.int m'),u,v]) (λi d ρ S' hd ⟨es,m',u,v,ef,er⟩=>?_) (λρ S' ⟨es,m',u,v,ef,er⟩=>?_) ⟨rfl,m,none,none,rfl,rfl⟩
 ·subst es er;obtain⟨pr,hp,rfl⟩:=iO hd;refine⟨_,show ax (.tup [.name 2,.name 3]) (.tup [.int pr.1,.int pr.2]) _=_ from fw (by simp) (by simp),?_⟩;k_is;rw[jy hp,opm] at ef;refine qC (λh1 h2=>?_) λh=>?_
  ·k_is;rw[if_pos ⟨of_decide_eq_true h1,of_decide_eq_true h2⟩] at ef;exact⟨rfl,_,_,_,ef,rfl⟩
  ·k_is;rw[if_neg (λz=>by rw[decide_eq_true z.1,decide_eq_true z.2] at h;cases h)] at ef;exact⟨rfl,_,_,_,ef,rfl⟩
 ·subst es er;k_is;rw[Za,YC,opm] at ef;rw[ef] at q;exact q
theorem wz(V:Vd K){L:List (Int × Int)}{n:Nat}{t:Int}(hn:S[n]?=some (.lst (L.map ag)))(hL:InG K L)(hl:L.length<=1000)(q:∀N ds S',Sm S S'->S'[N]?=some (.lst ds)->ds.length=wts K L t->Q (.ref N) S'):Ok (evC ae (k+1) 46 [skE K,.ref n,.int t] S) Q:=by
 refine aA (d:=fu) (ρ:=[some (skE K),some (.ref n),some (.int t)]) rfl rfl ?_;dsimp only[fu,ja];k_is;refine⟨by rw[aM hn];rfl,?_⟩;refine bQ L ag (λz=>if aC K t z=true then [.int z.1] else []) hl (λz _=>by split <;> simp) (ei hn) (λi z S' hz sm=>⟨_,show ax (.tup [.name 3,.name 4]) (.tup [.int z.1,.int z.2]) _=_ from fw (by simp) (by simp),?_⟩) λS' sm=>?_
 ·obtain⟨h0,h1⟩:=hL z (Ze hz);obtain⟨a,b,c,d,e,f,h,eg,_,e1,_⟩:=gl7 V h0 h1;k_is;refine aa sk2 (aa (gg h0 eg) (aa (show ixS (az [a,b,c,d,e,f,h]) (.int 1) S'=some (.int b,S') from rfl) ?_));k_is;have ew:aC K t z=(decide (b<=t) && decide (t < z.2 - K.s)):=by unfold aC jn;rw[e1]
  rw[ew];cases c1:decide (b<=t) with
  |false=>k_is;exact⟨rfl,Sm.refl _⟩
  |true=>
   k_is;refine aa sk0 (aa me1 ?_);k_is;cases c2:decide (t < z.2 - K.s) with
   |true=>k_is;exact⟨rfl,Sm.refl _⟩
   |false=>k_is;exact⟨rfl,Sm.refl _⟩
 ·rw[bB];k_is;exact q _ _ _ (sm.trans (Sm.app _ _)) aK (by rw[Za];rfl)
theorem wD{c:Int}{xs:List Int}{n:Nat}(h:S[n]?=some (.lst (xs.map D.int))):ai (fY c) (.ref n) S=some (.int (vT c xs),S):=by
 simp only[ai,ay,aM h,ZA,fY,fN]
theorem Ah(V:Vd K){L:List (Int × Int)}{n:Nat}{g m:Int}(hn:S[n]?=some (.lst (L.map ag)))(hL:InG K L)(hl:L.length<=100)(g0:0<=g)(g1:g < K.G.length)(q:∀S',Sm S S'->Q (.int (oK K L g m)) S'):Ok (evC ae (k+2) 47 [skE K,.ref n,.int g,.int m] S) Q:=by
 refine aA (d:=gJ) (ρ:=[some (skE K),some (.ref n),some (.int g),some (.int m),none,none,none]) rfl rfl ?_;dsimp only[gJ,kT];obtain⟨a,b,c,d,e,f,h,eg,_,e1,_⟩:=gl7 V g0 g1;have ej:jn K g=b:=e1;k_is;refine aa sk2 (aa (gg g0 eg) (aa (show ixS (az [a,b,c,d,e,f,h]) (.int 1) S=some (.int b,S) from rfl) ?_));k_is;have s1:Sm S (S++[Ob.lst [D.int b]]):=Sm.app _ _;have a1:(S++[Ob.lst [D.int b]])[Zj S]?=some (Ob.lst [D.int b]):=aK;generalize Zj S=N1 at *;generalize S++[Ob.lst [D.int b]]=S1 at *;have hn1:=s1 _ _ hn;refine⟨by rw[aM hn1];rfl,?_⟩;refine bQ L ag (λz=>[.int (jn K z.1)]) (by lia) (λ_ _=>Zf _) (ei hn1) (λi z S' hz sm=>⟨_,show ax (.tup [.name 7,.name 8]) (.tup [.int z.1,.int z.2]) _=_ from fw (by simp) (by simp),?_⟩) λS2 s2=>?_
 ·obtain⟨h0,h1⟩:=hL z (Ze hz);obtain⟨a,b,c,d,e,f,h,eg,_,e1,_⟩:=gl7 V h0 h1;k_is;refine aa sk2 (aa (gg h0 eg) (aa (show ixS (az [a,b,c,d,e,f,h]) (.int 1) S'=some (.int b,S') from rfl) ?_));exact⟨by rw[show jn K z.1=b from e1],Sm.refl _⟩
 ·rw[ce];have s3:Sm S2 (S2++[Ob.lst (L.map λz=>D.int (jn K z.1))]):=Sm.app _ _;refine aa (uw (s3 _ _ (s2 _ _ a1)) aK (by rw[Za,Zm];lia)) ?_;k_is;have s4:Sm (S2++[Ob.lst (L.map λz=>D.int (jn K z.1))]) (S2++[Ob.lst (L.map λz=>D.int (jn K z.1))]++[Ob.lst ([D.int b]++L.map λz=>D.int (jn K z.1))]):=Sm.app _ _
  have a4:(S2++[Ob.lst (L.map λz=>D.int (jn K z.1))]++[Ob.lst ([D.int b]++L.map λz=>D.int (jn K z.1))])[Zj (S2++[Ob.lst (L.map λz=>D.int (jn K z.1))])]?=some (Ob.lst ((jn K g::L.map λz=>jn K z.1).map D.int)):=by
   rw[aK,ej,ZC,ZU];rfl
  have sA:=((s1.trans s2).trans s3).trans s4;have hn4:=sA _ _ hn;generalize Zj (S2++[Ob.lst (L.map λz=>D.int (jn K z.1))])=N4 at *;generalize S2++[Ob.lst (L.map λz=>D.int (jn K z.1))]++[Ob.lst ([D.int b]++L.map λz=>D.int (jn K z.1))]=S4 at *;refine⟨by rw[aM a4];rfl,?_⟩;refine bQ (jn K g::L.map λz=>jn K z.1) D.int (λt=>if (decide (jn K g<=t) && decide (t < m - K.s))=true then [D.int (1+(wts K L t:Int))] else []) (by rw[Zv,Za];lia) (λ_ _=>by split <;> simp) (ei a4) (λi t S' ht sm=>⟨_,rfl,?_⟩) λS5 s5=>?_
  ·k_is;rw[ej];cases c1:decide (b<=t) with
   |false=>k_is;exact⟨rfl,Sm.refl _⟩
   |true=>
    k_is;refine aa sk0 (aa me1 ?_);k_is;cases c2:decide (t < m - K.s) with
    |false=>k_is;exact⟨rfl,Sm.refl _⟩
    |true=>
     k_is;refine⟨rfl,wz V (sm _ _ hn4) hL (by lia) λN ds S6 s6 hN hd=>?_⟩;refine aa (fO hN) ?_;k_is;rw[hd];exact⟨rfl,s6⟩
  ·rw[bB];k_is;have s6:Sm S5 (S5++[Ob.lst ((eF K L g m).map λt=>D.int (1+(wts K L t:Int)))]):=Sm.app _ _;have a6:(S5++[Ob.lst ((eF K L g m).map λt=>D.int (1+(wts K L t:Int)))])[Zj S5]?=some (Ob.lst (((eF K L g m).map λt=>1+(wts K L t:Int)).map D.int)):=by rw[aK,ZU];rfl
   refine aa (wD a6) ?_;k_is;exact q _ ((sA.trans s5).trans s6)
theorem Ai{ds:List D}{i:Int}(h0:0<=i):gk ds (some i) none=ds.drop i.toNat:=by
 unfold gk;rw[Dw.GI _ _ h0,HT.xq];by_cases h:i.toNat<=ds.length
 ·rw[X4 h,Z5 (by rw[Y8];lia)]
 ·rw[XW (by lia),YC,List.take_nil,Xi (by lia)]
theorem Aj{n:Nat}{ds:List D}{i:Int}(hn:S[n]?=some (.lst ds))(h0:0<=i):slS (some i) none (.ref n) S=some (.ref (Zj S),S++[.lst (ds.drop i.toNat)]):=by
 simp only[slS,aM hn,Ai h0]
theorem FK{ds:List D}(i:Nat)(d:D)(h:ds[i]?=some d):(λi=>(ds[i]?).getD .non) i=d:=by
 show(ds[i]?).getD .non=d;rw[h];rfl
theorem eu{i:Int}(h0:0<=i)(h1:i < 1000):lim i=true:=by simp only[lim,bAE,decide_eq_true_eq];lia
theorem Kx{n:Nat}{lo:Int}{tg:Tg}{c:XA}{ρ:Rho}{Q:List D->Sto->Prop}(f:Nat->D)(hl:n<=1000)(step:∀ (i:Nat),i < n->∃ρ1,ax tg (.int (lo+i)) ρ=some ρ1/\Ok (c ρ1 S) λes S1=>es=[f i]/\S1=S)(q:Q ((Zl n).map f) S) :
  Ok (be (nxR lo n) tg c ρ LF 0 S) λes S2=>es.length<=100000/\Q es S2:=by
 refine sy (by lia) (λi acc S'=>S'=S/\acc=(Zl i).map f) (λi acc S' hi ⟨e,ea⟩=>?_) (λes S' ⟨e,ea⟩=>?_) ⟨rfl,rfl⟩
 ·subst e;obtain⟨ρ1,e2,es,S1,e3,e4,e5⟩:=step i hi;exact⟨ρ1,e2,es,S1,e3,e5,by rw[ea,e4,Xm,ZP];rfl⟩
 ·subst e ea;exact⟨by rw[Za,ZJ];lia,q⟩
abbrev mid(M:List (List Int))(n c a:Nat):List (List Int):=(Zl n).map λi=>if i < a then Dw.aU M n c i else (M[i]?).getD []
theorem ic{M:List (List Int)}{n c a i:Nat}(hi:i < n):(mid M n c a)[i]?=some (if i < a then Dw.aU M n c i else (M[i]?).getD []):=by
 unfold mid;rw[Zo,Yp hi];rfl
theorem Ak{M:List (List Int)}{n c:Nat}(h:Dw.Mat n M):mid M n c 0=M:=by
 apply YJ;intro i;by_cases hi:i < n
 ·rw[ic hi,if_neg (by lia)];have:i < M.length:=by rw[h.len];exact hi
  rw[gEG this];rfl
 ·rw[Zs (by unfold mid;rw[Za,ZJ];lia),Zs (by rw[h.len];lia)]
theorem Eo{M:List (List Int)}{n c:Nat}:mid M n c n=(Zl n).map (Dw.aU M n c):=by
 unfold mid;refine YF λi hi=>?_;rw[if_pos (Z1.mp hi)]
theorem Ep{M:List (List Int)}{n c a:Nat}(ha:a < n):(mid M n c a).set a (Dw.aU M n c a)=mid M n c (a+1):=by
 apply YJ;intro i;by_cases hi:i < n
 ·rw[ic hi];by_cases hia:i=a
  ·subst hia;rw[ZR (by unfold mid;rw[Za,ZJ];lia),if_pos (by lia)]
  ·rw[Zq (Ne.symm hia),ic hi];by_cases h:i < a
   ·rw[if_pos h,if_pos (by lia)]
   ·rw[if_neg h,if_neg (by lia)]
 ·rw[Zs (by rw[ZY];unfold mid;rw[Za,ZJ];lia),Zs (by unfold mid;rw[Za,ZJ];lia)]
theorem ND{M:List (List Int)}{n c a b:Nat}(h:Dw.Mat n M)(hc:c < n)(hb:b < n):Dw.mg2 (mid M n c a) c b=Dw.mg2 M c b:=by
 unfold Dw.mg2;rw[ic hc];split
 ·rw[ZZ,Dw.pE M hb];obtain⟨_,_,_,_,p1,_⟩:=h.at hc hc;show(if Dw.mg2 M c c+Dw.mg2 M c b < Dw.mg2 M c b then Dw.mg2 M c c+Dw.mg2 M c b else Dw.mg2 M c b)=_;rw[if_neg (by lia)];rfl
 ·rfl
theorem NF{M:List (List Int)}{n c a b:Nat}(ha:a < n):Dw.mg2 (mid M n c a) a b=Dw.mg2 M a b:=by
 unfold Dw.mg2;rw[ic ha,if_neg (ZN _)];rfl
theorem RowsS.at{rs:List D}{M:List (List Int)}(h:RowsS p S rs M){n:Nat}{L:Nat}(hL:S[L]?=some (.lst rs)){i j:Int}(i0:0<=i)(j0:0<=j)(hm:∃r x,M[i.toNat]?=some r/\r[j.toNat]?=some x/\x=Dw.mg2 M i.toNat j.toNat) :
  ∃a,ixS (.ref L) (.int i) S=some (.ref a,S)/\ixS (.ref a) (.int j) S=some (.int (Dw.mg2 M i.toNat j.toNat),S):=by
 obtain⟨r,x,hr,hx,ex⟩:=hm;obtain⟨a,ea,na,za⟩:=h.row _ r hr;exact⟨a,fB hL i0 ea,fB za j0 (by rw[Zo,hx,ex];rfl)⟩
theorem sH{M:List (List Int)}{n i j:Nat}(hl:M.length=n)(hr:∀r ∈ M,r.length=n)(hi:i < n)(hj:j < n):∃r x,M[i]?=some r/\r[j]?=some x/\x=Dw.mg2 M i j:=by
 have hi':i < M.length:=by lia
 have hj':j < M[i].length:=by rw[hr _ (ZM hi')];exact hj
 refine⟨M[i],M[i][j],gEG hi',gEG hj',?_⟩;unfold Dw.mg2;rw[gEG hi',ZZ,gEG hj'];rfl
theorem Al{M:List (List Int)}{n c a:Nat}(h:Dw.Mat n M):∀r ∈ mid M n c a,r.length=n:=λr hr=>by
 unfold mid at hr;obtain⟨i,hi,rfl⟩:=ZD.mp hr;have hi:=Z1.mp hi;split
 ·exact Dw.pD M n c i
 ·have:i < M.length:=by rw[h.len];exact hi
  rw[gEG this];exact h.row _ (ZM this)
theorem Er{M:List (List Int)}{n c a:Nat}:(mid M n c a).length=n:=by unfold mid;rw[Za,ZJ]
theorem RowsS.set{rs:List D}{M:List (List Int)}{L i a:Nat}{r:List Int}(h:RowsS p S rs M)(hL:S[L]?=some (.lst rs))(hi:i < M.length)(na:a ≠ p)(za:S[a]?=some (.lst (r.map D.int)))(nL:a ≠ L)(hz:∀ (i:Nat) r b,M[i]?=some r->rs[i]?=some (D.ref b)->b ≠ L):RowsS p (S.set L (.lst (rs.set i (.ref a)))) (rs.set i (.ref a)) (M.set i r):=by
 refine⟨by rw[ZY,ZY];exact h.len,λj r' hr=>?_⟩;by_cases hj:j=i
 ·subst hj;rw[ZR hi] at hr;cases hr;exact⟨a,by rw[ZR (by rw[h.len];exact hi)],na,by rw[Zq (Ne.symm nL)];exact za⟩
 ·rw[Zq (Ne.symm hj)] at hr;obtain⟨b,eb,nb,zb⟩:=h.row j r' hr;have:=hz j r' b hr eb;exact⟨b,by rw[Zq (Ne.symm hj)];exact eb,nb,by rw[Zq (Ne.symm this)];exact zb⟩
theorem Es{rs:List D}{M:List (List Int)}{L n:Nat}(h:RowsS p S rs M)(hL:S[L]?=some (.lst rs))(hr:∀r ∈ M,0 < r.length):∀ (i:Nat) r b,M[i]?=some r->rs[i]?=some (D.ref b)->b ≠ L:=λi r b e1 e2 e3=>by
 obtain⟨b',e4,_,z⟩:=h.row i r e1;rw[e2] at e4;cases e4;rw[e3,hL] at z;cases z;rw[Zo] at e2;cases hx:r[i]? with
 |none=>rw[hx] at e2;cases e2
 |some x=>rw[hx] at e2;cases e2
end Lw
namespace Lw
open PySem Ev Sn L2
variable {p:Nat} {S:Sto} {k:Nat} {Q:D->Sto->Prop} {K:Sky}
theorem Kp.len{p:Nat}{S S':Sto}(h:Ev.Kp p S S')(hp:p < S'.length):S.length<=S'.length:=by
 by_cases hz:S.length<=S'.length
 ·exact hz
 ·exfalso;have hlt:S'.length < S.length:=by lia
  have:=h S'.length S[S'.length] (by lia) (gEG hlt);rw[Zs (Zf _)] at this;cases this
theorem ux{n:Nat}{ds:List D}{i:Int}{v:D}(hn:S[n]?=some (.lst ds))(h0:0<=i)(h1:i.toNat < ds.length):iB (.ref n) (.int i) v S=some (S.set n (.lst (ds.set i.toNat v))):=by
 have hix:ixN ds.length i=some i.toNat:=by
  unfold ixN;rw[if_pos (by lia),if_pos (by lia)]
 simp only[iB,hn,hix,ZA]
theorem Am{n L:Nat}{es:List D}{M:List (List Int)}{u v w x:Option D}{pt:D}(hL:S[L]?=some (.lst es))(hr:RowsS p S es M)(hm:Dw.Mat n M)(hn:n<=4)(q:∀S',Sm S S'->Q (.tup (M.map az)) S') :
  rW (wSs (evC ae (k+1)) (jk ae) 57 (dQ.drop 3)) [some pt,u,v,some (.ref L),w,x] S (out Q):=by
 dsimp only[dQ,Xc];k_is;refine⟨by rw[aM hL];rfl,?_⟩;have le:es.length=n:=by rw[hr.len,hm.len]
 refine iM n (λi=>(es[i]?).getD .non) (λi acc S'=>S'=S/\acc=(M.take i).map az) (λi acc S' hi ⟨e,_⟩=>by subst e;rw[<-le];exact zC hL _ FK) (by lia) (λi acc S2 hi ⟨e2,ea⟩=>?_) (λes' S2 ⟨e2,ea⟩=>⟨by rw[ea,Za,Yq];lia,?_⟩) ⟨rfl,rfl⟩
 ·subst e2;have li:i < M.length:=by rw[hm.len];exact hi
  obtain⟨a,eb,na,za⟩:=hr.row i M[i] (gEG li);simp only[eb,ZZ];refine⟨_,rfl,?_⟩;k_is;refine aa (show ai cL (.ref a) S2=some (.tup (M[i].map D.int),S2) by simp only[ai,ay,aM za,ZA,cL]) ?_;refine⟨rfl,?_⟩;rw[ea,ZT li,ZP];rfl
 ·subst e2;rw[Z5 (by rw[hm.len];exact Zf _)] at ea;subst ea;refine aa (show cL false (M.map az) S2=some (.tup (M.map az),S2) from rfl) ?_;k_is;exact q S2 (Sm.refl _)
theorem An(h:Pot p S)(q:∀n M S',Dr p S S'->Dw.Mat n M->1<=n->n<=4->Dw.pC n n M->Q (.tup (M.map az)) S'):Ok (evC ae (k+2) 42 [.ref p] S) Q:=by
 refine aA (d:=gH) (ρ:=[some (.ref p),none,none,none,none,none]) rfl rfl ?_;dsimp only[gH,dQ];k_is;refine⟨rfl,aG h (by decide) (by decide) λr0 S0 r1 r2 d0=>?_⟩;k_is;refine⟨rfl,aG d0.pot (by decide) (by decide) λf0 S1 f1 f2 d01=>?_⟩;k_is;have d1:=d0.trans d01;obtain⟨n,rfl⟩:∃n:Nat,r0=(n:Int):=⟨r0.toNat,by lia⟩
 obtain⟨far,at1,hf⟩:∃e:Int,atI [D.int 3,D.int 12,D.int 40] f0=some (D.int e)/\0 < e/\e<=40:=by
  have:f0=0\/f0=1\/f0=2:=by lia
  rcases this with rfl |rfl |rfl
  ·exact⟨3,rfl,by decide,by decide⟩
  ·exact⟨12,rfl,by decide,by decide⟩
  ·exact⟨40,rfl,by decide,by decide⟩
 refine⟨_,at1,?_⟩;k_is;have e1:((1:Int)+n).toNat=n+1:=by lia
 have l1:lim (1+(n:Int))=true:=eu (by lia) (by lia);refine⟨l1,?_⟩;rw[e1];refine sy (by lia) (λi acc S'=>Dr p S1 S'/\∃M:List (List Int),M.length=i/\RowsS p S' acc M/\∀r ∈ M,r.length=n+1/\∀x ∈ r,1<=x/\x<=99) (λi acc S2 hi ⟨d2,M,lM,rM,bM⟩=>⟨_,rfl,?_⟩) (λes S2 ⟨d2,M,lM,rM,bM⟩=>⟨by rw[rM.len];lia,?_⟩) ⟨Dr.refl d1.pot,[],rfl,RowsS.nil,λr hr=>by simp at hr⟩
 ·k_is;refine⟨l1,?_⟩;rw[e1];refine sy (by lia) (λj acc S'=>Dr p S2 S'/\∃r:List Int,acc=r.map D.int/\r.length=j/\∀x ∈ r,1<=x/\x<=99) (λj acc S3 hj ⟨d3,r,ea,lr,br⟩=>⟨_,rfl,?_⟩) (λes S3 ⟨d3,r,ea,lr,br⟩=>⟨by rw[ea,Za];lia,?_⟩) ⟨Dr.refl d2.pot,[],rfl,rfl,λx hx=>by simp at hx⟩
  ·k_is;refine⟨rfl,aG d3.pot hf.1 (by lia) λx S4 x1 x2 d4=>?_⟩;k_is;refine⟨d3.trans d4,r++[1+x],by rw[ea,ZP];rfl,by simp[lr],λy hy=>?_⟩;rcases ZQ.mp hy with hy |hy
   ·exact br y hy
   ·simp at hy;lia
  ·subst ea;k_is;have lt:=d3.pot.lt;refine⟨(d2.trans d3).thenSm (Sm.app _ _),M++[r],by simp[lM],((rM.keep d3.kp).keep (Sm.app _ _).kp).snoc (by lia) aK,λr' hr'=>?_⟩;rcases ZQ.mp hr' with hr' |hr'
   ·exact bM r' hr'
   ·simp at hr';subst hr';exact⟨lr,br⟩
 ·have lt2:=d2.pot.lt;have d3:Dr p S (S2++[Ob.lst es]):=(d1.trans d2).thenSm (Sm.app _ _);have r3:RowsS p (S2++[Ob.lst es]) es M:=rM.keep (Sm.app _ _).kp;have a3:(S2++[Ob.lst es])[S2.length]?=some (Ob.lst es):=aK;have m3:Dw.Mat (n+1) M:=⟨lM,λr hr=>(bM r hr).1,λr hr=>(bM r hr).2⟩;have lS:S.length<=S2.length:=Kp.len (d1.trans d2).kp lt2;have ne3:S2.length ≠ p:=by lia
  revert a3 r3 d3;generalize S2++[Ob.lst es]=S3;generalize S2.length=L at *;intro d3 r3 a3;k_is;refine⟨l1,?_⟩;rw[e1];refine hZ (by lia) (λc ρ S'=>Dr p S S'/\∃es M u v,ρ=[some (.ref p),some (.int (1+(n:Int))),some (.int far),some (.ref L),u,v]/\S'[L]?=some (.lst es)/\RowsS p S' es M/\Dw.Mat (n+1) M/\Dw.pC (n+1) c M) (λc ρ S4 hc ⟨d4,es,M,u,v,er,hL,hr,hm,tr⟩=>?_) (λρ S4 ⟨d4,es,M,u,v,er,hL,hr,hm,tr⟩=>?_) ⟨d3,es,M,none,none,rfl,a3,r3,m3,λ_ _ _ _ _ h=>absurd h (Nat.not_lt_zero _)⟩
  ·subst er;refine⟨_,rfl,?_⟩;k_is;refine⟨l1,?_⟩;rw[e1];refine hZ (by lia) (λa ρ S'=>Dr p S S'/\∃es v,ρ=[some (.ref p),some (.int (1+(n:Int))),some (.int far),some (.ref L),some (.int (0+(c:Int))),v]/\S'[L]?=some (.lst es)/\RowsS p S' es (mid M (n+1) c a)) (λa ρ S5 ha ⟨d5,es,v,er,hL,hr⟩=>?_) (λρ S5 ⟨d5,es,v,er,hL,hr⟩=>?_) ⟨d4,es,v,rfl,hL,by rw[Ak hm];exact hr⟩
   ·subst er;refine⟨_,rfl,?_⟩;k_is;refine⟨l1,?_⟩;rw[e1];have ml:=@Er M (n+1) c a;have mr:=Al (c:=c) (a:=a) hm;have z0:∀x:Nat,((0:Int)+x).toNat=x:=λx=>by lia
    refine Kx (λb=>.int (if Dw.mg2 M a c+Dw.mg2 M c b < Dw.mg2 M a b then Dw.mg2 M a c+Dw.mg2 M c b else Dw.mg2 M a b)) (by lia) (λb hb=>⟨_,rfl,?_⟩) ?_
    ·k_is;obtain⟨x1,i1,j1⟩:=RowsS.at (n:=0) hr hL (i:=0+(a:Int)) (j:=0+(b:Int)) (by lia) (by lia) (by rw[z0,z0];exact sH ml mr ha hb);obtain⟨x2,i2,j2⟩:=RowsS.at (n:=0) hr hL (i:=0+(a:Int)) (j:=0+(c:Int)) (by lia) (by lia) (by rw[z0,z0];exact sH ml mr ha hc);obtain⟨x3,i3,j3⟩:=RowsS.at (n:=0) hr hL (i:=0+(c:Int)) (j:=0+(b:Int)) (by lia) (by lia) (by rw[z0,z0];exact sH ml mr hc hb);rw[z0,z0,NF ha] at j1 j2;rw[z0,z0,ND hm hc hb] at j3;refine aa i1 (aa j1 (aa i2 (aa j2 (aa i3 (aa j3 ?_)))));k_is;exact⟨rfl,rfl⟩
    ·have ef:((Zl (n+1)).map λb=>D.int (if Dw.mg2 M a c+Dw.mg2 M c b < Dw.mg2 M a b then Dw.mg2 M a c+Dw.mg2 M c b else Dw.mg2 M a b))=(Dw.aU M (n+1) c a).map D.int:=by unfold Dw.aU;rw[ZU];rfl
     rw[ef];k_is;have lt5:=d5.pot.lt;have hL':=Sm.app S5 [Ob.lst ((Dw.aU M (n+1) c a).map D.int)] _ _ hL;have lL:L < S5.length:=(Zb.mp hL).1;have le:es.length=n+1:=by rw[hr.len,ml]
     refine⟨_,ux hL' (by lia) (by lia),?_⟩;k_is;rw[z0];have hr':RowsS p (S5++[Ob.lst ((Dw.aU M (n+1) c a).map D.int)]) es (mid M (n+1) c a):=hr.keep (Sm.app _ _).kp;have hr2:=RowsS.set (i:=a) (a:=S5.length) (r:=Dw.aU M (n+1) c a) hr' hL' (by lia) (by lia) aK (by lia) (Es (n:=0) hr' hL' λr hh=>by rw[mr r hh];lia);rw[Ep ha] at hr2;have kA:Ev.Kp p S ((S5++[Ob.lst ((Dw.aU M (n+1) c a).map D.int)]).set L (.lst (es.set a (.ref S5.length)))):=(d5.kp.trans (Sm.app _ _).kp).setNew lS;refine⟨⟨kA,((Dr.sm d5.pot (Sm.app _ _)).pot).setNe ne3⟩,_,_,rfl,?_,hr2⟩;rw[c9 (by rw[Zh];lia)]
   ·subst er;k_is;rw[Eo] at hr;exact⟨d5,es,_,_,_,rfl,hL,hr,Dw.xT hm hc,Dw.xS hm hc tr (Dw.BH hm hc)⟩
  ·subst er;have tail:=Am (k:=k) (p:=p) (Q:=Q) (pt:=.ref p) (u:=some (.int (1+(n:Int)))) (v:=some (.int far)) (w:=u) (x:=v) hL hr hm (by lia) λS' sm=>q (n+1) M S' (d4.thenSm sm) hm (by lia) (by lia) tr;dsimp only[dQ,Xc] at tail;exact tail
theorem qH:∀ {H:List (Int × Int)} {lo x y:Int},Ris lo H->lo < x->(∀q ∈ H,q.2 < x)->x < y->Ris lo (H++[(x,y)])
 |[],lo,x,y,_,h1,_,h3=>⟨h1,h3,trivial⟩
 |q::H,lo,x,y,h,h1,h2,h3=>by
  rw[Ris] at h;exact⟨h.1,h.2.1,qH h.2.2 (h2 q Zi) (λr hr=>h2 r (Zg _ hr)) h3⟩
theorem jA:∀ {H:List (Int × Int)} {lo:Int} {q:Int × Int},Ris lo H->q ∈ H->lo < q.1/\q.1 < q.2
 |q'::H,lo,q,h,hq=>by
  rw[Ris] at h;rcases Zn.mp hq with rfl |hq
  ·exact⟨h.1,h.2.1⟩
  ·have:=jA h.2.2 hq
   lia
theorem qI:∀ {H:List (Int × Int)} {lo:Int},Ris lo H->∀ (i:Nat) q q',H[i]?=some q->H[i+1]?=some q'->q.2 < q'.1
 |q0::H,lo,h,0,q,q',e1,e2=>by
  rw[Ris] at h;cases e1;rw[Yt] at e2;exact(jA h.2.2 (Ze e2)).1
 |q0::H,lo,h,i+1,q,q',e1,e2=>by
  rw[Ris] at h;rw[Yt] at e1 e2;exact qI h.2.2 i q q' e1 e2
structure MeOk(r s:Int)(M:List (List Int))(H:List (Int × Int)):Prop where
 r0:0<=r
 r8:r<=8
 s0:0<=s
 s60:s<=60
 mat:Dw.Mat M.length M
 m1:1<=M.length
 m4:M.length<=4
 tri:Dw.pC M.length M.length M
 ris:Ris (-1) H
 h4:H.length<=4
 hb:∀q ∈ H,q.2<=9999
theorem sI(h:Pot p S)(q:∀r s M H S',Dr p S S'->MeOk r s M H->Q (.tup [.int r,.int s,.tup (M.map az),.tup (H.map ag)]) S'):Ok (evC ae (k+3) 43 [.ref p] S) Q:=by
 refine aA (d:=dX) (ρ:=[some (.ref p),none,none,none,none]) rfl rfl ?_;dsimp only[dX,hX];have lt:=h.lt;k_is;have d0:Dr p S (S++[Ob.lst []]):=Dr.sm h (Sm.app _ _);have a0:(S++[Ob.lst []])[Zj S]?=some (Ob.lst (([]:List (Int × Int)).map ag)):=aK;have nN:Zj S ≠ p:=by lia
 generalize S++[Ob.lst []]=S0 at *;refine⟨rfl,aG d0.pot (by decide) (by decide) λi0 S1 i1 i2 d1=>?_⟩;k_is
 obtain⟨fr,at1,hf⟩:∃e:Int,atI [D.int 1,D.int 5] i0=some (D.int e)/\0 < e/\e<=5:=by
  have:i0=0\/i0=1:=by lia
  rcases this with rfl |rfl
  ·exact⟨1,rfl,by decide,by decide⟩
  ·exact⟨5,rfl,by decide,by decide⟩
 refine⟨_,at1,?_⟩;refine⟨rfl,aG d1.pot hf.1 (by lia) λn0 S2 n1 n2 d2=>?_⟩;k_is;obtain⟨n,rfl⟩:∃n:Nat,n0=(n:Int):=⟨n0.toNat,by lia⟩;refine⟨eu (by lia) (by lia),?_⟩;rw[ZE];have d02:=(d0.trans d1).trans d2;have a2:=(d1.trans d2).kp _ _ nN a0;refine hZ (by lia) (λi ρ S'=>Dr p S S'/\∃ (H:List (Int × Int)) (b:Int) (u v:Option D),ρ=[some (.ref p),some (.ref (Zj S)),some (.int b),u,v]/\S'[Zj S]?=some (.lst (H.map ag))/\H.length=i/\Ris (-1) H/\(∀q ∈ H,q.2 < b)/\0<=b/\b<=60 * i) (λi ρ S3 hi ⟨d3,H,b,u,v,er,hn,hl,hr,hm,b0,b1⟩=>?_) (λρ S3 ⟨d3,H,b,u,v,er,hn,hl,hr,hm,b0,b1⟩=>?_) ⟨d02,[],0,none,none,rfl,a2,rfl,trivial,λq hq=>by simp at hq,by decide,by decide⟩
 ·subst er;refine⟨_,rfl,?_⟩;k_is;refine⟨rfl,aG d3.pot (by decide) (by decide) λx S4 x1 x2 d4=>?_⟩;k_is;have hn4:=d4.kp _ _ nN hn;refine⟨cJ hn4,?_⟩;refine⟨rfl,aG d4.pot (by decide) (by decide) λy S5 y1 y2 d5=>?_⟩;k_is;have hn5:=d5.kp _ _ nN hn4;rw[k7 hn5 (by rw[Za];lia)];k_is;have lt5:Zj S < S5.length:=(Zb.mp hn5).1;have f5:(S5.set (Zj S) (Ob.lst (H.map ag++[D.tup [D.int (b+x),D.int (b+x+1+y)]])))[Zj S]?=some (Ob.lst (H.map ag++[D.tup [D.int (b+x),D.int (b+x+1+y)]])):=c9 lt5;refine aa (oC f5) (aa (show ixS (D.tup [D.int (b+x),D.int (b+x+1+y)]) (.int 1) (S5.set (Zj S) (Ob.lst (H.map ag++[D.tup [D.int (b+x),D.int (b+x+1+y)]])))=some (.int (b+x+1+y),_) from rfl) ?_);k_is;refine⟨⟨((d3.kp.trans d4.kp).trans d5.kp).setNew (Zf _),d5.pot.setNe nN⟩,H++[(b+x,b+x+1+y)],_,_,_,rfl,by rw[f5,ZP];rfl,by rw[Zh,Zm];lia,qH hr (by lia) (λq hq=>by have:=hm q hq;lia) (by lia),λq hq=>?_,by lia,by lia⟩;rcases ZQ.mp hq with hq |hq
  ·have:=hm q hq;lia
  ·rw[Zx.mp hq];show b+x+1+y < b+x+1+y+1;lia
 ·subst er;k_is;refine⟨rfl,aG d3.pot (by decide) (by decide) λi3 S4 j3 k3 d4=>?_⟩;k_is
  obtain⟨r,at3,h3⟩:∃e:Int,atI [D.int 8,D.int 1,D.int 2,D.int 3,D.int 0] i3=some (D.int e)/\0<=e/\e<=8:=by
   have:i3=0\/i3=1\/i3=2\/i3=3\/i3=4:=by lia
   rcases this with rfl |rfl |rfl |rfl |rfl
   ·exact⟨8,rfl,by decide,by decide⟩
   ·exact⟨1,rfl,by decide,by decide⟩
   ·exact⟨2,rfl,by decide,by decide⟩
   ·exact⟨3,rfl,by decide,by decide⟩
   ·exact⟨0,rfl,by decide,by decide⟩
  refine⟨_,at3,?_⟩;refine⟨rfl,aG d4.pot (by decide) (by decide) λi5 S5 j5 k5 d5=>?_⟩;k_is
  obtain⟨s,at5,h5⟩:∃e:Int,atI [D.int 0,D.int 2,D.int 9,D.int 60] i5=some (D.int e)/\0<=e/\e<=60:=by
   have:i5=0\/i5=1\/i5=2\/i5=3:=by lia
   rcases this with rfl |rfl |rfl |rfl
   ·exact⟨0,rfl,by decide,by decide⟩
   ·exact⟨2,rfl,by decide,by decide⟩
   ·exact⟨9,rfl,by decide,by decide⟩
   ·exact⟨60,rfl,by decide,by decide⟩
  refine⟨_,at5,?_⟩;refine⟨rfl,An d5.pot λm M S6 d6 hM m1 m4 tr=>?_⟩;have hn6:=((d4.trans d5).trans d6).kp _ _ nN hn;refine aa (show ai cL (.ref (Zj S)) S6=some (.tup (H.map ag),S6) by simp only[ai,ay,aM hn6,ZA,cL]) ?_;k_is;obtain rfl:=hM.len;exact q r s M H S6 (d3.trans ((d4.trans d5).trans d6)) ⟨h3.1,h3.2,h5.1,h5.2,hM,m1,m4,tr,hr,by lia,λq hq=>by have:=hm q hq;lia⟩
end Lw
namespace Lw
open PySem Ev Sn L2
variable {p:Nat} {S S':Sto} {k:Nat} {Q:D->Sto->Prop} {K:Sky}
structure Gs(p N hi:Nat)(S:Sto)(es:List D)(G:List (List Int)):Prop where
 pN:p < N
 at_:S[N]?=some (.lst es)
 len:es.length=G.length
 row:∀ (i:Nat) g,G[i]?=some g->∃a,es[i]?=some (D.ref a)/\N < a/\a < hi/\S[a]?=some (.lst (g.map D.int))
 inj:∀ (i j a:Nat),es[i]?=some (D.ref a)->es[j]?=some (D.ref a)->i=j
section
variable {N hi hi':Nat} {es:List D} {G:List (List Int)}
theorem Gs.keep(h:Gs p N hi S es G)(kp:Ev.Kp p S S'):Gs p N hi S' es G:=by
 have pN:=h.pN;refine⟨h.pN,kp _ _ (by lia) h.at_,h.len,λi g hg=>?_,h.inj⟩;obtain⟨a,e,n1,n2,z⟩:=h.row i g hg;exact⟨a,e,n1,n2,kp _ _ (by lia) z⟩
theorem Gs.up(h:Gs p N hi S es G)(hh:hi<=hi'):Gs p N hi' S es G:=by
 refine⟨h.pN,h.at_,h.len,λi g hg=>?_,h.inj⟩;obtain⟨a,e,n1,n2,z⟩:=h.row i g hg;exact⟨a,e,n1,by lia,z⟩
theorem Gs.other(h:Gs p N hi S es G){f:Nat}{o:Ob}(hf:hi<=f)(hN:N < hi):Gs p N hi (S.set f o) es G:=by
 refine⟨h.pN,by rw[Zq (by lia)];exact h.at_,h.len,λi g hg=>?_,h.inj⟩;obtain⟨a,e,n1,n2,z⟩:=h.row i g hg;exact⟨a,e,n1,n2,by rw[Zq (by lia)];exact z⟩
theorem Gs.snoc(h:Gs p N S.length S es G){g:List Int}:Gs p N (S.length+1) ((S++[Ob.lst (g.map D.int)]).set N (.lst (es++[D.ref S.length]))) (es++[D.ref S.length]) (G++[g]):=by
 have lN:N < S.length:=(Zb.mp h.at_).1
 have old:∀ (i a:Nat),es[i]?=some (D.ref a)->a < S.length:=λi a e=>by
  have hi:i < G.length:=by rw[<-h.len];exact(Zb.mp e).1
  obtain⟨b,e2,n1,n2,_⟩:=h.row i G[i] (gEG hi);rw[e] at e2;cases e2;exact n2
 refine⟨h.pN,by rw[c9 (by rw[Zh];lia)],by rw[Zh,Zh,h.len];rfl,λi g' hg=>?_,λi j a e1 e2=>?_⟩
 ·by_cases hi:i < G.length
  ·rw[Zu hi] at hg;obtain⟨a,e,n1,n2,z⟩:=h.row i g' hg;exact⟨a,by rw[Zu (by rw[h.len];exact hi)];exact e,n1,by lia,by rw[Zq (by lia),Zu n2];exact z⟩
  ·have hl:=(Zb.mp hg).1;rw[Zh,Zm] at hl;obtain rfl:i=G.length:=by lia
   rw[Zp (Zf _),Yo] at hg;cases hg;exact⟨S.length,by rw[Zp (by rw[h.len];lia),h.len,Yo];rfl,lN,by lia,by rw[Zq (by lia),aK]⟩
 ·have key:∀ (i:Nat),(es++[D.ref S.length])[i]?=some (D.ref a)->(i < es.length/\es[i]?=some (D.ref a))\/(i=es.length/\a=S.length):=λi e=>by
   by_cases hi:i < es.length
   ·rw[Zu hi] at e;exact .inl ⟨hi,e⟩
   ·have hl:=(Zb.mp e).1;rw[Zh,Zm] at hl;obtain rfl:i=es.length:=by lia
    rw[Zp (Zf _),Yo] at e;cases e;exact .inr ⟨rfl,rfl⟩
  rcases key i e1 with ⟨h1,z1⟩ |⟨h1,z1⟩ <;> rcases key j e2 with ⟨h2,z2⟩ |⟨h2,z2⟩
  ·exact h.inj i j a z1 z2
  ·have:=old i a z1;lia
  ·have:=old j a z2;lia
  ·lia
theorem Gs.setRow(h:Gs p N hi S es G){i a:Nat}{g:List Int}(hi':i < G.length)(ea:es[i]?=some (D.ref a)):Gs p N hi (S.set a (.lst (g.map D.int))) es (G.set i g):=by
 obtain⟨b,eb,n1,n2,zb⟩:=h.row i G[i] (gEG hi');rw[ea] at eb;cases eb;have la:=(Zb.mp zb).1;refine⟨h.pN,by rw[Zq (by lia)];exact h.at_,by rw[ZY];exact h.len,λj g' hg=>?_,h.inj⟩;by_cases hj:j=i
 ·subst hj;rw[ZR hi'] at hg;cases hg;exact⟨a,ea,n1,n2,c9 la⟩
 ·rw[Zq (Ne.symm hj)] at hg;obtain⟨c,ec,m1,m2,zc⟩:=h.row j g' hg;have:c ≠ a:=λz=>hj (by rw[z] at ec;exact h.inj j i a ec ea);exact⟨c,ec,m1,m2,by rw[Zq (Ne.symm this)];exact zc⟩
end
def GX(x:Int)(n:Nat)(r s:Int)(g:List Int):Prop:=∃kd jo fi la du we ri:Int,g=[kd,jo,fi,la,du,we,ri]/\0<=kd/\kd < n/\0<=jo/\jo+s<=fi/\fi<=la/\la<=x/\0<=du/\du<=x/\0<=we/\we<=99/\0<=ri/\ri<=r
theorem GX.up{x y:Int}{n:Nat}{r s:Int}{g:List Int}(h:GX x n r s g)(hx:x<=y):GX y n r s g:=by
 obtain⟨kd,jo,fi,la,du,we,ri,e,z⟩:=h;exact⟨kd,jo,fi,la,du,we,ri,e,by omega⟩
def GB(n:Nat)(r s:Int)(g:List Int):Prop:=GX 530 n r s g
structure SkX(x:Int)(K:Sky):Prop where
 me:MeOk K.r K.s K.M K.H
 g7:K.G.length<=7
 gb:∀g ∈ K.G,GX x K.M.length K.r K.s g
 nd:K.F.Nodup
 bd:∀x ∈ K.F,0<=x/\x < K.G.length
 rg:∀ (j:Nat) g,K.G[j]?=some g->g.getD 6 0=0\/(j:Int) ∈ K.F
 ah:∀q,K.ah=some q->0<=q.1/\q.1 < K.M.length/\0<=q.2/\q.2<=9999
@[inline]abbrev bL(K:Sky):Prop:=SkX 9999 K
theorem SkX.vd{x:Int}(h:SkX x K):Vd K:=by
 refine⟨h.me.r0,h.me.r8,h.me.s0,h.me.s60,h.me.m1,h.me.m4,h.me.mat.row,h.me.ris,h.me.h4,λq e=>⟨(h.ah q e).1,(h.ah q e).2.1⟩,h.g7,λg hg=>?_⟩;obtain⟨kd,jo,fi,la,du,we,ri,rfl,h1,h2,h3,h4,_⟩:=h.gb g hg;have:=h.me.s0;refine⟨rfl,h1,h2,?_⟩;show 0<=fi
 lia
theorem bJ{α:Type}{l:List α}{E:α->D}{S:Sto}:ai cB (.tup (l.map E)) S=some (.int l.length,S):=by simp only[ai,ay,cB,Za]
theorem sJ{α:Type}{l:List α}:l.all (λ_=>true)=true:=Yg.mpr λ_ _=>rfl
theorem sK{α:Type}{nx:Nxt}{tg:Tg}{c:XA}{ρ:Rho}(l:List α)(E:α->D)(hl:l.length<=1000)(hnx:∀i S',Sm S S'->nx i S'=some ((l[i]?).map E))
  (step:∀ (i:Nat) a S',l[i]?=some a->Sm S S'->∃ρ1,ax tg (E a) ρ=some ρ1/\Ok (c ρ1 S') λes S1=>es=[.bl true]/\Sm S' S1) (q:∀S',Sm S S'->Q (.bl true) S') :
  Ok (be nx tg c ρ LF 0 S) λes S2=>es.length<=100000/\Ok (ji false es S2) Q:=by
 refine bQ l E (λ_=>[.bl true]) hl (λ_ _=>Zf _) hnx step λS' s'=>?_;rw[ce];refine aa (ow l (λ_=>true) S') ?_;rw[sJ];exact q S' s'
theorem sL{i a b:Int}(h0:a<=i)(h1:i<=b)(q:Q (.bl true) S):Ok (evC ae (k+2) 1 [.int i,.int a,.int b] S) Q:=mV (p:=0) bp (by
 rw[show Dw.gj (.int i) a b=true by simp only[Dw.gj,decide_eq_true h0,decide_eq_true h1,XC]];exact q)
theorem Et{i:Int}(h0:0<=i)(h1:i<=9999)(q:Q (.bl true) S):Ok (evC ae (k+3) 2 [.int i] S) Q:=wu (p:=0) bp (by
 rw[show Dw.gj (.int i) 0 9999=true by simp only[Dw.gj,decide_eq_true h0,decide_eq_true h1,XC]];exact q)
theorem lQ{ts:List Dw.D}{ds:List D}{a b:Int}(h:TDs 0 S ts ds)(h0:a<=ts.length)(h1:(ts.length:Int)<=b)(q:Q (.bl true) S):Ok (evC ae (k+1) 3 [.tup ds,.int a,.int b] S) Q:=z7 (bA h) (by
 rw[show Dw.isT (.tup ts) a b=true by simp only[Dw.isT,decide_eq_true h0,decide_eq_true h1,XC]];exact q)
theorem jB{M:List (List Int)}:(Dw.je M).length=M.length:=by unfold Dw.je;rw[Za]
theorem NG{r:List Int}{n:Nat}(hl:r.length=n)(hn:n<=4)(hr:∀x ∈ r,1<=x/\x<=99)(q:∀S',Sm S S'->Q (.bl true) S'):Ok (evC ae (k+3) 8 [az r,.int n] S) Q:=by
 refine aA (d:=dS) (ρ:=[some (az r),some (.int n)]) rfl rfl ?_;dsimp only[dS,hJ];rw[show az r = .tup (r.map D.int) from rfl];k_is;refine⟨rfl,lQ (fP r) (by rw[Za];lia) (by rw[Za];lia) ?_⟩;k_is;refine sK r D.int (by lia) cK (λi x S' hx sm=>⟨_,rfl,?_⟩) q;k_is;have:=hr x (Ze hx);exact⟨rfl,sL this.1 this.2 ⟨rfl,Sm.refl _⟩⟩
theorem Ao{es:List D}(h:∀e ∈ es,e = .bl true)(S:Sto):ji false es S=some (.bl true,S):=by
 have e:es.map (λ_=>D.bl true)=es:=by
  conv=>rhs;rw[<-List.map_id es]
  exact YF λx hx=>(h x hx).symm
 rw[<-e];exact(ow es (λ_=>true) S).trans (by rw[sJ])
theorem NH(sk:bL K)(q:∀S',Sm S S'->Q (.bl true) S'):Ok (evC ae (k+1) 9 [.tup (K.M.map az)] S) Q:=by
 refine aA (d:=a7) (ρ:=[some (.tup (K.M.map az)),none]) rfl rfl ?_;dsimp only[a7,bD];have V:=sk.vd;have m4:=sk.me.m4;k_is;refine aa bJ ?_;refine⟨_,rfl,by lia,?_⟩;k_is;have hm:(S++[Ob.lst ((Zl K.M.length).map λj=>D.int (Int.ofNat j))])[S.length]?=some (.lst ((Zl K.M.length).map λj=>D.int (Int.ofNat j))):=aK;have sq:∀S',Sm (S++[Ob.lst ((Zl K.M.length).map λj=>D.int (Int.ofNat j))]) S'->(ak S' S.length).isSome=true:=λS' sm=>by rw[aM (sm _ _ hm)];rfl
 refine⟨sq _ (Sm.refl _),?_⟩;refine(sx hm (by lia) (λa=>(Zl K.M.length).flatMap λb=>(Zl K.M.length).flatMap λc=>[.bl true]) λa S1 ha sm1=>⟨_,rfl,?_⟩).mono λes S2 ⟨ee,sm⟩=>?_
 ·k_is;refine⟨sq _ sm1,?_⟩;refine sx (sm1 _ _ hm) (by lia) _ λb S2 hb sm2=>⟨_,rfl,?_⟩;k_is;refine⟨sq _ (sm1.trans sm2),?_⟩;refine sx (sm2 _ _ (sm1 _ _ hm)) (by lia) _ λc S3 hc sm3=>⟨_,rfl,?_⟩;k_is;obtain⟨r1,e1,e2⟩:=lb (S:=S3) V (a:=a) (b:=b) (by lia) (by lia) (by lia) (by lia);obtain⟨r2,e3,e4⟩:=lb (S:=S3) V (a:=a) (b:=c) (by lia) (by lia) (by lia) (by lia);obtain⟨r3,e5,e6⟩:=lb (S:=S3) V (a:=c) (b:=b) (by lia) (by lia) (by lia) (by lia);refine aa e1 (aa e2 (aa e3 (aa e4 (aa e5 (aa e6 ?_)))));k_is;refine⟨?_,Sm.refl _⟩;have t:=sk.me.tri a b c ha hb hc;rw[decide_eq_true (show gp K a b<=gp K a c+gp K c b from t)]
 ·subst ee
  have all:∀e ∈ (Zl K.M.length).flatMap λa=>(Zl K.M.length).flatMap λb=>(Zl K.M.length).flatMap λc=>[D.bl true],e = .bl true:=λe he=>by
   obtain⟨a,_,he⟩:=ZS.mp he;obtain⟨b,_,he⟩:=ZS.mp he;obtain⟨c,_,he⟩:=ZS.mp he;exact Zx.mp he
  refine⟨?_,aa (Ao all _) (q _ ((Sm.app S _).trans sm))⟩;have f3:∀a b:Nat,((Zl K.M.length).flatMap λc=>[D.bl true]).length<=4:=λ_ _=>by rw[ce (Zl K.M.length) (λ_=>D.bl true),Za,ZJ];exact m4
  have f2:∀a:Nat,((Zl K.M.length).flatMap λb=>(Zl K.M.length).flatMap λc=>[D.bl true]).length<=K.M.length * 4:=λa=>Dw.tB λb _=>f3 a b;have f1:=Dw.tB (n:=K.M.length) (m:=K.M.length * 4) (f:=λa=>(Zl K.M.length).flatMap λb=>(Zl K.M.length).flatMap λc=>[D.bl true]) λa _=>f2 a;have:K.M.length * (K.M.length * 4)<=4 * (4 * 4):=Wb m4 (Wb m4 (Zf _))
  lia
theorem Ky(sk:bL K)(q:∀S',Sm S S'->Q (.bl true) S'):Ok (evC ae (k+4) 7 [.tup (K.M.map az)] S) Q:=by
 refine aA (d:=gC) (ρ:=[some (.tup (K.M.map az))]) rfl rfl ?_;dsimp only[gC,kO];have m1:=sk.me.m1;have m4:=sk.me.m4;k_is;refine⟨rfl,lQ (fC K.M) (by rw[jB];lia) (by rw[jB];lia) ?_⟩;k_is;refine sK K.M az (by lia) cK (λi r S' hr sm=>⟨_,rfl,?_⟩) λS' sm=>?_
 ·k_is;refine aa bJ ?_;have hm:=Ze hr;exact⟨rfl,NG (sk.me.mat.row r hm) m4 (sk.me.mat.ent r hm) λS2 s2=>⟨rfl,s2⟩⟩
 ·k_is;exact⟨rfl,NH sk λS2 s2=>q S2 (sm.trans s2)⟩
theorem wG{z:Int × Int}(h0:0<=z.1)(h1:z.1 < z.2)(h2:z.2<=9999)(q:Q (.bl true) S):Ok (evC ae (k+4) 11 [ag z] S) Q:=by
 refine aA (d:=dU) (ρ:=[some (ag z)]) rfl rfl ?_;dsimp only[dU,hU];rw[show ag z = .tup [.int z.1,.int z.2] from rfl];have x0:ixS (.tup [D.int z.1,.int z.2]) (.int 0) S=some (.int z.1,S):=rfl;have x1:ixS (.tup [D.int z.1,.int z.2]) (.int 1) S=some (.int z.2,S):=rfl;k_is;refine⟨rfl,lQ (ao bp (ao bp bI)) (ZO _) (ZO _) ?_⟩;k_is;refine aa x0 ⟨rfl,Et h0 (by lia) ?_⟩;k_is;refine aa x1 ⟨rfl,Et (by lia) h2 ?_⟩;k_is;refine aa x0 (aa x1 ?_);k_is;rw[decide_eq_true h1];exact q
theorem Eu(sk:bL K)(q:∀S',Sm S S'->Q (.bl true) S'):Ok (evC ae (k+5) 10 [.tup (K.H.map ag)] S) Q:=by
 refine aA (d:=fh) (ρ:=[some (.tup (K.H.map ag))]) rfl rfl ?_;dsimp only[fh,iY];have h4:=sk.me.h4;k_is;refine⟨rfl,lQ (fA K.H) (by rw[Za];lia) (by rw[Za];lia) ?_⟩;k_is;refine sK K.H ag (by lia) cK (λi z S' hz sm=>⟨_,rfl,?_⟩) λS' sm=>?_
 ·k_is;have a:=jA sk.me.ris (Ze hz);exact⟨rfl,wG (by lia) a.2 (sk.me.hb z (Ze hz)) ⟨rfl,Sm.refl _⟩⟩
 ·k_is;refine aa bJ ?_;k_is;refine⟨⟨by decide,eu (by lia) (by lia)⟩,?_⟩;refine CW (by lia) (λ_=>true) (λi S2 hi sm2=>⟨_,rfl,?_⟩) λS2 sm2=>?_
  ·k_is;have hi1:i+1 < K.H.length:=by lia
   have z1:(1:Int)+i=((i+1:Nat):Int):=by lia
   have z2:((i+1:Nat):Int) - 1=((i:Nat):Int):=by lia
   rw[z1,z2];refine aa (qB (d:=ag K.H[i+1]) (by lia) (by rw[ZE,Zo,gEG hi1];rfl)) (aa (show ixS (ag K.H[i+1]) (.int 0) S2=some (.int K.H[i+1].1,S2) from rfl) ?_);refine aa (qB (d:=ag K.H[i]) (by lia) (by rw[ZE,Zo,gEG (by lia)];rfl)) (aa (show ixS (ag K.H[i]) (.int 1) S2=some (.int K.H[i].2,S2) from rfl) ?_);k_is;rw[decide_eq_true (qI sk.me.ris i _ _ (gEG (by lia)) (gEG hi1))];exact⟨rfl,Sm.refl _⟩
  ·refine aa (ow _ (λ_=>true) _) ?_;rw[sJ];exact q S2 (sm.trans sm2)
theorem Ap(sk:bL K)(q:∀S',Sm S S'->Q (.bl true) S'):Ok (evC ae (k+6) 6 [meE K] S) Q:=by
 refine aA (d:=fg) (ρ:=[some (meE K),none,none,none,none]) rfl rfl ?_;dsimp only[fg,iX];rw[show meE K = .tup [.int K.r,.int K.s,.tup (K.M.map az),.tup (K.H.map ag)] from rfl];k_is;refine⟨rfl,lQ (ao bp (ao bp (ao (bA (fC K.M)) (ao (bA (fA K.H)) bI)))) (ZO _) (ZO _) ?_⟩;k_is;refine⟨rfl,sL sk.me.r0 sk.me.r8 ?_⟩;k_is;refine⟨rfl,sL sk.me.s0 sk.me.s60 ?_⟩;k_is;refine⟨rfl,Ky sk λS1 s1=>?_⟩;k_is;exact⟨rfl,Eu sk λS2 s2=>q S2 (s1.trans s2)⟩
theorem Aq{i:Int}(h0:0<=i)(h1:i < K.M.length)(q:Q (.bl true) S):Ok (evC ae (k+3) 12 [meE K,.int i] S) Q:=by
 refine aA (d:=iI) (ρ:=[some (meE K),some (.int i)]) rfl rfl ?_;dsimp only[iI,mP];k_is;refine aa me2 (aa bJ ?_);k_is;exact⟨rfl,sL h0 (by lia) q⟩
theorem Ew(sk:bL K)(q:Q (.bl true) S):Ok (evC ae (k+4) 15 [meE K,ahE K.ah] S) Q:=by
 refine aA (d:=gD) (ρ:=[some (meE K),some (ahE K.ah)]) rfl rfl ?_;dsimp only[gD,kP];cases h:K.ah with
 |none=>k_is;exact aa (show am .is (ahE none) .non S=some (.bl true,S) from rfl) q
 |some z=>
  obtain⟨a0,a1,b0,b1⟩:=sk.ah z h;have x0:ixS (.tup [D.int z.1,.int z.2]) (.int 0) S=some (.int z.1,S):=rfl;have x1:ixS (.tup [D.int z.1,.int z.2]) (.int 1) S=some (.int z.2,S):=rfl;rw[show ahE (some z) = .tup [.int z.1,.int z.2] from rfl];k_is;refine aa (show am .is (.tup [D.int z.1,.int z.2]) .non S=some (.bl false,S) from rfl) ?_;k_is;refine⟨rfl,lQ (ao bp (ao bp bI)) (ZO _) (ZO _) ?_⟩;k_is;refine aa x0 ⟨rfl,Aq a0 a1 ?_⟩;k_is;exact aa x1 ⟨rfl,Et b0 b1 q⟩
theorem Ar(sk:bL K){g:List Int}(hg:g ∈ K.G)(q:∀S',Sm S S'->Q (.bl true) S'):Ok (evC ae (k+4) 17 [meE K,az g] S) Q:=by
 obtain⟨kd,jo,fi,la,du,we,ri,rfl,a0,a1,b0,b1,b2,b3,c0,c1,d0,d1,e0,e1⟩:=sk.gb g hg;have s0:=sk.me.s0;refine aA (d:=fj) (ρ:=[some (meE K),some (az [kd,jo,fi,la,du,we,ri]),none,none,none,none,none,none,none]) rfl rfl ?_;dsimp only[fj,iZ];rw[show az [kd,jo,fi,la,du,we,ri] = .tup [.int kd,.int jo,.int fi,.int la,.int du,.int we,.int ri] from rfl];k_is;refine⟨rfl,lQ (fP [kd,jo,fi,la,du,we,ri]) (ZO _) (ZO _) ?_⟩;k_is;refine sK [jo,fi,la,du] D.int (by show 4<=1000;decide) (cK (l:=[jo,fi,la,du]) (E:=D.int)) (λi x S' hx sm=>⟨_,rfl,?_⟩) λS' sm=>?_
 ·k_is;have hm:=Ze hx;simp only[Zn,Xb,or_false] at hm;refine⟨rfl,Et ?_ ?_ ⟨rfl,Sm.refl _⟩⟩
  ·rcases hm with rfl |rfl |rfl |rfl <;> lia
  ·rcases hm with rfl |rfl |rfl |rfl <;> lia
 ·k_is;refine aa me1 ?_;k_is;rw[decide_eq_true b1];k_is;rw[decide_eq_true b2];k_is;refine⟨rfl,Aq a0 a1 ?_⟩;k_is;refine⟨rfl,sL d0 d1 ?_⟩;k_is;refine aa me0 ⟨rfl,sL e0 e1 (q S' sm)⟩
theorem wH(sk:bL K)(q:∀S',Sm S S'->Q (.bl true) S'):Ok (evC ae (k+5) 16 [meE K,.tup (K.G.map az)] S) Q:=by
 refine aA (d:=cY) (ρ:=[some (meE K),some (.tup (K.G.map az))]) rfl rfl ?_;dsimp only[cY,f7];have g7:=sk.g7;k_is;refine⟨rfl,lQ (fC K.G) (by rw[jB];lia) (by rw[jB];lia) ?_⟩;k_is;refine sK K.G az (by lia) cK (λi g S' hg sm=>⟨_,rfl,?_⟩) q;k_is;exact⟨rfl,Ar sk (Ze hg) λS2 s2=>⟨rfl,s2⟩⟩
theorem As(sk:bL K)(q:∀S',Sm S S'->Q (.bl true) S'):Ok (evC ae (k+3) 4 [.tup (K.F.map D.int),.int K.G.length] S) Q:=by
 refine aA (d:=dR) (ρ:=[some (.tup (K.F.map D.int)),some (.int K.G.length)]) rfl rfl ?_;dsimp only[dR,hF];have g7:=sk.g7;have lF:=Dw.ca K.G.length K.F sk.nd sk.bd;k_is;refine⟨rfl,lQ (fP K.F) (by rw[Za];lia) (by rw[Za];lia) ?_⟩;k_is;refine sK K.F D.int (by lia) cK (λi x S' hx sm=>⟨_,rfl,?_⟩) λS' sm=>?_
 ·k_is;have:=sk.bd x (Ze hx);exact⟨rfl,sL this.1 (by lia) ⟨rfl,Sm.refl _⟩⟩
 ·k_is;refine sK K.F D.int (by lia) cK (λi x S2 hx sm2=>⟨_,rfl,?_⟩) λS2 sm2=>q S2 (sm.trans sm2);k_is;refine⟨rfl,aa (zz K.F x S2) ?_⟩;k_is;rw[show((K.F.count x:Nat):Int)=1 by rw[List.Nodup.count sk.nd,if_pos (Ze hx)];rfl];exact⟨rfl,Sm.refl _⟩
theorem Ex(sk:bL K)(q:∀S',Sm S S'->Q (.bl true) S'):Ok (evC ae (k+4) 18 [.tup (K.G.map az),.tup (K.F.map D.int)] S) Q:=by
 refine aA (d:=fk) (ρ:=[some (.tup (K.G.map az)),some (.tup (K.F.map D.int))]) rfl rfl ?_;dsimp only[fk,i6];have g7:=sk.g7;k_is;refine aa bJ ?_;refine⟨rfl,As sk λS1 s1=>?_⟩;k_is;refine iM K.G.length (λi=>.tup [.int i,((K.G.map az)[i]?).getD .non]) (λi acc S'=>Sm S1 S'/\acc.length=i/\∀e ∈ acc,e = .bl true) (λi acc S' hi _=>?_) (by lia) (λi acc S' hi hq1=>?_) (λes S' hq2=>by obtain⟨s',la,ha⟩:=hq2;exact⟨by lia,aa (Ao ha _) (q S' (s1.trans s'))⟩) ⟨Sm.refl _,rfl,λe he=>by cases he⟩
 ·show enm (K.G.map az) i=_;unfold enm;rw[if_pos (by rw[Za];exact hi)];split
  ·rename_i hlt;rw[gEG (by rw[Za];exact hlt)];rfl
  ·rw[Zs (by rw[Za];lia)];rfl
 ·obtain⟨s',la,ha⟩:=hq1;obtain⟨kd,jo,fi,la',du,we,ri,eg,_⟩:=sk.gb K.G[i] (ZM hi);have rg:=sk.rg i _ (gEG hi);have ez:((K.G.map az)[i]?).getD .non = .tup [.int kd,.int jo,.int fi,.int la',.int du,.int we,.int ri]:=by rw[Zo,gEG hi,eg];rfl
  rw[eg] at rg;have rg:ri=0\/(i:Int) ∈ K.F:=rg;rw[ez];have fin:∀S',Sm S1 S'->Sm S1 S'/\(acc++[D.bl true]).length=i+1/\∀e ∈ acc++[D.bl true],e = .bl true:=λS' s'=>⟨s',by rw[Zh,Zm];lia,λe he=>(ZQ.mp he).elim (ha e) λz=>Zx.mp z⟩;refine⟨_,fw (by simp) (by simp),?_⟩;k_is;refine aa (show ixS (.tup [D.int kd,.int jo,.int fi,.int la',.int du,.int we,.int ri]) (.int 6) S'=some (.int ri,S') from rfl) ?_;k_is;cases c:decide (ri=0) with
  |true=>k_is;exact fin S' s'
  |false=>
   k_is;refine aa (show am .isin (.int (i:Int)) (.tup (K.F.map D.int)) S'=some (.bl (false != decide ((i:Int) ∈ K.F)),S') from oz false K.F i S') ?_;rw[decide_eq_true (rg.resolve_left (of_decide_eq_false c))];exact fin S' s'
theorem NI(sk:bL K)(q:∀S',Sm S S'->Q (.bl true) S'):Ok (evC ae (k+7) 14 [skE K] S) Q:=by
 refine aA (d:=kW) (ρ:=[some (skE K),none,none,none,none]) rfl rfl ?_;dsimp only[kW,qp];rw[show skE K = .tup [meE K,ahE K.ah,.tup (K.G.map az),.tup (K.F.map D.int)] from rfl];k_is;refine⟨rfl,lQ (ts:=[.tup [.int K.r,.int K.s,.tup (Dw.je K.M),.tup (K.H.map Dw.mo)],ahT K.ah,.tup (Dw.je K.G),.tup (K.F.map Dw.D.int)]) (ao (bA (ao bp (ao bp (ao (bA (fC K.M)) (ao (bA (fA K.H)) bI))))) (ao (FJ K.ah) (ao (bA (fC K.G)) (ao (bA (fP K.F)) bI)))) (ZO _) (ZO _) ?_⟩;k_is;refine⟨rfl,Ap sk λS1 s1=>?_⟩;k_is;refine⟨rfl,Ew sk ?_⟩;k_is;refine⟨rfl,wH sk λS2 s2=>?_⟩;k_is;exact⟨rfl,Ex sk λS3 s3=>q S3 ((s1.trans s2).trans s3)⟩
theorem Au(sk:bL K)(q:∀S',Sm S S'->Q .non S'):Ok (evC ae (k+8) 20 [skE K] S) Q:=by
 refine aA (d:=fo) (ρ:=[some (skE K)]) rfl rfl ?_;dsimp only[fo,i8];k_is;refine⟨rfl,NI sk λS' sm=>?_⟩;k_is;exact q S' sm
end Lw
namespace Sn
open Ev PySem
abbrev cst(K:Sky)(g m:Int):Int:=gi K.G g 5 * (if m - gi K.G g 4 > 0 then m - gi K.G g 4 else 0)
abbrev jnd(K:Sky)(l:Bool)(g m x:Int):Int:=if x > cst K g m then x else cst K g m
abbrev mX(ws:List (Int × List Int)):Option (Int × List Int):=ws[argBest (kr ws) (ws.length - 1)]?
abbrev rst(left:List Int)(g:Int):List Int:=left.filter λx=>!decide (x=g)
abbrev bb(K:Sky)(l:Bool):Nat->Option (Int × Int)->List Int->Option (Int × List Int)
 |0,_,_=>some (0,[])
 | n+1,ah,left=>mX (left.filterMap λg=>match step K ah g (K.G.length - (n+1)) with
  |none=>none
  | some m=>(bb K l n (some (gi K.G g 0,m)) (rst left g)).map λz=>(jnd K l g m z.1,g::z.2))
abbrev bw(K:Sky)(l:Bool)(n:Nat)(ah:Option (Int × Int))(left:List Int)(g:Int):Option (Int × List Int):=match step K ah g (K.G.length - (n+1)) with
 |none=>none
 |some m=>(bb K l n (some (gi K.G g 0,m)) (rst left g)).map λz=>(jnd K l g m z.1,g::z.2)
theorem oM{K:Sky}{l:Bool}{n:Nat}{ah:Option (Int × Int)}{left:List Int}:bb K l (n+1) ah left=mX (left.filterMap (bw K l n ah left)):=rfl
theorem wJ{ws:List (Int × List Int)}{z:Int × List Int}(h:mX ws=some z):z ∈ ws:=Ze h
theorem sM{K:Sky}{l:Bool}:∀ (n:Nat) (ah:Option (Int × Int)) (left:List Int) (z:Int × List Int),bb K l n ah left=some z->z.2.length=n
 |0,_,_,z,h=>by cases h;rfl
 |n+1,ah,left,z,h=>by
  rw[oM] at h;obtain⟨g,_,e⟩:=Yh.mp (wJ h);unfold bw at e;split at e
  ·cases e
  ·obtain⟨y,e1,rfl⟩:=ZL.mp e;rw[Zv,sM n _ _ y e1]
end Sn
namespace Lw
open PySem Ev Sn L2
variable {p:Nat} {S S':Sto} {k:Nat} {Q:D->Sto->Prop} {K:Sky}
abbrev jl(l:Bool):D:=.str "most"
abbrev bH:Option (Int × List Int)->D
 |none=>.non
 |some z=>.tup [.int z.1,.tup (z.2.map D.int)]
abbrev NJ:Option (Int × Int)->NK
 |none=>.non
 |some z=>.tup [.inl z.1,.inl z.2]
abbrev fU(ah:Option (Int × Int))(left:List Int):List NK:=[NJ ah,.tup (left.map Sum.inl)]
theorem lj:∀ (xs:List Int),dm (xs.map D.int)=some (xs.map Sum.inl)
 |[]=>rfl
 |x::xs=>by rw[ZC,dm,lj xs];rfl
theorem dG{ah:Option (Int × Int)}{left:List Int}:lJ (.tup [ahE ah,.tup (left.map D.int)])=some (fU ah left):=by
 have e:x6 (.tup (left.map D.int))=some (.tup (left.map Sum.inl)):=by show(dm _).map _=_;rw[lj];rfl
 have e2:x6 (ahE ah)=some (NJ ah):=by cases ah <;> rfl
 show mv _=_;simp only[mv,e,e2,fU]
theorem uy:∀ {xs ys:List Int},xs.map (Sum.inl:Int->Key)=ys.map Sum.inl->xs=ys
 |[],[],_=>rfl
 |[],_::_,e=>by cases e
 |_::_,[],e=>by cases e
 |x::xs,y::ys,e=>by
  obtain⟨a,b⟩:=Wf.inj e;cases a;rw[uy b]
theorem qJ{a b:Option (Int × Int)}{xs ys:List Int}(h:fU a xs=fU b ys):a=b/\xs=ys:=by
 unfold fU at h;obtain⟨h1,h2⟩:=Wf.inj h;obtain⟨h2,_⟩:=Wf.inj h2;refine⟨?_,uy (NK.tup.inj h2)⟩;cases a with
 |none=>cases b with
  |none=>rfl
  |some z=>cases h1
 |some z=>cases b with
  |none=>cases h1
  |some w=>
   obtain⟨z1,z2⟩:=z;obtain⟨w1,w2⟩:=w;cases h1;rfl
def KI(K:Sky)(l:Bool)(kss:List (List NK))(ds:List D):Prop:=kss.length=ds.length/\∀ah left d,atD kss ds (fU ah left)=some d->d=bH (bb K l left.length ah left)
structure Kn(K:Sky)(l:Bool)(p c:Nat)(S:Sto):Prop where
 ex:∃kss ds,S[p]?=some (.dic kss ds)/\KI K l kss ds/\kss.length<=c
abbrev cnt:Nat->Nat
 |0=>0
 |n+1=>(n+1) * cnt n+1
theorem qK:∀ {kss:List (List NK)} {ds:List D} {k:List NK} {v:D},(atD kss ds k).isSome=true->atD kss (eW k v kss ds) k=some v
 |[],_,_,_,h=>by simp[atD] at h
 |_::_,[],_,_,h=>by simp[atD] at h
 |a::kss,d::ds,k,v,h=>by
  simp only[eW,atD] at h ⊢;split
  ·rfl
  ·rename_i e;rw[if_neg e] at h;exact qK h
theorem oO:∀ {kss:List (List NK)} {ds:List D} {k k':List NK} {v:D},kss.length=ds.length->atD (kss++[k]) (ds++[v]) k'=match atD kss ds k' with |some d=>some d |none=>if k=k' then some v else none
 |[],[],k,k',v,_=>rfl
 |[],_::_,_,_,_,h=>by simp at h
 |_::_,[],_,_,_,h=>by simp at h
 |a::kss,d::ds,k,k',v,h=>by
  simp only[XX,atD];split
  ·rfl
  ·exact oO (by simpa using h)
theorem uz:∀ {kss:List (List NK)} {ds:List D} {k k':List NK} {v d:D},atD kss (eW k v kss ds) k'=some d->(k=k'/\d=v)\/(atD kss ds k'=some d)
 |[],_,_,_,_,_,h=>by simp[eW,atD] at h
 |_::_,[],_,_,_,_,h=>by simp[eW,atD] at h
 |a::kss,e::ds,k,k',v,d,h=>by
  simp only[eW,atD] at h ⊢;split at h
  ·rename_i ea;subst ea;cases h;split
   ·rename_i ek;exact .inl ⟨ek.symm,rfl⟩
   ·exact .inr (if_pos rfl)
  ·rename_i ea;rw[if_neg ea];exact uz h
theorem gl9{x0:Int}(sk:SkX x0 K){g:Int}(h0:0<=g)(h1:g < K.G.length):∃a b c d e f h,K.G[g.toNat]?=some [a,b,c,d,e,f,h]/\gi K.G g 0=a/\gi K.G g 4=e/\gi K.G g 5=f/\0<=f/\f<=99/\0<=a/\a < K.M.length:=by
 have hi:g.toNat < K.G.length:=by lia
 obtain⟨a,b,c,d,e,f,h,eg,hb⟩:=sk.gb K.G[g.toNat] (ZM hi);have eq:K.G[g.toNat]?=some [a,b,c,d,e,f,h]:=by rw[gEG hi,eg]
 refine⟨a,b,c,d,e,f,h,eq,?_,?_,?_,by lia,by lia,by lia,by lia⟩ <;> (unfold gi;rw[eq];rfl)
theorem Av{g m a b c d e f h:Int}(e4:gi K.G g 4=e)(e5:gi K.G g 5=f)(f0:0<=f)(f1:f<=99)(q:Q (.int (cst K g m)) S):Ok (evC ae (k+1) 21 [az [a,b,c,d,e,f,h],.int m] S) Q:=by
 refine aA (d:=cZ) (ρ:=[some (az [a,b,c,d,e,f,h]),some (.int m),none,none,none,none,none,none,none]) rfl rfl ?_;dsimp only[cZ,f8];unfold cst at q;rw[e4,e5] at q;rw[show az [a,b,c,d,e,f,h] = .tup [.int a,.int b,.int c,.int d,.int e,.int f,.int h] from rfl];k_is;refine⟨?_,q⟩;unfold fX;rw[decide_eq_true (show -(2 ^ 64) < f by lia),decide_eq_true (show f < 2 ^ 64 by lia)];rfl
theorem mY(l:Bool){g m x a b c d e f h:Int}(e4:gi K.G g 4=e)(e5:gi K.G g 5=f)(f0:0<=f)(f1:f<=99)(q:Q (.int (jnd K l g m x)) S):Ok (evC ae (k+2) 34 [jl l,az [a,b,c,d,e,f,h],.int m,.int x] S) Q:=by
 refine aA (d:=kY) (ρ:=[some (jl l),some (az [a,b,c,d,e,f,h]),some (.int m),some (.int x)]) rfl rfl ?_;dsimp only[kY,qq];unfold jnd at q;k_is;refine aa (show am .eq (jl l) (.str "last") S=some (.bl false,S) from rfl) ?_;k_is;refine aa (show am .eq (jl l) (.str "cost") S=some (.bl false,S) from rfl) ?_;k_is;refine⟨rfl,Av e4 e5 f0 f1 ?_⟩;k_is;exact q
theorem sN{left:List Int}{g:Int}(hl:left.length<=100)(q:∀S',Sm S S'->Q (.tup ((rst left g).map D.int)) S'):Ok (evC ae (k+1) 5 [.tup (left.map D.int),.int g] S) Q:=by
 refine aA (d:=iH) (ρ:=[some (.tup (left.map D.int)),some (.int g)]) rfl rfl ?_;dsimp only[iH,mO];k_is;refine bQ left D.int (λx=>if (!decide (x=g))=true then [D.int x] else []) (by lia) (λa _=>by split <;> simp) cK (λi x S' hx sm=>⟨_,rfl,?_⟩) λS1 s1=>?_
 ·k_is;cases c:!decide (x=g) with
  |true=>exact⟨rfl,Sm.refl _⟩
  |false=>exact⟨rfl,Sm.refl _⟩
 ·rw[bB];exact aa (show cL false (((rst left g)).map D.int) S1=some (.tup ((rst left g).map D.int),S1) from rfl) (q S1 s1)
structure Lf(K:Sky)(n:Nat)(ah:Option (Int × Int))(left:List Int):Prop where
 nd:left.Nodup
 bd:∀g ∈ left,0<=g/\g < K.G.length
 ln:left.length=n
 le:n<=K.G.length
 ah:∀q,ah=some q->0<=q.1/\q.1 < K.M.length
theorem oP:∀ {left:List Int} {g:Int},left.Nodup->g ∈ left->(rst left g).length+1=left.length
 |[],_,_,h=>by cases h
 |a::l,g,nd,h=>by
  rw[Yj] at nd;unfold rst;by_cases e:a=g
  ·subst e;rw[List.filter_cons_of_neg (by simp)]
   rw[Xz.mpr λx hx=>by
    have:¬ x=a:=λz=>nd.1 (z ▸ hx);simp[this]]
   rw[Zv]
  ·rw[List.filter_cons_of_pos (by simp[e]),Zv,Zv];have:=oP nd.2 ((Zn.mp h).resolve_left λz=>e z.symm);unfold rst at this
   lia
theorem Lf.rst{n:Nat}{ah:Option (Int × Int)}{left:List Int}{g m:Int}(h:Lf K (n+1) ah left)(hg:g ∈ left)(a0:0<=gi K.G g 0)(a1:gi K.G g 0 < K.M.length):Lf K n (some (gi K.G g 0,m)) (Sn.rst left g):=by
 have l:=oP h.nd hg;have:=h.ln;have:=h.le;exact⟨h.nd.filter _,λx hx=>h.bd x (ZX.mp hx).1,by lia,by lia,λq e=>by cases e;exact⟨a0,a1⟩⟩
def BB(K:Sky)(l:Bool)(p n k:Nat):Prop:=∀ (ah:Option (Int × Int)) (left:List Int) (S:Sto) (c:Nat) (Q:D->Sto->Prop),Lf K n ah left->Kn K l p c S->c+cnt n<=99999->(∀S',Kp p S S'->Kn K l p (c+cnt n) S'->Q (bH (bb K l n ah left)) S')->Ok (evC ae k 35 [skE K,jl l,ahE ah,.tup (left.map D.int),.ref p] S) Q
theorem Kn.kp{l:Bool}{c:Nat}(h:Kn K l p c S)(s:Sm S S'):Kn K l p c S':=let ⟨kss,ds,e,k⟩:=h.ex;⟨kss,ds,s _ _ e,k⟩
theorem Kn.up{l:Bool}{c c':Nat}(h:Kn K l p c S)(hc:c<=c'):Kn K l p c' S:=let ⟨kss,ds,e,k,z⟩:=h.ex;⟨kss,ds,e,k,ZI z hc⟩
theorem Ey{x0:Int}(sk:SkX x0 K){l:Bool}{n k:Nat}(ih:BB K l p n (k+5)){ah:Option (Int × Int)}{left:List Int}{g:Int}(lf:Lf K (n+1) ah left)(hg:g ∈ left){cc:Nat}(kn:Kn K l p cc S)(hcc:cc+cnt n<=99999)(q:∀S',Kp p S S'->Kn K l p (cc+cnt n) S'->Q (bH (bw K l n ah left g)) S'):Ok (evC ae (k+6) 36 [skE K,jl l,ahE ah,.tup (left.map D.int),.int g,.ref p] S) Q:=by
 refine aA (d:=fq) (ρ:=[some (skE K),some (jl l),some (ahE ah),some (.tup (left.map D.int)),some (.int g),some (.ref p),none,none,none]) rfl rfl ?_;dsimp only[fq,i9];have V:=sk.vd;have g7:=sk.g7;have hb:=lf.bd g hg;have ln:=lf.ln;have le:=lf.le;obtain⟨a,b,c,d,e,f,h,eg,e0,e4,e5,f0,f1,a0,a1⟩:=gl9 sk hb.1 hb.2;k_is;refine aa sk2 (aa bJ (aa bJ ?_));k_is;rw[show((K.G.length:Int) - left.length)=((K.G.length - (n+1):Nat):Int) by lia];refine⟨rfl,mW (k:=k+2) V lf.ah hb.1 hb.2 λS1 s1=>?_⟩;unfold bw at q;cases hs:step K ah g (K.G.length - (n+1)) with
 |none=>
  rw[hs] at q;rw[show df none = .non from rfl];k_is;refine aa (show am .is .non .non S1=some (.bl true,S1) from rfl) ?_;k_is;exact q S1 s1.kp ((kn.kp s1).up (Xe _ _))
 |some m=>
  rw[hs] at q;rw[show df (some m) = .int m from rfl];k_is;refine aa (show am .is (.int m) .non S1=some (.bl false,S1) from rfl) ?_;k_is;refine aa sk2 (aa (gg hb.1 eg) ?_);k_is;refine aa (show ixS (az [a,b,c,d,e,f,h]) (.int 0) S1=some (.int a,S1) from rfl) ?_;k_is;refine⟨rfl,sN (k:=k+4) (by lia) λS2 s2=>?_⟩
  have lr:Lf K n (some (a,m)) (Sn.rst left g):=by
   have:=lf.rst (m:=m) hg (by rw[e0];exact a0) (by rw[e0];exact a1)
   rwa [e0] at this
  have s12:=s1.trans s2;refine⟨rfl,ih (some (a,m)) (Sn.rst left g) S2 cc _ lr (kn.kp s12) hcc λS3 k3 kn3=>?_⟩;rw[e0] at q;cases hb':bb K l n (some (a,m)) (Sn.rst left g) with
  |none=>
   dsimp only at q;rw[hb'] at q;rw[show bH none = .non from rfl];k_is;refine aa (show am .is .non .non S3=some (.bl true,S3) from rfl) ?_;k_is;exact q S3 (s12.kp.trans k3) kn3
  |some z=>
   dsimp only at q;rw[hb'] at q;rw[show bH (some z) = .tup [.int z.1,.tup (z.2.map D.int)] from rfl];k_is;refine aa (show am .is (.tup [.int z.1,.tup (z.2.map D.int)]) .non S3=some (.bl false,S3) from rfl) ?_;k_is;refine aa (show ixS (.tup [.int z.1,.tup (z.2.map D.int)]) (.int 0) S3=some (.int z.1,S3) from rfl) ?_;refine⟨rfl,mY (k:=k+3) l e4 e5 f0 f1 ?_⟩;k_is;refine aa (show ixS (.tup [.int z.1,.tup (z.2.map D.int)]) (.int 1) S3=some (.tup (z.2.map D.int),S3) from rfl) ?_;k_is;have lz:=sM n _ _ z hb';exact⟨by rw[Za,Zm];lia,q S3 (s12.kp.trans k3) kn3⟩
theorem Aw{l:Bool}{k:Nat}:BB K l p 0 (k+1):=λah left S c Q lf kn hc q=>by
 refine aA (d:=bG) (ρ:=[some (skE K),some (jl l),some (ahE ah),some (.tup (left.map D.int)),some (.ref p),none,none]) rfl rfl ?_;dsimp only[bG,cX];have e:=ZV.mp lf.ln;subst e;k_is;exact q S (Kp.refl p S) kn
theorem Kz{l:Bool}{kss:List (List NK)}{ds:List D}{ah:Option (Int × Int)}{left:List Int}(hp:S[p]?=some (.dic kss ds)):am .notin (.tup [ahE ah,.tup (left.map D.int)]) (.ref p) S=some (.bl (!(atD kss ds (fU ah left)).isSome),S):=by
 have e:am .notin (.tup [ahE ah,.tup (left.map D.int)]) (.ref p) S=inK true (.tup [ahE ah,.tup (left.map D.int)]) (.ref p) S:=by
  simp only[am,inS,ay,ak,hp,Option.map_none]
 rw[e];simp only[inK,dG,hp];simp
theorem sO{kss:List (List NK)}{ds:List D}{ah:Option (Int × Int)}{left:List Int}{d:D}(hp:S[p]?=some (.dic kss ds))(h:atD kss ds (fU ah left)=some d):ixS (.ref p) (.tup [ahE ah,.tup (left.map D.int)]) S=some (d,S):=by
 show ixK _ _ _=_;simp only[ixK,dG,hp,h,ZA]
theorem uA:∀ (ws:List (Int × List Int)),kq (ws.map λz=>bH (some z))=some ws
 |[]=>rfl
 |z::ws=>by
  have e:yO (bH (some z))=some z:=by
   show(dq (z.2.map D.int)).map _=_;rw[fN];rfl
  rw[ZC];simp only[kq,e,uA ws]
theorem KA(ws:List (Int × List Int)):jj false (ws.map λz=>bH (some z)) S=some (bH (mX ws),S):=by
 unfold jj Ch;rw[uA];dsimp only;rw[Za,Zt,Zo];unfold mX;cases ws[argBest (kr ws) (ws.length - 1)]? <;> rfl
theorem KB{l:Bool}{ah:Option (Int × Int)}{left:List Int}{c:Nat}(kn:Kn K l p c S)(hc:c < 99999):∃S',iB (.ref p) (.tup [ahE ah,.tup (left.map D.int)]) (bH (bb K l left.length ah left)) S=some S'/\Kp p S S'/\Kn K l p (c+1) S'/\ixS (.ref p) (.tup [ahE ah,.tup (left.map D.int)]) S'=some (bH (bb K l left.length ah left),S'):=by
 obtain⟨kss,ds,hp,⟨hkl,ki⟩,hcl⟩:=kn.ex;have lt:p < S.length:=(Zb.mp hp).1;have e:iB (.ref p) (.tup [ahE ah,.tup (left.map D.int)]) (bH (bb K l left.length ah left)) S=x9 (.ref p) (.tup [ahE ah,.tup (left.map D.int)]) (bH (bb K l left.length ah left)) S:=rfl;rw[e];simp only[x9,dG,hp];rw[if_pos (by lia)];have kp:∀o,Kp p S (S.set p o):=λo i u hi h=>by rw[Zq (Ne.symm hi)];exact h
 by_cases cd:(atD kss ds (fU ah left)).isSome=true
 ·rw[if_pos cd];have at':(S.set p (Ob.dic kss (eW (fU ah left) (bH (bb K l left.length ah left)) kss ds)))[p]?=some (.dic kss (eW (fU ah left) (bH (bb K l left.length ah left)) kss ds)):=ZR lt;refine⟨_,rfl,kp _,⟨_,_,at',⟨nP hkl,λah' left' d h=>?_⟩,by lia⟩,sO at' ?_⟩
  ·rcases uz h with ⟨h1,rfl⟩ |h1
   ·obtain⟨rfl,rfl⟩:=qJ h1;rfl
   ·exact ki ah' left' d h1
  ·exact qK cd
 ·rw[if_neg cd]
  have cn:atD kss ds (fU ah left)=none:=by
   cases h:atD kss ds (fU ah left) with
   |none=>rfl
   |some d=>rw[h] at cd;exact absurd rfl cd
  have at':(S.set p (Ob.dic (kss++[fU ah left]) (ds++[bH (bb K l left.length ah left)])))[p]?=some (.dic (kss++[fU ah left]) (ds++[bH (bb K l left.length ah left)])):=ZR lt;refine⟨_,rfl,kp _,⟨_,_,at',⟨by rw[Zh,Zh,hkl];rfl,λah' left' d h=>?_⟩,by rw[Zh,Zm];lia⟩,sO at' ?_⟩
  ·rw[oO hkl] at h;split at h
   ·rename_i d' hd;cases h;exact ki ah' left' d hd
   ·split at h
    ·rename_i hk';cases h;obtain⟨rfl,rfl⟩:=qJ hk';rfl
    ·cases h
  ·rw[oO hkl,cn];dsimp only;rw[if_pos rfl]
abbrev wK{α:Type}(w:α->D):Option α->List D
 |none=>[]
 |some z=>[w z]
theorem lm{α β:Type}(f:α->Option β)(w:β->D):∀ (l:List α),(l.flatMap λa=>wK w (f a))=(l.filterMap f).map w
 |[]=>rfl
 |a::l=>by
  rw[Z0,lm f w l,YE];cases f a <;> rfl
theorem Ax{x0:Int}(sk:SkX x0 K){l:Bool}{n k:Nat}(ih:BB K l p n (k+5)):BB K l p (n+1) (k+7):=λah left S cc Q lf kn hcc q=>by
 refine aA (d:=bG) (ρ:=[some (skE K),some (jl l),some (ahE ah),some (.tup (left.map D.int)),some (.ref p),none,none]) rfl rfl ?_;dsimp only[bG,cX];have g7:=sk.g7;have ln:=lf.ln;have le:=lf.le;obtain⟨kss,ds,hp,ki,hcl⟩:=kn.ex;have hcn:cnt (n+1)=(n+1) * cnt n+1:=rfl
 have ne:(left.map D.int).isEmpty=false:=by
  cases left with
  |nil=>simp at ln
  |cons _ _=>rfl
 k_is;rw[ne];k_is;refine aa (Kz (l:=l) hp) ?_;cases ha:atD kss ds (fU ah left) with
 |some d=>
  k_is;refine aa (sO hp ha) ?_;have e:=ki.2 ah left d ha;rw[ln] at e;subst e;exact q S (Kp.refl p S) (kn.up (Xe _ _))
 |none=>
  k_is;refine iM left.length (λi=>D.int (left.getD i 0)) (λi acc S'=>Kp p S S'/\Kn K l p (cc+i * cnt n) S'/\acc=(left.take i).map λg=>bH (bw K l n ah left g)) (λi acc S' hi _=>?_) (by lia) (λi acc S' hi hq1=>?_) (λes S' hq2=>?_) ⟨Kp.refl p S,by rw[Wh];exact kn,rfl⟩
  ·show some (left.map D.int)[i]?=_;rw[Zo];split
   ·rename_i h;rw[gEG h,Zt,gEG h];rfl
   ·rename_i h;rw[Zs (by lia)];rfl
  ·obtain⟨kp,kn',rfl⟩:=hq1;have eg:left.getD i 0=left[i]:=by rw[Zt,gEG hi];rfl
   rw[eg];refine⟨_,rfl,?_⟩;k_is;have hi2:(i+1) * cnt n<=(n+1) * cnt n:=Xu _ (by lia);have hi3:(i+1) * cnt n=i * cnt n+cnt n:=YV _ _;refine⟨rfl,Ey (k:=k) sk ih lf (ZM hi) kn' (by lia) λS1 k1 kn1=>⟨kp.trans k1,by rw[hi3,<-YG];exact kn1,?_⟩⟩;rw[ZT hi,ZP];rfl
  ·obtain⟨kp,kn',rfl⟩:=hq2;rw[YB];refine⟨by rw[Za];lia,?_⟩;have aN:(S'++[Ob.lst (left.map λg=>bH (bw K l n ah left g))])[S'.length]?=some (.lst (left.map λg=>bH (bw K l n ah left g))):=aK;have s1:Sm S' (S'++[Ob.lst (left.map λg=>bH (bw K l n ah left g))]):=Sm.app _ _;generalize S'++[Ob.lst (left.map λg=>bH (bw K l n ah left g))]=S1 at *;generalize S'.length=N at *;k_is;refine⟨by rw[aM aN];rfl,?_⟩;refine bQ left (λg=>bH (bw K l n ah left g)) (λg=>wK (λz=>bH (some z)) (bw K l n ah left g)) (by lia) (λg _=>by cases bw K l n ah left g <;> simp[wK]) (ei aN) (λi g S2 hg sm=>⟨_,rfl,?_⟩) λS2 s2=>?_
   ·k_is;cases hb:bw K l n ah left g with
    |none=>
     refine aa (show am .isnot (bH none) .non S2=some (.bl false,S2) from rfl) ?_;k_is;exact⟨rfl,Sm.refl _⟩
    |some z=>
     refine aa (show am .isnot (bH (some z)) .non S2=some (.bl true,S2) from rfl) ?_;k_is;exact⟨rfl,Sm.refl _⟩
   ·rw[lm];refine aa (KA _) ?_;rw[<-oM]
    have k2:Kn K l p (cc+(n+1) * cnt n) S2:=by
     have:=(kn'.kp s1).kp s2
     rwa [ln] at this
    obtain⟨S4,e4,kp4,kn4,ix4⟩:=KB (ah:=ah) (left:=left) k2 (by lia);rw[ln] at e4 ix4;refine⟨S4,e4,?_⟩;k_is;refine aa ix4 (q S4 ((kp.trans (s1.trans s2).kp).trans kp4) ?_);rw[hcn,<-YG];exact kn4
theorem mZ{x0:Int}(sk:SkX x0 K){l:Bool}{j:Nat}:∀n,BB K l p n (2 * n+5+j)
 |0=>by rw[show 2 * 0+5+j=(4+j)+1 by lia];exact Aw
 |n+1=>by
  have ih:=mZ sk (l:=l) (j:=j) n;rw[show 2 * (n+1)+5+j=(2 * n+j)+7 by lia];exact Ax sk (by rw[show 2 * n+j+5=2 * n+5+j by lia];exact ih)
theorem Ay{n:Nat}:∀i S',Sm S S'->nxR 0 n i S'=some (((Zl n)[i]?).map λ(j:Nat)=>D.int (0+(j:Int))):=λi S' _=>by
 show some (if i < n then some (D.int (0+(i:Int))) else none)=_;split
 ·rename_i h;rw[Yp h];rfl
 ·rename_i h;rw[Zs (by rw[ZJ];lia)];rfl
abbrev bT(K:Sky):List Int:=((Zl K.G.length).filter λ(j:Nat)=>!decide ((j:Int) ∈ K.F)).map λ(j:Nat)=>(j:Int)
theorem Ez(V:Vd K)(q:∀S',Sm S S'->Q (.tup ((bT K).map D.int)) S'):Ok (evC ae (k+1) 19 [skE K] S) Q:=by
 refine aA (d:=fm) (ρ:=[some (skE K)]) rfl rfl ?_;dsimp only[fm,i7];have g7:=V.g7;k_is;refine aa sk2 (aa bJ ?_);k_is;refine⟨eu (by lia) (by lia),?_⟩;rw[ZE];refine bQ (Zl K.G.length) (λ(j:Nat)=>D.int (0+(j:Int))) (λ(j:Nat)=>if (!decide ((j:Int) ∈ K.F))=true then [D.int (j:Int)] else []) (by rw[ZJ];lia) (λa _=>by split <;> simp) Ay (λi j S' hj sm=>⟨_,rfl,?_⟩) λS1 s1=>?_
 ·k_is;refine aa sk3 ?_;rw[Xj];k_is;refine aa (show am .notin (.int (j:Int)) (.tup (K.F.map D.int)) S'=some (.bl (true != decide ((j:Int) ∈ K.F)),S') from oz true K.F j S') ?_;rw[show(true != decide ((j:Int) ∈ K.F)) = !decide ((j:Int) ∈ K.F) by cases decide ((j:Int) ∈ K.F) <;> rfl];k_is;cases c:!decide ((j:Int) ∈ K.F) with
  |true=>exact⟨rfl,Sm.refl _⟩
  |false=>exact⟨rfl,Sm.refl _⟩
 ·rw[bB];refine aa (show cL false _ S1=some (.tup _,S1) from rfl) ?_;have:=q S1 s1;unfold bT at this
  rwa [ZU] at this
theorem Az(V:Vd K)(bd:∀g ∈ K.F,0<=g/\g < K.G.length)(lF:K.F.length<=7)(q1:∀j,rn K K.F K.ah [] = .inl j->∀S',Sm S S'->Q .non S')(q2:∀R,rn K K.F K.ah [] = .inr R->∀n S',Sm S S'->S'[n]?=some (.lst (R.map ag))->S.length<=n->Q (.ref n) S'):Ok (evC ae (k+6) 30 [skE K] S) Q:=by
 refine aA (d:=bW) (ρ:=[some (skE K),none]) rfl rfl ?_;dsimp only[bW,dB];k_is;refine aa sk3 ?_;refine⟨rfl,qG (k:=k) V bd lF λn L S3 s3 hn hN he=>?_⟩;k_is;refine aa (fO hn) (aa sk3 (aa bJ ?_));k_is;rw[Za];cases hr:rn K K.F K.ah [] with
 |inl j=>
  have e1:=he.stuck j hr;have e2:=iz K.F _ _ j hr;rw[Z3,YX] at e2;rw[decide_eq_false (show ¬ (L.length:Int)=K.F.length by lia)];k_is;exact q1 j hr S3 s3
 |inr R=>
  have e1:=he.lands R hr;have e2:=jz K.F _ _ R hr;rw[Z3,YX] at e2;rw[decide_eq_true (show(L.length:Int)=K.F.length by rw[e1,e2])];k_is;exact q2 R hr n S3 s3 (by rw[<-e1];exact hn) hN
abbrev fD(K:Sky)(l:Bool):Option (Int × List Int):=match rn K K.F K.ah [] with
 |.inl _=>none
 |.inr R=>(bb K l (bT K).length (aE K R) (bT K)).map λz=>(R.foldr (λy x=>jnd K l y.1 y.2 x) z.1,K.F++z.2)
theorem FL:∀ (os:List Int) (a:Option (Int × Int)) (L R:List (Int × Int)),(∀g ∈ os,0<=g/\g < K.G.length)->InG K L->rn K os a L = .inr R->InG K R
 |[],_,L,R,_,hL,e=>by cases e;exact hL
 |g::os,a,L,R,ho,hL,e=>by
  rw[rn] at e;split at e
  ·cases e
  ·rename_i m _;split at e
   ·cases e
   ·exact FL os _ _ R (λx hx=>ho x (Zg _ hx)) (λz hz=>(ZQ.mp hz).elim (hL z) λz'=>by rw[Zx.mp z'];exact ho g Zi) e
theorem KC:∀n,n < 8->cnt n<=99999:=by decide
theorem EA{x0:Int}(sk:SkX x0 K){ah:Option (Int × Int)}(ha:∀q,ah=some q->0<=q.1/\q.1 < K.M.length):Lf K (bT K).length ah (bT K):=by
 refine⟨?_,λg hg=>?_,rfl,?_,ha⟩
 ·unfold bT;exact Y6.mpr ((Xf.filter _).imp λh z=>h (Int.ofNat.inj z))
 ·unfold bT at hg;obtain⟨j,hj,rfl⟩:=ZD.mp hg;have:=Z1.mp (ZX.mp hj).1
  lia
 ·unfold bT;rw[Za];have:=Xo (λ(j:Nat)=>!decide ((j:Int) ∈ K.F)) (Zl K.G.length);rw[ZJ] at this;exact this
theorem Kp.new{o:Ob}(h:Ev.Kp S.length (S++[o]) S'):Sm S S':=λi u e=>by
 have hi:=(Zb.mp e).1;exact h i u (by lia) (Sm.app _ _ _ _ e)
theorem FM{n:Nat}{ds:List D}{tg:Tg}{b:XS}{ρ:Rho}{Q:Fl->Rho->Sto->Prop}(hl:ds.length<=100000)(I:Nat->Rho->Sto->Prop)(hI:∀i ρ S',I i ρ S'->S'[n]?=some (.lst ds))
  (step:∀ (i:Nat) d ρ S',ds[i]?=some d->I i ρ S'->∃ρ1,ax tg d ρ=some ρ1/\OkS (b ρ1 S') λfl ρ2 S2=>match fl with |.nx=>I (i+1) ρ2 S2 |.ct=>I (i+1) ρ2 S2 |.bk=>Q .nx ρ2 S2 |.rt d=>Q (.rt d) ρ2 S2)
  (q:∀ρ S',I ds.length ρ S'->Q .nx ρ S') (h0:I 0 ρ S):OkS (eI (nxS n) tg b LF 0 ρ S) Q:=by
 refine jx ds.length I (by unfold LF;lia) (λi ρ S' hi iv=>?_) (λρ S' iv=>⟨?_,q ρ S' iv⟩) h0
 ·obtain⟨ρ1,e2,z⟩:=step i ds[i] ρ S' (gEG hi) iv;refine⟨ds[i],ρ1,?_,e2,z⟩;show(ak S' n).map (λds=>ds[i]?)=_;rw[aM (hI i ρ S' iv),ZA,gEG hi]
 ·show(ak S' n).map (λds'=>ds'[ds.length]?)=_;rw[aM (hI _ ρ S' iv),ZA,Zs (Zf _)]
theorem AA{x0:Int}(sk:SkX x0 K){l:Bool}(q:∀S',Sm S S'->Q (bH (fD K l)) S'):Ok (evC ae (k+20) 33 [skE K,jl l] S) Q:=by
 refine aA (d:=dW) (ρ:=[some (skE K),some (jl l),none,none,none,none,none,none]) rfl rfl ?_;dsimp only[dW,hV];have V:=sk.vd;have g7:=sk.g7;have lF:=Dw.ca K.G.length K.F sk.nd sk.bd;k_is;unfold fD at q;refine⟨rfl,Az (k:=k+13) V sk.bd (by lia) (λj hr S1 s1=>?_) (λR hr n S1 s1 hn hN=>?_)⟩
 ·rw[hr] at q;k_is;refine aa (show am .is .non .non S1=some (.bl true,S1) from rfl) ?_;k_is;exact q S1 s1
 ·rw[hr] at q;k_is;refine aa (show am .is (.ref n) .non S1=some (.bl false,S1) from rfl) ?_;k_is;have inR:InG K R:=FL K.F _ [] R sk.bd (λz hz=>by cases hz) hr;refine⟨rfl,qD (k:=k+18) V hn inR ?_⟩;refine⟨rfl,Ez (k:=k+18) V λS2 s2=>?_⟩;k_is;have fl:=EA sk (lh V inR);have fle:=fl.le;have hc:=KC (bT K).length (by lia);have kn:Kn K l S2.length 0 (S2++[Ob.dic [] []]):=⟨[],[],aK,⟨rfl,λ_ _ _ h=>by cases h⟩,Zf _⟩;have bo:=mZ (p:=S2.length) sk (l:=l) (j:=k+14 - 2 * (bT K).length) (bT K).length;rw[show 2 * (bT K).length+5+(k+14 - 2 * (bT K).length)=k+19 by lia] at bo;refine⟨rfl,bo _ _ _ 0 _ fl kn (by lia) λS3 k3 kn3=>?_⟩;have s3:=(s1.trans s2).trans (Kp.new k3);have hn3:=(Kp.new k3) _ _ (s2 _ _ hn);dsimp only at q;cases hb:bb K l (bT K).length (aE K R) (bT K) with
  |none=>
   rw[hb] at q;rw[show bH none = .non from rfl];k_is;refine aa (show am .is .non .non S3=some (.bl true,S3) from rfl) ?_;k_is;exact q S3 s3
  |some z=>
   rw[hb] at q;rw[show bH (some z) = .tup [.int z.1,.tup (z.2.map D.int)] from rfl];k_is;refine aa (show am .is (.tup [.int z.1,.tup (z.2.map D.int)]) .non S3=some (.bl false,S3) from rfl) ?_;k_is;refine aa (show rG (.ref n) S3=some (.ref S3.length,S3++[Ob.lst (R.map ag).reverse]) by simp only[rG,aM hn3]) ?_;have a4:(S3++[Ob.lst (R.map ag).reverse])[S3.length]?=some (.lst (R.map ag).reverse):=aK;have s4:=s3.trans (Sm.app S3 [Ob.lst (R.map ag).reverse]);generalize S3++[Ob.lst (R.map ag).reverse]=S4 at *;generalize S3.length=N at *;have lR:=jz K.F _ _ R hr;rw[Z3,YX] at lR;k_is;refine⟨by rw[aM a4];rfl,?_⟩;refine FM (ds:=(R.map ag).reverse) (by rw[Yd,Za];lia) (λi ρ S'=>S'=S4/\∃u v,ρ=[some (skE K),some (jl l),some (.ref n),some (.tup [.int z.1,.tup (z.2.map D.int)]),some (.int ((R.reverse.take i).foldl (λx y=>jnd K l y.1 y.2 x) z.1)),some (.tup (z.2.map D.int)),u,v]) (λi ρ S' iv=>by rw[iv.1];exact a4) (λi d ρ S' hd iv=>?_) (λρ S' iv=>?_) ⟨rfl,_,_,rfl⟩
   ·obtain⟨rfl,u,v,rfl⟩:=iv;rw[<-List.map_reverse] at hd;obtain⟨y,hy,rfl⟩:=iO hd;have hyR:=inR y (List.mem_reverse.mp (Ze hy));obtain⟨a,b,c,d,e,f,h,eg,e0,e4,e5,f0,f1,a0,a1⟩:=gl9 sk hyR.1 hyR.2;refine⟨_,show ax (.tup [.name 6,.name 7]) (.tup [.int y.1,.int y.2]) _=_ from fw (by simp) (by simp),?_⟩;k_is;refine aa sk2 (aa (gg hyR.1 eg) ?_);refine⟨rfl,mY (k:=k+17) l e4 e5 f0 f1 ?_⟩;k_is
    have e:(R.reverse.take (i+1)).foldl (λx y=>jnd K l y.1 y.2 x) z.1=jnd K l y.1 y.2 ((R.reverse.take i).foldl (λx y=>jnd K l y.1 y.2 x) z.1):=by
     rw[Wc,hy,List.foldl_append];rfl
    rw[e];exact⟨rfl,_,_,rfl⟩
   ·obtain⟨rfl,u,v,rfl⟩:=iv;rw[Yd,Za,<-Yd (as:=R),YB,List.foldl_reverse];k_is;refine aa sk3 ?_;k_is;have lz:=sM _ _ _ z hb;refine⟨by rw[Za,Za];lia,?_⟩;have:=q _ s4;dsimp only[ZA,bH] at this
    rwa [ZP] at this
end Lw
namespace Sn
open Ev PySem Lw
def Lst(xs:List Int):Option Int->Prop
 |none=>xs=[]
 |some m=>m ∈ xs/\∀x ∈ xs,m<=x
theorem Lst.one{xs:List Int}:∀ {a b:Option Int},Lst xs a->Lst xs b->a=b
 |none,none,_,_=>rfl
 |none,some b,h,k=>by have h:xs=[]:=h;subst h;exact absurd k.1 (by simp)
 |some a,none,h,k=>by have k:xs=[]:=k;subst k;exact absurd h.1 (by simp)
 |some a,some b,h,k=>by rw[X6 (h.2 b k.1) (k.2 a h.1)]
theorem Lst.map{xs:List Int}{f:Int->Int}(hf:∀x y,x<=y->f x<=f y):∀ {o:Option Int},Lst xs o->Lst (xs.map f) (o.map f)
 |none,h=>by have h:xs=[]:=h;subst h;rfl
 |some m,h=>⟨ZD.mpr ⟨m,h.1,rfl⟩,λx hx=>by obtain⟨y,hy,rfl⟩:=ZD.mp hx;exact hf _ _ (h.2 y hy)⟩
theorem m6{α:Type}{v:α->Int}{bt:Nat->Nat->Bool}{ws:List α}(h:∀i j x y,ws[i]?=some x->ws[j]?=some y->if bt i j=true then v x<=v y else v y<=v x):∀m,m < ws.length->∃x,ws[argBest bt m]?=some x/\∀j y,j<=m->ws[j]?=some y->v x<=v y
 | 0,hm=>⟨ws[0],gEG hm,λj y hj hy=>by
  rw[Nat.le_zero.mp hj,gEG hm] at hy;cases hy;exact ZO _⟩
 |m+1,hm=>by
  obtain⟨x,hx,hl⟩:=m6 h m (by lia);have hy:=gEG hm;have hc:=h (m+1) (argBest bt m) _ x hy hx;show ∃x,ws[if bt (m+1) (argBest bt m)=true then m+1 else argBest bt m]?=some x/\_;split at hc
  ·rename_i c;rw[if_pos c];refine⟨_,hy,λj y hj hw=>?_⟩;by_cases e:j=m+1
   ·rw[e,hy] at hw;cases hw;exact ZO _
   ·exact XJ hc (hl j y (by lia) hw)
  ·rename_i c;rw[if_neg c];refine⟨x,hx,λj y hj hw=>?_⟩;by_cases e:j=m+1
   ·rw[e,hy] at hw;cases hw;exact hc
   ·exact hl j y (by lia) hw
theorem uB{α:Type}{v:α->Int}{bt:Nat->Nat->Bool}{ws:List α}(h:∀i j x y,ws[i]?=some x->ws[j]?=some y->if bt i j=true then v x<=v y else v y<=v x):Lst (ws.map v) (ws[argBest bt (ws.length - 1)]?.map v):=by
 by_cases e:ws.length=0
 ·rw[ZV.mp e];rfl
 ·obtain⟨x,hx,hl⟩:=m6 h (ws.length - 1) (by lia);rw[hx];refine⟨ZD.mpr ⟨x,Ze hx,rfl⟩,λy hy=>?_⟩;obtain⟨z,hz,rfl⟩:=ZD.mp hy;obtain⟨j,hj⟩:=YA hz;have:=(Zb.mp hj).1;exact hl j z (by lia) hj
theorem wL(ws:List (Int × List Int)):Lst (ws.map (·.1)) ((mX ws).map (·.1)):=by
 refine uB λi j x y hx hy=>?_
 have e:kr ws i j=fZ x y:=by
  unfold kr;rw[Zt,Zt,hx,hy];rfl
 rw[e];unfold fZ;by_cases c:x.1=y.1
 ·rw[c];split <;> split <;> exact ZO _
 ·rw[if_neg c];split
  ·rename_i d;exact Wi (of_decide_eq_true d)
  ·rename_i d;rw[decide_eq_true_eq] at d;lia
theorem AB(ns:List Int):Lst ns (ns[argBest (iT ns) (ns.length - 1)]?):=by
 have:=uB (v:=λx=>x) (bt:=iT ns) (ws:=ns) λi j x y hx hy=>by
  have e:iT ns i j=decide (x < y):=by
   unfold iT;rw[Zt,Zt,hx,hy];rfl
  rw[e];split
  ·rename_i d;exact Wi (of_decide_eq_true d)
  ·rename_i d;rw[decide_eq_true_eq] at d;lia
 rwa [List.map_id',Option.map_id'] at this
variable {K:Sky} {l:Bool}
theorem qL{g m x y:Int}(h:x<=y):jnd K l g m x<=jnd K l g m y:=by
 unfold jnd;split <;> split <;> lia
abbrev tv(K:Sky)(l:Bool):Nat->Option (Int × Int)->List Int->List Int
 |0,_,_=>[0]
 |n+1,ah,left=>left.flatMap λg=>match step K ah g (K.G.length - (n+1)) with
  |none=>[]
  |some m=>(tv K l n (some (gi K.G g 0,m)) (rst left g)).map (jnd K l g m)
theorem AC:∀ (n:Nat) (ah:Option (Int × Int)) (left:List Int),Lst (tv K l n ah left) ((bb K l n ah left).map (·.1))
 |0,_,_=>⟨Zx.mpr rfl,λx hx=>by rw[Zx.mp hx];exact ZO _⟩
 |n+1,ah,left=>by
  have ih:=AC n;have hb:=wL (left.filterMap (bw K l n ah left));rw[<-oM] at hb
  have at_:∀x ∈ tv K l (n+1) ah left,∃z ∈ left.filterMap (bw K l n ah left),z.1<=x:=λx hx=>by
   unfold tv at hx;obtain⟨g,hg,hx⟩:=ZS.mp hx;split at hx
   ·cases hx
   ·rename_i m hs;obtain⟨y,hy,rfl⟩:=ZD.mp hx;have i1:=ih (some (gi K.G g 0,m)) (rst left g);cases hbb:bb K l n (some (gi K.G g 0,m)) (rst left g) with
    |none=>
     rw[hbb] at i1;have i1:tv K l n (some (gi K.G g 0,m)) (rst left g)=[]:=i1;rw[i1] at hy;cases hy
    |some z=>
     rw[hbb] at i1;refine⟨(jnd K l g m z.1,g::z.2),Yh.mpr ⟨g,hg,?_⟩,qL (i1.2 y hy)⟩;unfold bw;rw[hs];dsimp only;rw[hbb];rfl
  cases hz:bb K l (n+1) ah left with
  |none=>
   rw[hz] at hb;have hb:(left.filterMap (bw K l n ah left)).map (·.1)=[]:=hb;rw[Xy] at hb;show tv K l (n+1) ah left=[];refine List.eq_nil_iff_forall_not_mem.mpr λx hx=>?_;obtain⟨z,hz,_⟩:=at_ x hx;rw[hb] at hz;cases hz
  |some z=>
   rw[hz] at hb;refine⟨?_,λx hx=>?_⟩
   ·obtain⟨z',hz',e⟩:=ZD.mp hb.1;have e:z'.1=z.1:=e;show z.1 ∈ _;rw[<-e];obtain⟨g,hg,eb⟩:=Yh.mp hz';unfold bw at eb;split at eb
    ·cases eb
    ·rename_i m hs;obtain⟨y,e1,rfl⟩:=ZL.mp eb;have i1:=ih (some (gi K.G g 0,m)) (rst left g);rw[e1] at i1;unfold tv;refine ZS.mpr ⟨g,hg,?_⟩;rw[hs];exact ZD.mpr ⟨y.1,i1.1,rfl⟩
   ·obtain⟨z',hz',e⟩:=at_ x hx;exact XJ (hb.2 z'.1 (ZD.mpr ⟨z',hz',rfl⟩)) e
abbrev lft(K:Sky)(os:List Int):List Int:=((Zl K.G.length).map λ(j:Nat)=>(j:Int)).filter λg=>!decide (g ∈ os)
theorem NW{os:List Int}{g:Int}:g ∈ lft K os ↔ (0<=g/\g < K.G.length)/\g ∉ os:=by
 unfold lft;rw[ZX,ZD];constructor
 ·rintro⟨⟨j,hj,rfl⟩,h2⟩;have:=Z1.mp hj;exact⟨by lia,by simpa using h2⟩
 ·rintro⟨h1,h2⟩;exact⟨⟨g.toNat,Z1.mpr (by lia),by lia⟩,by simpa using h2⟩
theorem lp(os:List Int)(g:Int):lft K (os++[g])=rst (lft K os) g:=by
 unfold lft rst;rw[List.filter_filter];refine List.filter_congr λx _=>?_;simp[Bool.and_comm]
theorem AE(K:Sky):bT K=lft K K.F:=by
 unfold bT lft;rw[X7];rfl
abbrev dg(K:Sky)(os:List Int):List (List Int):=(lft K os).map λg=>os++[g]
abbrev lvl(K:Sky):Nat->List (List Int)->List (List Int)
 |0,rows=>rows
 |n+1,rows=>lvl K n (rows.flatMap (dg K))
theorem lq:∀ (n:Nat) (rows:List (List Int)),lvl K (n+1) rows=(lvl K n rows).flatMap (dg K)
 |0,_=>rfl
 |n+1,rows=>by rw[lvl,lq n,<-lvl]
abbrev pr(K:Sky):Nat->List Int->List (List Int)
 |0,_=>[[]]
 |n+1,os=>(lft K os).flatMap λg=>(pr K n (os++[g])).map λr=>g::r
theorem AF:∀ (n:Nat) (rows:List (List Int)),lvl K n rows=rows.flatMap λos=>(pr K n os).map λr=>os++r
 |0,rows=>by
  show rows=rows.flatMap λos=>[os++[]];simp
 |n+1,rows=>by
  rw[lvl,AF n,List.flatMap_assoc]
  congr 1
  funext os
  unfold dg;rw[List.flatMap_map,pr,XY]
  congr 1
  funext g
  rw[ZU]
  congr 1
  funext r
  simp
abbrev W(K:Sky)(l:Bool)(L:List (Int × Int))(x:Int):Int:=L.foldr (λy x=>jnd K l y.1 y.2 x) x
theorem AG{L:List (Int × Int)}{y:Int × Int}{x:Int}:W K l (L++[y]) x=W K l L (jnd K l y.1 y.2 x):=by unfold W;rw[List.foldr_append];rfl
theorem AH{x y:Int}(h:x<=y):∀ (L:List (Int × Int)),W K l L x<=W K l L y
 |[]=>h
 |z::L=>qL (l:=l) (AH h L)
abbrev num(K:Sky)(l:Bool):Nat ⊕ List (Int × Int)->Option Int
 |.inl _=>none
 |.inr R=>some (W K l R 0)
theorem sP:∀ (os r:List Int) (a:Option (Int × Int)) (L:List (Int × Int)),a=aE K L->rn K (os++r) a L=match rn K os a L with |.inl j=>.inl j |.inr R=>rn K r (aE K R) R
 |[],r,a,L,e=>by rw[e];rfl
 |g::os,r,a,L,e=>by
  rw[XX,rn,rn];cases step K a g L.length with
  |none=>rfl
  |some m=>
   dsimp only;split
   ·rfl
   ·exact sP os r _ _ (b5 (z:=(g,m))).symm
def NoR(K:Sky)(os:List Int):Prop:=∀g ∈ lft K os,gi K.G g 6=0
theorem FN:∀ (n:Nat) (os:List Int) (L:List (Int × Int)),NoR K os->L.length+n=K.G.length->(pr K n os).filterMap (λr=>num K l (rn K r (aE K L) L))=(tv K l n (aE K L) (lft K os)).map (W K l L)
 |0,_,_,_,_=>rfl
 |n+1,os,L,nr,hn=>by
  rw[pr,tv,XY,List.filterMap_flatMap];rw[XZ,XZ]
  congr 1
  refine YF λg hg=>?_;rw[Yu,show K.G.length - (n+1)=L.length by lia];cases hs:step K (aE K L) g L.length with
  |none=>
   show _=[];rw[Y1];intro r _;show num K l (rn K (g::r) (aE K L) L)=none;rw[rn,hs];rfl
  |some m=>
   dsimp only;have hh:cm K L g m=false:=by unfold cm;rw[nr g hg];rfl
   have nr':NoR K (os++[g]):=λx hx=>nr x (by
    rw[lp] at hx;exact(ZX.mp hx).1)
   have ih:=FN n (os++[g]) (L++[(g,m)]) nr' (by rw[Zh,Zm];lia);rw[b5,lp] at ih;rw[ZU]
   have e2:(λx=>W K l (L++[(g,m)]) x)=W K l L ∘ jnd K l g m:=by
    funext x
    exact AG
   rw[<-e2,<-ih];refine congrArg (λf=>List.filterMap f _) ?_
   funext r
   show num K l (rn K (g::r) (aE K L) L)=_;rw[rn,hs];dsimp only;rw[hh];rfl
theorem AI(nr:NoR K K.F)(lf:K.F.length+(lft K K.F).length=K.G.length):Lst ((lvl K (lft K K.F).length [K.F]).filterMap λos=>num K l (rn K os K.ah [])) ((fD K l).map (·.1)):=by
 rw[AF,Z0,Xg,ZW,Yu];unfold fD;have la0:K.ah=aE K []:=rfl;cases hr:rn K K.F K.ah [] with
 |inl j=>
  show _=[];rw[Y1];intro r _;show num K l (rn K (K.F++r) K.ah [])=none;rw[sP _ _ _ _ la0,hr];rfl
 |inr R=>
  have lR:=jz K.F _ _ R hr;rw[Z3,YX] at lR
  have e:(λr=>num K l (rn K r (aE K R) R))=(λos=>num K l (rn K os K.ah [])) ∘ λr=>K.F++r:=by
   funext r
   show _=num K l (rn K (K.F++r) K.ah []);rw[sP _ _ _ _ la0,hr]
  rw[<-e,FN (l:=l) _ _ R nr (by lia)];dsimp only;rw[AE];have:=Lst.map (f:=W K l R) (λx y h=>AH h R) (AC (K:=K) (l:=l) (lft K K.F).length (aE K R) (lft K K.F));rw[Option.map_map] at this ⊢;exact this
end Sn
namespace Sn
open Ev PySem Lw
abbrev nt(r:List Int):List Int:=[r.getD 0 0,r.getD 1 0,r.getD 2 0,10692,r.getD 3 0,1,r.getD 6 0]
abbrev ntl(K:Sky):Sky:=⟨K.r,K.s,K.M,K.H,K.ah,K.G.map nt,K.F⟩
variable {K:Sky}
theorem ie:(ntl K).G.length=K.G.length:=Za ..
theorem AJ{g:Int}{i j:Nat}(h:∀r,(nt r).getD i 0=r.getD j 0):gi (ntl K).G g i=gi K.G g j:=by
 show((((K.G.map nt)[g.toNat]?)).getD []).getD i 0=_;rw[Zo];unfold gi;cases K.G[g.toNat]? with
 |none=>rfl
 |some r=>exact h r
theorem FO{g:Int}:gi (ntl K).G g 0=gi K.G g 0:=AJ λ_=>rfl
theorem NL{g:Int}:gi (ntl K).G g 1=gi K.G g 1:=AJ λ_=>rfl
theorem NM{g:Int}:gi (ntl K).G g 2=gi K.G g 2:=AJ λ_=>rfl
theorem NN{g:Int}:gi (ntl K).G g 4=gi K.G g 3:=AJ λ_=>rfl
theorem FP{g:Int}:gi (ntl K).G g 6=gi K.G g 6:=AJ λ_=>rfl
theorem sQ{g:Int}(g0:0<=g)(g1:g < K.G.length):gi (ntl K).G g 3=10692/\gi (ntl K).G g 5=1:=by
 have hi:g.toNat < K.G.length:=by lia
 constructor <;> (show((((K.G.map nt)[g.toNat]?)).getD []).getD _ 0=_;rw[Zo,gEG hi];rfl)
theorem KD(sk:bL K):SkX 10692 (ntl K):=by
 refine⟨sk.me,by rw[ie];exact sk.g7,λg hg=>?_,sk.nd,λx hx=>?_,λj g hg=>?_,sk.ah⟩
 ·obtain⟨r,hr,rfl⟩:=ZD.mp hg;obtain⟨kd,jo,fi,la,du,we,ri,rfl,hb⟩:=sk.gb r hr;exact⟨kd,jo,fi,10692,la,1,ri,rfl,by show 0<=kd/\kd < (K.M.length:Int)/\0<=jo/\jo+K.s<=fi/\fi<=10692/\(10692:Int)<=10692/\0<=la/\la<=10692/\(0:Int)<=1/\(1:Int)<=99/\0<=ri/\ri<=K.r;have:=sk.me.s0;omega⟩
 ·rw[ie];exact sk.bd x hx
 ·have hg:(K.G.map nt)[j]?=some g:=hg;rw[Zo] at hg;obtain⟨r,hr,rfl⟩:=ZL.mp hg;exact sk.rg j r hr
theorem OO:js (ntl K)=js K:=by
 unfold js;show eZ ((K.G.map nt).map _)=_;rw[ZU];rfl
theorem KF{pl:Nat}{m:Int}:eM (ntl K) pl m=eM K pl m:=by
 unfold eM;rw[OO];rfl
theorem NP:jn (ntl K)=jn K:=funext λg=>NL
theorem AK{L:List (Int × Int)}{g m:Int}:cm (ntl K) L g m=cm K L g m:=by
 have w:aC (ntl K)=aC K:=by
  funext t q
  unfold aC;rw[NP];rfl
 unfold cm oK eF wts;rw[FP,NP,w];rfl
theorem EB{a:Option (Int × Int)}{g:Int}:au (ntl K) a g=au K a g:=by
 unfold au;rw[FO,NM];rfl
theorem AL:∀ (H:List (Int × Int)) (m:Int),(∀q ∈ H,q.2<=9999)->opm H m<=m\/opm H m<=9999
 |[],m,_=>.inl (ZO _)
 |q::H,m,h=>by
  have h0:=h q Zi;rw[opm];have ih:=AL H (if q.1<=m/\m < q.2 then q.2 else m) λx hx=>h x (Zg _ hx);by_cases c:q.1<=m/\m < q.2
  ·rw[if_pos c] at ih ⊢;right;rcases ih with ih |ih <;> lia
  ·rw[if_neg c] at ih ⊢;exact ih
theorem NQ(sk:bL K)(a b:Int):gp K a b<=99:=by
 unfold gp Dw.mg2;cases h1:K.M[a.toNat]? with
 |none=>simp
 |some r=>
  cases h2:r[b.toNat]? with
  |none=>simp[h2]
  |some x=>
   have:=sk.me.mat.ent r (Ze h1) x (Ze h2);simp[h2]
   lia
def Bd7(a:Option (Int × Int))(i:Nat):Prop:=∀q,a=some q->q.2<=9999+99 * i
theorem FQ(sk:bL K){a:Option (Int × Int)}{g:Int}{i:Nat}(ha:Bd7 a i)(g0:0<=g)(g1:g < K.G.length):opm K.H (au K a g)<=9999+99 * ((i+1:Nat):Int):=by
 have hi:g.toNat < K.G.length:=by lia
 obtain⟨kd,jo,fi,la,du,we,ri,eg,hb⟩:=sk.gb K.G[g.toNat] (ZM hi);have e2:gi K.G g 2=fi:=by unfold gi;rw[gEG hi,eg];rfl
 have f1:au K a g<=9999+99 * ((i+1:Nat):Int):=by
  unfold au;rw[e2];split
  ·lia
  ·rename_i q;have:=ha q rfl;have:=NQ sk q.1 (gi K.G g 0);split <;> lia
 rcases AL K.H (au K a g) sk.me.hb with h |h <;> lia
theorem KG(sk:bL K){a:Option (Int × Int)}{g:Int}{pl:Nat}(ha:Bd7 a pl)(hp:pl < 7)(g0:0<=g)(g1:g < K.G.length):step (ntl K) a g pl=if eM K pl (opm K.H (au K a g))=true then none else some (opm K.H (au K a g)):=by
 have le:=FQ sk ha g0 g1;unfold step;rw[EB,(sQ g0 g1).1,KF];show(if (decide (10692 < opm K.H (au K a g)) || eM K pl (opm K.H (au K a g)))=true then none else some (opm K.H (au K a g)))=_;rw[decide_eq_false (by lia),YS]
theorem FR{g m:Int}(g0:0<=g)(g1:g < K.G.length):cst (ntl K) g m=if m - gi K.G g 3 > 0 then m - gi K.G g 3 else 0:=by
 unfold cst;rw[NN,(sQ g0 g1).2,Int.one_mul]
theorem FS{l:Bool}{x:Int}(hx:0<=x):∀ (L:List (Int × Int)),W K l L x=(if x > W K l L 0 then x else W K l L 0)/\0<=W K l L 0
 |[]=>⟨by show x=if x > 0 then x else 0;split <;> lia,ZO _⟩
 |z::L=>by
  obtain⟨h1,h2⟩:=FS (l:=l) hx L;have e:∀y,W K l (z::L) y=if W K l L y > cst K z.1 z.2 then W K l L y else cst K z.1 z.2:=λ_=>rfl
  rw[e,e,h1];refine⟨?_,by split <;> lia⟩;generalize W K l L 0=w at *;generalize cst K z.1 z.2=c at *
  repeat' split
  all_goals lia
theorem KH{l:Bool}{L:List (Int × Int)}{g m:Int}(g0:0<=g)(g1:g < K.G.length):W (ntl K) l (L++[(g,m)]) 0=if m - gi K.G g 3 > W (ntl K) l L 0 then m - gi K.G g 3 else W (ntl K) l L 0:=by
 have c:=FR (m:=m) g0 g1
 have e:jnd (ntl K) l g m 0=cst (ntl K) g m:=by
  unfold jnd;rw[c]
  repeat' split
  all_goals lia
 rw[AG];show W (ntl K) l L (jnd (ntl K) l g m 0)=_;have c0:0<=cst (ntl K) g m:=by rw[c];split <;> lia
 obtain⟨h1,h2⟩:=FS (K:=ntl K) (l:=l) c0 L;rw[e,h1,c]
 repeat' split
 all_goals lia
end Sn
namespace Lw
open PySem Ev Sn L2
variable {p:Nat} {S S':Sto} {k:Nat} {Q:D->Sto->Prop} {K:Sky}
theorem AM(sk:bL K)(q:∀S',Sm S S'->Q (skE (ntl K)) S'):Ok (evC ae (k+1) 38 [skE K] S) Q:=by
 refine aA (d:=bZ) (ρ:=[some (skE K),none,none,none,none,none,none]) rfl rfl ?_;dsimp only[bZ,dD];have g7:=sk.g7;rw[show skE K = .tup [meE K,ahE K.ah,.tup (K.G.map az),.tup (K.F.map D.int)] from rfl];k_is;refine⟨by decide,?_⟩;refine bQ K.G az (λg=>[az (nt g)]) (by lia) (λ_ _=>Zf _) cK (λi g S' hg sm=>?_) λS1 s1=>?_
 ·obtain⟨kd,jo,fi,la,du,we,ri,rfl,hb⟩:=sk.gb g (Ze hg);refine⟨_,rfl,?_⟩;k_is;exact⟨rfl,Sm.refl _⟩
 ·rw[ce];have s2:Sm S (S1++[Ob.lst (K.G.map λg=>az (nt g))]):=s1.trans (Sm.app _ _);have a2:(S1++[Ob.lst (K.G.map λg=>az (nt g))])[S1.length]?=some (.lst (K.G.map λg=>az (nt g))):=aK;generalize S1++[Ob.lst (K.G.map λg=>az (nt g))]=S2 at *;generalize S1.length=N at *;k_is;refine aa (show ai cL (.ref N) S2=some (.tup (K.G.map λg=>az (nt g)),S2) by simp only[ai,ay,aM a2,ZA,cL]) ?_;k_is;have:=q S2 s2;unfold skE ntl at this;dsimp only at this;rw[ZU] at this;exact this
abbrev wM(o:Option (Int × List Int)):Option Int:=o.map (·.1)
theorem wN(sk:bL K)(q:∀S',Sm S S'->Q (df (wM (fD (ntl K) true))) S'):Ok (evC ae (k+21) 37 [skE K] S) Q:=by
 refine aA (d:=kZ) (ρ:=[some (skE K),none]) rfl rfl ?_;dsimp only[kZ,qr];k_is;refine⟨rfl,Au (k:=k+12) sk λS1 s1=>?_⟩;k_is;refine⟨rfl,AM (k:=k+19) sk λS2 s2=>?_⟩;refine⟨rfl,AA (k:=k) (l:=true) (KD sk) λS3 s3=>?_⟩;k_is;have:=q S3 ((s1.trans s2).trans s3);cases hb:fD (ntl K) true with
 |none=>
  rw[hb] at this;refine aa (show am .is (bH none) .non S3=some (.bl true,S3) from rfl) ?_;k_is;exact this
 |some z=>
  rw[hb] at this;rw[show bH (some z) = .tup [.int z.1,.tup (z.2.map D.int)] from rfl];refine aa (show am .is (.tup [.int z.1,.tup (z.2.map D.int)]) .non S3=some (.bl false,S3) from rfl) ?_;k_is;exact aa (show ixS (.tup [.int z.1,.tup (z.2.map D.int)]) (.int 0) S3=some (.int z.1,S3) from rfl) this
theorem qM{L:List (Int × Int)}{N J i:Nat}{g m a0 b c d e f h w:Int}{od ad u16:D}(hn:S[N]?=some (.lst (L.map ag)))(hl:L.length<=100){Qf:Fl->Rho->Sto->Prop}
  (q:Qf .nx [some (skE K),some od,some (.tup [.int a0,.int m]),some (.ref N),some (.int (if m - d > w then m - d else w)),some (.ref J),some (.int i),some (.int g),some (.int a0),some (.int b),some (.int c),some (.int d),some (.int e),some (.int f),some (.int h),some (.int m),some u16] (S.set N (.lst (L.map ag++[.tup [.int g,.int m]])))) :
  rW (wSs (evC ae (k+2)) (jk ae) 51 [CS.asg (Tg.name 4) ((CE.var 4).mx (CE.bin BOp.sub (CE.var 15) (CE.var 11))),CS.ex ((CE.var 3).app (CE.tup [CE.var 7,CE.var 15])),CS.asg (Tg.name 2) (CE.tup [CE.var 8,CE.var 15])]) [some (skE K),some od,some ad,some (.ref N),some (.int w),some (.ref J),some (.int i),some (.int g),some (.int a0),some (.int b),some (.int c),some (.int d),some (.int e),some (.int f),some (.int h),some (.int m),some u16] S Qf:=by
 k_is;refine⟨cJ hn,?_⟩;rw[k7 hn (by rw[Za];lia)];k_is;exact q
theorem wP(V:Vd K){L:List (Int × Int)}{N J i:Nat}{g a0 b d e f h w:Int}{od ad:D}{u15 u16:Option D}{a:Option (Int × Int)}(hn:S[N]?=some (.lst (L.map ag)))(hj:S[J]?=some (.lst ((js K).map D.int)))(hl:L.length<=100)(hL:InG K L)(g0:0<=g)(g1:g < K.G.length)(e6:gi K.G g 6=h){Qf:Fl->Rho->Sto->Prop}
  (q1:(eM K i (opm K.H (au K a g)) || cm K L g (opm K.H (au K a g)))=true->∀ρ S',Sm S S'->Qf (.rt .non) ρ S')
  (q2:(eM K i (opm K.H (au K a g)) || cm K L g (opm K.H (au K a g)))=false->∀v S',Sm S S'->Qf .nx [some (skE K),some od,some (.tup [.int a0,.int (opm K.H (au K a g))]),some (.ref N),some (.int (if opm K.H (au K a g) - d > w then opm K.H (au K a g) - d else w)),some (.ref J),some (.int i),some (.int g),some (.int a0),some (.int b),some (.int (au K a g)),some (.int d),some (.int e),some (.int f),some (.int h),some (.int (opm K.H (au K a g))),some v] (S'.set N (.lst (L.map ag++[.tup [.int g,.int (opm K.H (au K a g))]])))) :
  rW (wSs (evC ae (k+2)) (jk ae) 54 [CS.asg (Tg.name 15) (CE.call 45 [((CE.var 0).ix (CE.int 0)).ix (CE.int 3),CE.var 10]),CS.asg (Tg.name 16) ((CE.var 5).sl (some (CE.bin BOp.add (((CE.var 0).ix (CE.int 0)).ix (CE.int 0)) (CE.var 6))) none),CS.ifs (((CE.cmp COp.ne (CE.var 16) (CE.lst [])).and (CE.cmp COp.gt (CE.bin BOp.sub (CE.var 15) (((CE.var 0).ix (CE.int 0)).ix (CE.int 1))) ((CE.var 16).ix (CE.int 0)))).or (CE.chn COp.lt COp.lt (CE.int 0) (CE.var 14) (CE.call 47 [CE.var 0,CE.var 3,CE.var 7,CE.var 15]))) [CS.ret CE.non] [],CS.asg (Tg.name 4) ((CE.var 4).mx (CE.bin BOp.sub (CE.var 15) (CE.var 11))),CS.ex ((CE.var 3).app (CE.tup [CE.var 7,CE.var 15])),CS.asg (Tg.name 2) (CE.tup [CE.var 8,CE.var 15])]) [some (skE K),some od,some ad,some (.ref N),some (.int w),some (.ref J),some (.int i),some (.int g),some (.int a0),some (.int b),some (.int (au K a g)),some (.int d),some (.int e),some (.int f),some (.int h),u15,u16] S Qf:=by
 k_is;refine aa sk0 (aa me3 ?_);refine⟨rfl,Ag V.h4 ?_⟩;generalize opm K.H (au K a g)=m at *;k_is;refine aa sk0 (aa me0 ?_);k_is;have r0:=V.r0;refine aa (Aj hj (by lia)) ?_;k_is;have s3:Sm S (S++[Ob.lst (((js K).map D.int).drop (K.r+(i:Int)).toNat)]):=Sm.app _ _;have a3:(S++[Ob.lst (((js K).map D.int).drop (K.r+(i:Int)).toNat)])[Zj S]?=some (Ob.lst (((js K).map D.int).drop (K.r+(i:Int)).toNat)):=aK;have l3:Zj S < Zj (S++[Ob.lst (((js K).map D.int).drop (K.r+(i:Int)).toNat)]):=by simp
 generalize Zj S=N2 at *;generalize S++[Ob.lst (((js K).map D.int).drop (K.r+(i:Int)).toNat)]=S3 at *;refine aa (Ii (Sm.app _ _ _ _ a3) aK (by lia)) ?_;k_is;have sB:Sm S (S3++[Ob.lst []]):=s3.trans (Sm.app _ _);have a4:=Sm.app S3 [Ob.lst []] _ _ a3;have hn4:=sB _ _ hn;generalize S3++[Ob.lst []]=S4 at *;have el:eM K i m=match (js K)[(K.r+i).toNat]? with |some t=>decide (t < m - K.s) |none=>false:=rfl
 have eh:cm K L g m=(decide (0 < h) && decide (h < oK K L g m)):=by unfold cm;rw[e6]
 cases hlt:eM K i m with
 |true=>
  have hlt':(K.r+(i:Int)).toNat < (js K).length:=by
   refine Nat.lt_of_not_le λz=>?_;rw[Zs z] at el;rw[el] at hlt;cases hlt
  rw[gEG hlt'] at el
  have ed:((js K).map D.int).drop (K.r+(i:Int)).toNat = .int (js K)[(K.r+(i:Int)).toNat]::((js K).map D.int).drop ((K.r+(i:Int)).toNat+1):=by
   rw[YD (by rw[Za];exact hlt'),X0]
  rw[ed] at a4;rw[ed,show(!(D.int (js K)[(K.r+(i:Int)).toNat]::((js K).map D.int).drop ((K.r+(i:Int)).toNat+1)).isEmpty)=true from rfl];k_is;refine aa sk0 (aa me1 ?_);k_is;refine aa (fB (i:=0) a4 (by lia) rfl) ?_;k_is;rw[show decide ((js K)[(K.r+(i:Int)).toNat] < m - K.s)=true from el.symm.trans hlt];k_is;exact q1 (by rw[hlt];rfl) _ _ sB
 |false=>
  rw[hlt,YS,eh] at q1 q2;refine(λ(hB:?B)=>?g1) ?g2
  case g1=>
   by_cases hlt':(K.r+(i:Int)).toNat < (js K).length
   ·rw[gEG hlt'] at el
    have ed:((js K).map D.int).drop (K.r+(i:Int)).toNat = .int (js K)[(K.r+(i:Int)).toNat]::((js K).map D.int).drop ((K.r+(i:Int)).toNat+1):=by
     rw[YD (by rw[Za];exact hlt'),X0]
    rw[ed] at a4;rw[ed,show(!(D.int (js K)[(K.r+(i:Int)).toNat]::((js K).map D.int).drop ((K.r+(i:Int)).toNat+1)).isEmpty)=true from rfl];k_is;refine aa sk0 (aa me1 ?_);k_is;refine aa (fB (i:=0) a4 (by lia) rfl) ?_;k_is;rw[show decide ((js K)[(K.r+(i:Int)).toNat] < m - K.s)=false from el.symm.trans hlt];k_is;exact hB
   ·have ed:((js K).map D.int).drop (K.r+(i:Int)).toNat=[]:=Xi (by rw[Za];lia);rw[ed,show(!([]:List D).isEmpty)=false from rfl];k_is;exact hB
  case g2=>
   refine cx (λc1=>?_) λc1=>?_
   ·rw[c1,XB] at q1 q2;refine⟨rfl,Ah (k:=k) V hn4 hL (by lia) g0 g1 λS5 s5=>?_⟩;k_is;cases c2:decide (h < oK K L g m) with
    |true=>k_is;exact q1 c2 _ _ (sB.trans s5)
    |false=>k_is;exact qM (s5 _ _ hn4) hl (q2 c2 _ _ (sB.trans s5))
   ·rw[c1,YZ] at q2;k_is;exact qM hn4 hl (q2 rfl _ _ sB)
theorem EC(sk:bL K){os:List Int}(ho:∀g ∈ os,0<=g/\g < K.G.length)(lo:os.length<=7)(q:∀S',Sm S S'->Q (df (num (ntl K) true (rn (ntl K) os K.ah []))) S'):Ok (evC ae (k+3) 49 [skE K,.tup (os.map D.int)] S) Q:=by
 refine aA (d:=gK) (ρ:=[some (skE K),some (.tup (os.map D.int)),none,none,none,none,none,none,none,none,none,none,none,none,none,none,none]) rfl rfl ?_;dsimp only[gK,kU];have V:=sk.vd;k_is;refine aa sk1 ?_;k_is;refine aa sk2 ?_;k_is;refine bQ K.G az (λg=>[.int (g.getD 1 0)]) (by have:=V.g7;lia) (λ_ _=>Zf _) cK (λi g S' hg sm=>⟨_,rfl,?_⟩) λS1 s1=>?_
 ·obtain⟨l7,_⟩:=V.gl g (Ze hg)
  match g,l7 with
  |[a,b,c,d,e,f,h],_=>
   k_is;exact aa (show ixS (az [a,b,c,d,e,f,h]) (.int 1) S'=some (.int b,S') from rfl) ⟨rfl,Sm.refl _⟩
 ·rw[ce];refine⟨_,show cq false (K.G.map λg=>D.int (g.getD 1 0))=some ((js K).map D.int) from ?_,?_⟩
  ·have:=qE (xs:=K.G.map λg=>g.getD 1 0) (by rw[Za];have:=V.g7;lia);rw[ZU] at this;exact this
  ·have sA:Sm S (S1++[Ob.lst ((js K).map D.int)]):=((Sm.app S [Ob.lst []]).trans s1).trans (Sm.app _ _);have aJ:(S1++[Ob.lst ((js K).map D.int)])[Zj S1]?=some (Ob.lst ((js K).map D.int)):=aK;have aN:(S1++[Ob.lst ((js K).map D.int)])[Zj S]?=some (Ob.lst (([]:List (Int × Int)).map ag)):=Sm.app _ _ _ _ (s1 _ _ aK);have nJ:Zj S < Zj S1:=(Zb.mp (s1 _ _ (aK (S:=S) (o:=Ob.lst [])))).1;generalize Zj S1=J at *;generalize S1++[Ob.lst ((js K).map D.int)]=S2 at *;k_is;refine Ae (by rw[Za];lia) (λi ρ S'=>Sm S S'/\∃L u6 u7 u8 u9 u10 u11 u12 u13 u14 u15 u16,ρ=[some (skE K),some (.tup (os.map D.int)),some (ahE (aE K L)),some (.ref (Zj S)),some (.int (W (ntl K) true L 0)),some (.ref J),u6,u7,u8,u9,u10,u11,u12,u13,u14,u15,u16]/\S'[Zj S]?=some (.lst (L.map ag))/\S'[J]?=some (.lst ((js K).map D.int))/\L.length=i/\InG K L/\Bd7 (aE K L) i/\rn (ntl K) os K.ah []=rn (ntl K) (os.drop i) (aE K L) L) (λi d ρ S1 hd iv=>?_) (λρ S1 iv=>?_) ⟨sA,[],none,none,none,none,none,none,none,none,none,none,none,rfl,aN,aJ,rfl,λ_ h=>(by simp at h),λz e=>by have:=(sk.ah z e).2.2.2;lia,rfl⟩
   ·obtain⟨s1,L,u6,u7,u8,u9,u10,u11,u12,u13,u14,u15,u16,rfl,hn,hj,hi,hL,hb,hr⟩:=iv;obtain⟨g,hg,rfl⟩:=iO hd;have hgG:=ho g (Ze hg);have hil:i < os.length:=(Zb.mp hg).1;rw[jy hg,rn,hi,KG sk hb (by lia) hgG.1 hgG.2,FO] at hr;obtain⟨a0,b,c,d,e,f,h,eg,e0,e1,e2,e3,e6,k0,k1,c0⟩:=gl7 V hgG.1 hgG.2;refine⟨_,fw (by simp) (by simp),?_⟩;k_is;refine aa sk2 (aa (gg hgG.1 eg) ?_);rw[show az [a0,b,c,d,e,f,h] = .tup [.int a0,.int b,.int c,.int d,.int e,.int f,.int h] from rfl];k_is
    have q1:(eM K i (opm K.H (au K (aE K L) g)) || cm K L g (opm K.H (au K (aE K L) g)))=true->∀S',Sm S1 S'->Q .non S':=λhc S' sm=>by
     have:=q S' (s1.trans sm)
     have e:rn (ntl K) os K.ah [] = .inl i:=by
      rw[hr];cases hl:eM K i (opm K.H (au K (aE K L) g)) with
      |true=>rfl
      |false=>
       rw[hl,YS] at hc;rw[if_neg Zd];dsimp only;rw[AK,if_pos hc]
     rw[e] at this;exact this
    have q2:(eM K i (opm K.H (au K (aE K L) g)) || cm K L g (opm K.H (au K (aE K L) g)))=false->rn (ntl K) os K.ah []=rn (ntl K) (os.drop (i+1)) (some (gi K.G g 0,opm K.H (au K (aE K L) g))) (L++[(g,opm K.H (au K (aE K L) g))]):=λhc=>by
     rw[Bool.or_eq_false_iff] at hc;rw[hr,hc.1,if_neg Zd];dsimp only;rw[AK,hc.2,if_neg Zd]
    have tail:=λ(Qf:Fl->Rho->Sto->Prop)=>wP (S:=S1) (k:=k) V (w:=W (ntl K) true L 0) (i:=i) (a0:=a0) (b:=b) (d:=d) (e:=e) (f:=f) (od:=.tup (os.map D.int)) (ad:=ahE (aE K L)) (u15:=u15) (u16:=u16) (a:=aE K L) hn hj (by lia) hL hgG.1 hgG.2 e6 (Qf:=Qf);have mle:=FQ sk hb hgG.1 hgG.2
    have fin:∀v S3,(eM K i (opm K.H (au K (aE K L) g)) || cm K L g (opm K.H (au K (aE K L) g)))=false->Sm S1 S3->Sm S (S3.set (Zj S) (.lst (L.map ag++[.tup [.int g,.int (opm K.H (au K (aE K L) g))]])))/\∃L' u6 u7 u8 u9 u10 u11 u12 u13 u14 u15 u16,[some (skE K),some (.tup (os.map D.int)),some (.tup [.int a0,.int (opm K.H (au K (aE K L) g))]),some (.ref (Zj S)),some (.int (if opm K.H (au K (aE K L) g) - d > W (ntl K) true L 0 then opm K.H (au K (aE K L) g) - d else W (ntl K) true L 0)),some (.ref J),some (.int i),some (.int g),some (.int a0),some (.int b),some (.int (au K (aE K L) g)),some (.int d),some (.int e),some (.int f),some (.int h),some (.int (opm K.H (au K (aE K L) g))),some v]=[some (skE K),some (.tup (os.map D.int)),some (ahE (aE K L')),some (.ref (Zj S)),some (.int (W (ntl K) true L' 0)),some (.ref J),u6,u7,u8,u9,u10,u11,u12,u13,u14,u15,u16]/\(S3.set (Zj S) (.lst (L.map ag++[.tup [.int g,.int (opm K.H (au K (aE K L) g))]])))[Zj S]?=some (.lst (L'.map ag))/\(S3.set (Zj S) (.lst (L.map ag++[.tup [.int g,.int (opm K.H (au K (aE K L) g))]])))[J]?=some (.lst ((js K).map D.int))/\L'.length=i+1/\InG K L'/\Bd7 (aE K L') (i+1)/\rn (ntl K) os K.ah []=rn (ntl K) (os.drop (i+1)) (aE K L') L':=λv S3 hc s3=>by
     have h3:=s3 _ _ hn;have lt3:Zj S < S3.length:=(Zb.mp h3).1;refine⟨Sm.setNew (s1.trans s3) (Zf _),L++[(g,opm K.H (au K (aE K L) g))],some (.int i),some (.int g),some (.int a0),some (.int b),some (.int (au K (aE K L) g)),some (.int d),some (.int e),some (.int f),some (.int h),some (.int (opm K.H (au K (aE K L) g))),some v,?_,by rw[c9 lt3,ZP];rfl,by rw[Zq (by lia)];exact s3 _ _ hj,by rw[Zh,Zm];lia,λz hz=>?_,λz hz=>?_,by rw[b5];exact q2 hc⟩
     ·rw[b5,KH hgG.1 hgG.2,e0,e3];rfl
     ·rcases ZQ.mp hz with hz |hz
      ·exact hL z hz
      ·rw[Zx.mp hz];exact hgG
     ·rw[b5] at hz;cases hz;exact mle
    cases ha:aE K L with
    |none=>
     rw[ha] at tail q1 fin;have ef:au K none g=c:=e2;rw[ef] at tail q1 fin;refine aa (show am .isnot (ahE none) .non S1=some (.bl false,S1) from rfl) ?_;k_is;exact tail _ (λhc _ S' sm=>q1 hc S' sm) λhc v S' sm=>fin v S' hc sm
    |some z=>
     rw[ha] at tail q1 fin;obtain⟨z0,z1⟩:=lh V hL z ha;refine aa (show am .isnot (ahE (some z)) .non S1=some (.bl true,S1) from rfl) ?_;k_is;refine aa (show ixS (ahE (some z)) (.int 1) S1=some (.int z.2,S1) from rfl) ?_;refine aa sk0 (aa me2 (aa (show ixS (ahE (some z)) (.int 0) S1=some (.int z.1,S1) from rfl) ?_));obtain⟨r,h1,h2⟩:=lb (S:=S1) V z0 z1 k0 k1;refine aa h1 (aa h2 ?_);k_is;have ef:au K (some z) g=if z.2+gp K z.1 a0 > c then z.2+gp K z.1 a0 else c:=by unfold au;rw[e0,e2]
     rw[ef] at tail q1 fin;exact tail _ (λhc _ S' sm=>q1 hc S' sm) λhc v S' sm=>fin v S' hc sm
   ·obtain⟨s1,L,u6,u7,u8,u9,u10,u11,u12,u13,u14,u15,u16,rfl,hn,hj,hi,hL,hb,hr⟩:=iv;k_is;rw[Za,YC,rn] at hr;have:=q S1 s1;rw[hr] at this;exact this
end Lw
namespace Sn
open Ev PySem Lw
variable {K:Sky}
theorem KJ(os:List Int):(lft K os).Nodup:=List.Pairwise.filter _ (Y6.mpr (Xf.imp λh z=>h (Int.ofNat.inj z)))
theorem uC{os:List Int}{g:Int}(h:g ∈ lft K os):(lft K (os++[g])).length+1=(lft K os).length:=by
 rw[lp];exact oP (KJ os) h
theorem uD:∀ (bs os:List Int),(os++bs).Nodup->(∀g ∈ bs,0<=g/\g < K.G.length)->(lft K (os++bs)).length+bs.length=(lft K os).length
 |[],os,_,_=>by rw[ZW];rfl
 |g::bs,os,nd,bd=>by
  have e:os++g::bs=(os++[g])++bs:=by simp
  have hg:g ∈ lft K os:=NW.mpr ⟨bd g Zi,λz=>(Y4.mp nd).2.2 g z g Zi rfl⟩;have:=uD bs (os++[g]) (by rw[<-e];exact nd) λx hx=>bd x (Zg _ hx);have:=uC hg;rw[e,Zv]
  lia
theorem jC(sk:bL K):K.F.length+(lft K K.F).length=K.G.length:=by
 have:=uD (K:=K) K.F [] sk.nd sk.bd
 have e:(lft K []).length=K.G.length:=by
  unfold lft;rw[Xz.mpr (λx _=>by simp),Za,ZJ]
 rw[Xl] at this
 lia
abbrev fc:Nat->Nat->Nat
 |_,0=>1
 |c,n+1=>c * fc (c - 1) n
theorem FT:∀c,c < 8->∀n,n < 8->fc c n<=5040:=by decide
theorem qN{α β:Type}{f:α->List β}{c:Nat}:∀ (l:List α),(∀a ∈ l,(f a).length=c)->(l.flatMap f).length=l.length * c
 |[],_=>(Wh c).symm
 |a::l,h=>by
  rw[Z0,Zh,h a Zi,qN l λb hb=>h b (Zg _ hb),Zv,YV]
  lia
theorem oQ:∀ (n:Nat) (rows:List (List Int)) (c:Nat),(∀os ∈ rows,(lft K os).length=c)->(lvl K n rows).length=rows.length * fc c n
 |0,rows,_,_=>(Nat.mul_one _).symm
 |n+1,rows,c,h=>by
  rw[lvl,oQ n _ (c - 1) λos hos=>?_,qN rows (c:=c) λos hos=>by unfold dg;rw[Za];exact h os hos,fc,Nat.mul_assoc];obtain⟨o,ho,hx⟩:=ZS.mp hos;obtain⟨g,hg,rfl⟩:=ZD.mp hx;have:=uC hg;have:=h o ho
  lia
structure Row(K:Sky)(n:Nat)(os:List Int):Prop where
 bd:∀g ∈ os,0<=g/\g < K.G.length
 ln:os.length=n
theorem oT:∀ (n m:Nat) (rows:List (List Int)),(∀os ∈ rows,Row K m os)->∀os ∈ lvl K n rows,Row K (m+n) os
 |0,_,_,h=>h
 |n+1,m,rows,h=>λos hos=>by
  have:=oT n (m+1) (rows.flatMap (dg K)) (λo ho=>by
   obtain⟨o',ho',hx⟩:=ZS.mp ho;obtain⟨g,hg,rfl⟩:=ZD.mp hx;have r:=h o' ho';refine⟨λx hx=>?_,by rw[Zh,Zm,r.ln]⟩;rcases ZQ.mp hx with hx |hx
   ·exact r.bd x hx
   ·rw[Zx.mp hx];exact(NW.mp hg).1) os hos
  rwa [show m+1+n=m+(n+1) by lia] at this
end Sn
namespace Lw
open PySem Ev Sn L2
variable {p:Nat} {S S':Sto} {k:Nat} {Q:D->Sto->Prop} {K:Sky}
abbrev osE(os:List Int):D:=.tup (os.map D.int)
theorem ED{n m:Nat}{xs ys:List D}(h1:S[n]?=some (.lst xs))(h2:S[m]?=some (.lst ys))(hl:xs.length+ys.length<=100000):rX (.ref n) [.ref m] S=some (.non,S.set n (.lst (xs++ys))):=by
 simp only[rX,h2,chg,h1];rw[if_pos hl];rfl
theorem wQ(sk:bL K)(q:∀n S',Sm S S'->S'[n]?=some (.lst ((lvl K (lft K K.F).length [K.F]).map osE))->Q (.ref n) S'):Ok (evC ae (k+1) 48 [skE K] S) Q:=by
 refine aA (d:=dY) (ρ:=[some (skE K),none,none,none,none]) rfl rfl ?_;dsimp only[dY,hY];have g7:=sk.g7;have la:=jC sk;have all:=λn=>oQ (K:=K) n [K.F] (lft K K.F).length λos h=>by rw[Zx.mp h]
 have row:=λn=>oT (K:=K) n K.F.length [K.F] λos h=>by rw[Zx.mp h];exact⟨sk.bd,rfl⟩
 have fle:=λn hn=>FT (lft K K.F).length (by lia) n hn;k_is;refine aa sk3 ?_;k_is;refine aa sk2 (aa bJ (aa sk3 (aa bJ ?_)));k_is;rw[show((K.G.length:Int) - K.F.length)=((lft K K.F).length:Nat) by lia];refine⟨eu (by lia) (by lia),?_⟩;rw[ZE];refine hZ (by lia) (λi ρ S'=>Sm S S'/\∃n u2 u3 u4,ρ=[some (skE K),some (.ref n),u2,u3,u4]/\S'[n]?=some (.lst ((lvl K i [K.F]).map osE))) (λi ρ S1 hi iv=>?_) (λρ S1 iv=>?_) ⟨Sm.app _ _,_,_,_,_,rfl,aK⟩
 ·obtain⟨s1,n,u2,u3,u4,rfl,hn⟩:=iv;refine⟨_,rfl,?_⟩;rw[Xj];have lrow:(lvl K i [K.F]).length<=5040:=by rw[all i,Zm];have:=fle i (by lia);lia
  have lnext:((lvl K i [K.F]).flatMap (dg K)).length<=5040:=by rw[<-lq,all (i+1),Zm];have:=fle (i+1) (by lia);lia
  have row:=row i;rw[lq];generalize lvl K i [K.F]=rows at *;k_is;have s2:Sm S1 (S1++[Ob.lst []]):=Sm.app _ _;have a2:(S1++[Ob.lst []])[S1.length]?=some (.lst ((([]:List (List Int)).flatMap (dg K)).map osE)):=aK;have hn2:=s2 _ _ hn;have nN:S1.length ≠ n:=by have:=(Zb.mp hn).1;lia
  have nS:S.length<=S1.length:=by
   refine XQ λz=>?_;have:=s1 S1.length S[S1.length] (gEG z);rw[Zs (Zf _)] at this;cases this
  generalize S1++[Ob.lst []]=S2 at *;generalize S1.length=N at *;k_is;refine⟨by rw[aM hn2];rfl,?_⟩;refine FM (ds:=rows.map osE) (n:=n) (by rw[Za];lia) (λt ρ S'=>S'[n]?=some (.lst (rows.map osE))/\Sm S S'/\∃u4,ρ=[some (skE K),some (.ref n),some (.int i),some (.ref N),u4]/\S'[N]?=some (.lst (((rows.take t).flatMap (dg K)).map osE))) (λt ρ S' iv=>iv.1) (λt d ρ S3 hd iv=>?_) (λρ S3 iv=>?_) ⟨hn2,s1.trans s2,_,rfl,a2⟩
  ·obtain⟨h1,s3,u4,rfl,h3⟩:=iv;obtain⟨os,ho,rfl⟩:=iO hd;have rw':=row os (Ze ho);have lo:=rw'.ln;refine⟨_,rfl,?_⟩;k_is;refine⟨cJ h3,?_⟩;refine aa sk2 (aa bJ ?_);k_is;refine⟨eu (by lia) (by lia),?_⟩;rw[ZE];refine bQ (Zl K.G.length) (λ(j:Nat)=>D.int (0+(j:Int))) (λ(j:Nat)=>if (!decide ((j:Int) ∈ os))=true then [osE (os++[(j:Int)])] else []) (by rw[ZJ];lia) (λa _=>by split <;> simp) Ay (λi j S' hj sm=>⟨_,rfl,?_⟩) λS4 s4=>?_
   ·rw[Xj];k_is;refine aa (show am .notin (.int (j:Int)) (osE os) S'=some (.bl (true != decide ((j:Int) ∈ os)),S') from oz true os j S') ?_;rw[show(true != decide ((j:Int) ∈ os)) = !decide ((j:Int) ∈ os) by cases decide ((j:Int) ∈ os) <;> rfl];cases c:!decide ((j:Int) ∈ os) with
    |true=>
     unfold osE;k_is;refine⟨by rw[Za];show os.length+1<=1000;lia,?_⟩;rw[if_pos rfl,ZP];exact⟨rfl,Sm.refl _⟩
    |false=>k_is;exact⟨rfl,Sm.refl _⟩
   ·rw[bB]
    have e:((Zl K.G.length).filter λ(j:Nat)=>!decide ((j:Int) ∈ os)).map (λ(j:Nat)=>osE (os++[(j:Int)]))=(dg K os).map osE:=by
     unfold dg lft;rw[X7,ZU,ZU];rfl
    rw[e];have s5:Sm S4 (S4++[Ob.lst ((dg K os).map osE)]):=Sm.app _ _;have a5:(S4++[Ob.lst ((dg K os).map osE)])[S4.length]?=some (.lst ((dg K os).map osE)):=aK;have sm:=s4.trans s5;generalize S4++[Ob.lst ((dg K os).map osE)]=S5 at *;generalize S4.length=N5 at *;have h5:=sm _ _ h3;have tk:rows.take (t+1)=rows.take t++[os]:=by rw[Wc,ho];rfl
    have le:(((rows.take t).flatMap (dg K)).map osE).length+((dg K os).map osE).length<=100000:=by
     have:((rows.take (t+1)).flatMap (dg K)).length<=(rows.flatMap (dg K)).length:=by
      conv=>rhs;rw[<-List.take_append_drop (t+1) rows,Yc,Zh]
      exact Xe _ _
     rw[tk,Yc,Zh] at this;simp only[Z0,Xg,ZW] at this;rw[Za,Za]
     lia
    refine aa (ED h5 a5 le) ?_;k_is;have lt5:N < S5.length:=(Zb.mp h5).1;refine⟨by rw[Zq nN];exact sm _ _ h1,Sm.setNew (s3.trans sm) nS,_,rfl,?_⟩;rw[c9 lt5,tk,Yc,ZP];simp only[Z0,Xg,ZW]
  ·obtain⟨h1,s3,u4,rfl,h3⟩:=iv;rw[Za,YB] at h3;k_is;exact⟨s3,_,_,_,_,rfl,h3⟩
 ·obtain⟨s1,n,u2,u3,u4,rfl,hn⟩:=iv;k_is;exact q n S1 s1 hn
end Lw
namespace Lw
open PySem Ev L2
variable {p:Nat} {S:Sto} {k:Nat} {Q:D->Sto->Prop}
theorem AN{c:Nat}:∀ {ts:List Dw.D},(∀t ∈ ts,Dw.sz t<=c)->Dw.szL ts<=ts.length * (c+2)
 |[],_=>by simp[Dw.szL]
 |t::ts,h=>by
  have h1:=h t Zi;have h2:=AN (ts:=ts) λt' ht'=>h t' (Zg _ ht');rw[Dw.szL,Zv,YV]
  lia
structure Shw(t:Dw.D):Prop where
 sh:Dw.Shn t
 de:Dw.dep t<=50
 wi:Dw.wid t<=1000
theorem KL{n m B s:Nat}{t:Dw.D}(f:Dw.Fit n m t)(b:Dw.Bd B s t)(hn:n<=50)(hm:m<=1000)(hB:B<=10 ^ 50)(hs:s<=16000000):Shw t:=
 ⟨b.shn hB (by rw[V4];lia) (ZI f.de (by lia)),ZI f.de hn,ZI f.wi hm⟩
mutual
theorem uE{S:Sto}:∀ (n:Nat) {t:Dw.D} {d:D},Dw.dep t < n->TD p S t d->cM n S d=some t
 |n+1,.non,_,_,h=>by rw[h.non];simp only[cM]
 |n+1,.bl _,_,_,h=>by rw[h.bl];simp only[cM]
 |n+1,.int _,_,_,h=>by rw[h.int];simp only[cM]
 |n+1,.str _,_,_,h=>by rw[h.str];simp only[cM]
 |n+1,.tup ts,_,hd,h=>by
  obtain⟨ds,rfl,q⟩:=h.tup;rw[Dw.dep] at hd;simp only[cM,ls n (by lia) q,ZA]
 |n+1,.lst ts,_,hd,h=>by
  rw[TD] at h;obtain⟨m,ds,rfl,_,e,q⟩:=h;rw[Dw.dep] at hd;simp only[cM,e,ls n (by lia) q,ZA]
 |n+1,.dic ks ts,_,hd,h=>by rw[TD] at h;exact h.elim
theorem ls{S:Sto}:∀ (n:Nat) {ts:List Dw.D} {ds:List D},Dw.jd ts < n->TDs p S ts ds->eB (cM n S) ds=some ts
 |n,[],_,_,h=>by rw[h.nil];simp only[eB]
 |n,t::ts,_,hd,h=>by
  obtain⟨d,r,rfl,a,q⟩:=h.cons;rw[Dw.jd] at hd;simp only[eB,uE n (by lia) a,ls n (by lia) q]
end
theorem uF{t:Dw.D}{d:D}(h:TD p S t d)(s:Shw t):kj d S=some (.str (Dw.aZ t).shown,S):=by
 unfold kj;rw[uE 100 (by have:=s.de;lia) h];dsimp only;rw[if_pos s.sh]
theorem uG(x y:Str)(S:Sto):am .ne (.str x) (.str y) S=some (.bl (!(x == y)),S):=lV rfl
end Lw
namespace Lw
open PySem Ev Sn L2
variable {p:Nat} {S S':Sto} {k:Nat} {Q:D->Sto->Prop} {K:Sky}
abbrev meL(r s:Int)(M:List (List Int))(H:List (Int × Int)):D:=.tup [.int r,.int s,.tup (M.map az),.tup (H.map ag)]
theorem EF{r s:Int}{M G:List (List Int)}{H:List (Int × Int)}{F:List Int}{es:List D}{N Nf hi:Nat}{u4 u5 u6 u7 u8 u9 u10 u11 u13:Option D}(h:Pot p S)(gs:Gs p N hi S es G)(hf:S[Nf]?=some (.lst (F.map D.int)))(nf:Nf ≠ p)(me:MeOk r s M H)(g7:G.length<=7)
  (q:∀a S',Dr p S S'->(∀z:Int × Int,a=some z->0<=z.1/\z.1 < M.length/\0<=z.2/\z.2<=9999)->Q (skE ⟨r,s,M,H,a,G,F⟩) S') :
  rW (wSs (evC ae (k+3)) (jk ae) 55 (fM.drop 5)) [some (.ref p),some (.int 5),some (meL r s M H),some (.ref N),u4,u5,u6,u7,u8,u9,u10,u11,some (.ref Nf),u13,none] S (out Q):=by
 dsimp only[fM,Xc];have m1:=me.m1;have m4:=me.m4;k_is;refine aa (show ixS (meL r s M H) (.int 2) S=some (.tup (M.map az),S) from rfl) ?_;refine aa (show ai cB (.tup (M.map az)) S=some (.int M.length,S) by simp only[ai,ay,cB,Za]) ?_;refine⟨rfl,aG h (by lia) (by lia) λx S1 x1 x2 d1=>?_⟩;refine⟨rfl,aG d1.pot (by decide) (by decide) λy S2 y1 y2 d2=>?_⟩;refine⟨rfl,aG d2.pot (by decide) (by decide) λz S3 z1 z2 d3=>?_⟩;k_is;have d:=(d1.trans d2).trans d3
 obtain⟨a,ea,ha⟩:∃a:Option (Int × Int),atI [D.non,D.tup [D.int x,D.int y]] z=some (ahE a)/\∀q,a=some q->0<=q.1/\q.1 < M.length/\0<=q.2/\q.2<=9999:=by
  have:z=0\/z=1:=by lia
  rcases this with rfl |rfl
  ·exact⟨none,rfl,λq e=>by cases e⟩
  ·exact⟨some (x,y),rfl,λq e=>by cases e;exact⟨x1,x2,y1,by lia⟩⟩
 refine⟨_,ea,?_⟩;k_is;have gs3:=gs.keep d.kp;have hf3:=d.kp _ _ nf hf;refine⟨by rw[aM gs3.at_];rfl,?_⟩;have le:=gs3.len;refine iM es.length (λi=>(es[i]?).getD .non) (λi acc S'=>S'=S3/\acc=(G.take i).map az) (λi acc S' hi ⟨e,_⟩=>by subst e;exact zC gs3.at_ _ FK) (by lia) (λi acc S4 hi ⟨e4,ea'⟩=>?_) (λes' S4 ⟨e4,ea'⟩=>⟨by rw[ea',Za,Yq];lia,?_⟩) ⟨rfl,rfl⟩
 ·subst e4;have li:i < G.length:=by lia
  obtain⟨b,eb,_,_,zb⟩:=gs3.row i G[i] (gEG li);simp only[eb,ZZ];refine⟨_,rfl,?_⟩;k_is;refine aa (show ai cL (.ref b) S4=some (.tup (G[i].map D.int),S4) by simp only[ai,ay,aM zb,ZA,cL]) ?_;refine⟨rfl,?_⟩;rw[ea',ZT li,ZP];rfl
 ·subst e4;rw[Z5 (by lia)] at ea';subst ea';refine aa (show cL false (G.map az) S4=some (.tup (G.map az),S4) from rfl) ?_;refine aa (show ai cL (.ref Nf) S4=some (.tup (F.map D.int),S4) by simp only[ai,ay,aM hf3,ZA,cL]) ?_;k_is;exact q a S4 d ha
theorem sR{l:List Int}{j:Nat}(h:j < l.length):(l[j]::l.eraseIdx j).Perm l:=by
 induction l generalizing j with
 |nil=>simp at h
 |cons a l ih=>
  cases j with
  |zero=>exact List.Perm.refl _
  |succ j=>
   rw[Zv] at h;have:=ih (j:=j) (by lia);rw[List.getElem_cons_succ,YI];exact(List.Perm.swap _ _ _).trans (this.cons a)
theorem m7:∀ (l:List Int) (j:Nat),(l.map D.int).eraseIdx j=(l.eraseIdx j).map D.int
 |[],_=>rfl
 |a::l,0=>rfl
 |a::l,j+1=>by rw[ZC,YI,YI,ZC,m7 l j]
theorem AO{n:Nat}{l:List Int}{j:Nat}(hn:S[n]?=some (.lst (l.map D.int)))(hj:j < l.length):gr (.ref n) [.int (j:Int)] S=some (.int l[j],S.set n (.lst ((l.eraseIdx j).map D.int))):=by
 have hix:ixN (l.map D.int).length (j:Int)=some j:=by
  unfold ixN;rw[if_pos (by lia),if_pos (by rw[Za];lia),ZE]
 have hg:(l.map D.int)[j]?=some (.int l[j]):=by rw[Zo,gEG hj];rfl
 have he:(l.map D.int).eraseIdx j=(l.eraseIdx j).map D.int:=m7 l j;simp only[gr,chg,hn,hix,hg,ZA,he]
theorem lu{n:Nat}{l:List Int}(h:l.Perm ((Zl n).map λi=>Int.ofNat i)):l.Nodup/\(∀x ∈ l,0<=x/\x < n)/\l.length=n:=by
 refine⟨h.nodup_iff.mpr (Y6.mpr (Xf.imp λh z=>h (Int.ofNat.inj z))),λx hx=>?_,by rw[h.length_eq,Za,ZJ]⟩;obtain⟨i,hi,rfl⟩:=ZD.mp (h.mem_iff.mp hx);have:=Z1.mp hi;show 0<=(i:Int)/\(i:Int) < n
 lia
structure Fxs(p N Nl Nf:Nat)(S:Sto)(es:List D)(G:List (List Int))(l F:List Int):Prop where
 gs:Gs p N Nl S es G
 al:S[Nl]?=some (.lst (l.map D.int))
 af:S[Nf]?=some (.lst (F.map D.int))
 nn:Nl < Nf
 pm:(F++l).Perm ((Zl G.length).map λi=>Int.ofNat i)
 rg:∀ (j:Nat) g,G[j]?=some g->g.getD 6 0=0\/(j:Int) ∈ F
theorem Fxs.keep{N Nl Nf:Nat}{es:List D}{G:List (List Int)}{l F:List Int}(h:Fxs p N Nl Nf S es G l F)(kp:Ev.Kp p S S')(hN:N < Nl):Fxs p N Nl Nf S' es G l F:=by
 have:=h.gs.pN;have:=h.nn;exact⟨h.gs.keep kp,kp _ _ (by lia) h.al,kp _ _ (by lia) h.af,h.nn,h.pm,h.rg⟩
theorem EG{r s:Int}{M G:List (List Int)}{H:List (Int × Int)}{es:List D}{N hi:Nat}{S0:Sto}{u4 u5 u6 u7 u8 u9 u10:Option D}(h:Dr p S0 S)(l0:S0.length<=N)(gs:Gs p N S.length S es G)(me:MeOk r s M H)(g7:G.length<=7)(gb:∀g ∈ G,GB M.length r s g)(g0:∀g ∈ G,g.getD 6 0=0)
  (q:∀K S',Dr p S0 S'->bL K->(∀g ∈ K.G,GB K.M.length K.r K.s g)->Q (skE K) S') :
  rW (wSs (evC ae (k+3)) (jk ae) 57 (fM.drop 3)) [some (.ref p),some (.int 5),some (meL r s M H),some (.ref N),u4,u5,u6,u7,u8,u9,u10,none,none,none,none] S (out Q):=by
 have tail:=λ(u11 u13:Option D) (G':List (List Int)) (es':List D) (F:List Int) (Nf hi:Nat) (S1:Sto) (d:Dr p S0 S1) (gs':Gs p N hi S1 es' G') (hf:S1[Nf]?=some (.lst (F.map D.int))) (nf:Nf ≠ p) (g7':G'.length<=7) (gb':∀g ∈ G',GB M.length r s g) (nd:F.Nodup) (bd:∀x ∈ F,0<=x/\x < G'.length) (rg:∀ (j:Nat) g,G'[j]?=some g->g.getD 6 0=0\/(j:Int) ∈ F)=>
  EF (k:=k) (Q:=Q) (u4:=u4) (u5:=u5) (u6:=u6) (u7:=u7) (u8:=u8) (u9:=u9) (u10:=u10) (u11:=u11) (u13:=u13) d.pot gs' hf nf me g7' λa S2 d2 ha=>q _ S2 (d.trans d2) ⟨me,g7',λg hg=>(gb' g hg).up (by decide),nd,bd,rg,ha⟩ gb'
 dsimp only[fM,Xc] at tail ⊢;have pN:=gs.pN;have le:=gs.len;have lN:N < S.length:=(Zb.mp gs.at_).1;k_is;refine aa (fO gs.at_) ?_;refine⟨es.length,rfl,by lia,?_⟩;k_is;rw[le]
 have al:(S++[Ob.lst ((Zl G.length).map λj=>D.int (Int.ofNat j))]++[Ob.lst []])[S.length]?=some (.lst (((Zl G.length).map λj=>Int.ofNat j).map D.int)):=by
  rw[Zu (by simp),aK,ZU];rfl
 have af:(S++[Ob.lst ((Zl G.length).map λj=>D.int (Int.ofNat j))]++[Ob.lst []])[Zj (S++[Ob.lst ((Zl G.length).map λj=>D.int (Int.ofNat j))])]?=some (.lst (([]:List Int).map D.int)):=aK;have sm1:Sm S (S++[Ob.lst ((Zl G.length).map λj=>D.int (Int.ofNat j))]++[Ob.lst []]):=(Sm.app _ _).trans (Sm.app _ _);have nn:S.length < Zj (S++[Ob.lst ((Zl G.length).map λj=>D.int (Int.ofNat j))]):=by simp
 generalize Zj (S++[Ob.lst ((Zl G.length).map λj=>D.int (Int.ofNat j))])=Nf at *;generalize S++[Ob.lst ((Zl G.length).map λj=>D.int (Int.ofNat j))]++[Ob.lst []]=S1 at *;have d1:Dr p S0 S1:=h.thenSm sm1;have fx1:Fxs p N S.length Nf S1 es G ((Zl G.length).map λj=>Int.ofNat j) []:=⟨gs.keep sm1.kp,al,af,nn,List.Perm.refl _,λj g e=>.inl (g0 g (Ze e))⟩;have sl:S0.length<=S.length:=by lia
 generalize S.length=Nl at *;refine aa (fO (sm1 _ _ gs.at_)) ?_;k_is;rw[le];refine⟨rfl,aG d1.pot (by lia) (by lia) λt S2 t1 t2 d2=>?_⟩;refine⟨rfl,aG d2.pot (by decide) (by decide) λz S3 z1 z2 d3=>?_⟩;k_is
 obtain⟨c,ec,hc⟩:∃c:Nat,atI [D.int 0,D.int t] z=some (D.int c)/\c<=G.length:=by
  have:z=0\/z=1:=by lia
  rcases this with rfl |rfl
  ·exact⟨0,rfl,Xq _⟩
  ·obtain⟨m,rfl⟩:∃m:Nat,t=(m:Int):=⟨t.toNat,by lia⟩;exact⟨m,rfl,by lia⟩
 refine⟨_,ec,?_⟩;k_is;refine⟨eu (by lia) (by lia),?_⟩;rw[ZE];refine hZ (by lia) (λi ρ S'=>Dr p S0 S'/\∃G' l F u13,ρ=[some (.ref p),some (.int 5),some (meL r s M H),some (.ref N),u4,u5,u6,u7,u8,u9,u10,some (.ref Nl),some (.ref Nf),u13,none]/\Fxs p N Nl Nf S' es G' l F/\F.length=i/\G'.length=G.length/\∀g ∈ G',GB M.length r s g) (λi ρ S4 hi ⟨d4,G',l,F,u13,er,fx,lF,lG,gb'⟩=>?_) (λρ S4 ⟨d4,G',l,F,u13,er,fx,lF,lG,gb'⟩=>?_) ⟨(d1.trans d2).trans d3,G,_,[],none,rfl,fx1.keep (d2.trans d3).kp lN,rfl,rfl,gb⟩
 ·subst er;refine⟨_,rfl,?_⟩;k_is;have pl:F.length+l.length=G'.length:=by have:=fx.pm.length_eq;rw[Zh,Za,ZJ] at this;exact this
  refine⟨cJ fx.af,?_⟩;refine⟨cJ fx.al,?_⟩;refine aa (fO fx.al) ?_;rw[Za];refine⟨rfl,aG d4.pot (by lia) (by lia) λj0 S5 j1 j2 d5=>?_⟩;obtain⟨j,rfl⟩:∃j:Nat,j0=(j:Int):=⟨j0.toNat,by lia⟩;have hj:j < l.length:=by lia
  have fx5:=fx.keep d5.kp lN;refine aa (AO fx5.al hj) ?_;have nnf:=fx5.nn;have lt5:Nl < S5.length:=(Zb.mp fx5.al).1;have ltf:Nf < S5.length:=(Zb.mp fx5.af).1;have af6:(S5.set Nl (.lst ((l.eraseIdx j).map D.int)))[Nf]?=some (.lst (F.map D.int)):=by rw[Zq (by lia)];exact fx5.af
  rw[k7 af6 (by rw[Za];lia)];k_is;have ef:F.map D.int++[D.int l[j]]=(F++[l[j]]).map D.int:=by rw[ZP];rfl
  rw[ef]
  have pm7:((F++[l[j]])++l.eraseIdx j).Perm ((Zl G'.length).map λi=>Int.ofNat i):=by
   rw[Yz];exact((sR hj).append_left F).trans fx.pm
  have fx7:Fxs p N Nl Nf ((S5.set Nl (.lst ((l.eraseIdx j).map D.int))).set Nf (.lst ((F++[l[j]]).map D.int))) es G' (l.eraseIdx j) (F++[l[j]]):=by
   refine⟨(fx5.gs.other (Zf _) lN).other (by lia) lN,?_,c9 (by rw[ZY];exact ltf),nnf,pm7,λj' g e=>?_⟩
   ·rw[Zq (by lia),c9 lt5]
   ·rcases fx.rg j' g e with z |z
    ·exact .inl z
    ·exact .inr (Yk _ z)
  have d7:Dr p S0 ((S5.set Nl (.lst ((l.eraseIdx j).map D.int))).set Nf (.lst ((F++[l[j]]).map D.int))):=⟨((d4.kp.trans d5.kp).setNew (by lia)).setNew (by lia),(d5.pot.setNe (by lia)).setNe (by lia)⟩;generalize (S5.set Nl (.lst ((l.eraseIdx j).map D.int))).set Nf (.lst ((F++[l[j]]).map D.int))=S7 at *;have xb:=(lu fx.pm).2.1 l[j] (ZG _ (ZM hj));generalize l[j]=x at *;refine aa (show ixS (meL r s M H) (.int 0) S7=some (.int r,S7) from rfl) ?_;k_is;refine cx (λh1=>?_) λh1=>?_
  ·k_is;have r0:=of_decide_eq_true h1;have r8:=me.r8;refine⟨rfl,aG d7.pot (by decide) (by decide) λy S8 y1 y2 d8=>?_⟩;k_is;have fx8:=fx7.keep d8.kp lN;refine cx (λh2=>?_) λh2=>?_
   ·k_is;refine aa (show ixS (meL r s M H) (.int 0) S8=some (.int r,S8) from rfl) ?_;refine⟨rfl,aG d8.pot r0 (by lia) λw S9 w1 w2 d9=>?_⟩;k_is;have fx9:=fx8.keep d9.kp lN;refine aa (oC (ds:=F.map D.int) (e:=.int x) (by rw[fx9.af,ZP];rfl)) ?_;have hx:x.toNat < G'.length:=by lia
    obtain⟨a,ea,n1,n2,za⟩:=fx9.gs.row x.toNat G'[x.toNat] (gEG hx);refine aa (fB fx9.gs.at_ xb.1 ea) ?_;k_is;obtain⟨kd,jo,fi,la,du,we,ri,eg,hb⟩:=gb' G'[x.toNat] (ZM hx);rw[eg] at za;refine⟨_,ux (i:=6) za (by decide) (by show 6 < 7;decide),?_⟩;k_is;have es9:(([kd,jo,fi,la,du,we,ri]:List Int).map D.int).set (6:Int).toNat (.int (1+w))=([kd,jo,fi,la,du,we,1+w]:List Int).map D.int:=rfl;rw[es9];refine⟨⟨((d7.kp.trans d8.kp).trans d9.kp).setNew (by lia),d9.pot.setNe (by lia)⟩,G'.set x.toNat [kd,jo,fi,la,du,we,1+w],_,_,_,rfl,⟨fx9.gs.setRow hx ea,?_,?_,nnf,by rw[ZY];exact fx9.pm,λj' g e=>?_⟩,by rw[Zh,Zm];lia,by rw[ZY];exact lG,λg hg=>?_⟩
    ·rw[Zq (by lia)];exact fx9.al
    ·rw[Zq (by lia)];exact fx9.af
    ·by_cases hjj:j'=x.toNat
     ·subst hjj;right;have:((x.toNat:Nat):Int)=x:=by lia
      rw[this];exact ZG _ (Zx.mpr rfl)
     ·rw[Zq (Ne.symm hjj)] at e;exact fx9.rg j' g e
    ·rcases List.mem_or_eq_of_mem_set hg with hg |rfl
     ·exact gb' g hg
     ·exact⟨kd,jo,fi,la,du,we,1+w,rfl,by omega⟩
   ·k_is;exact⟨d7.trans d8,G',_,_,_,rfl,fx8,by rw[Zh,Zm];lia,lG,gb'⟩
  ·k_is;exact⟨d7,G',_,_,_,rfl,fx7,by rw[Zh,Zm];lia,lG,gb'⟩
 ·subst er;k_is;have pr:=lu fx.pm;have nnf:=fx.nn;exact tail _ _ G' es F Nf Nl S4 d4 fx.gs fx.af (by lia) (by lia) gb' (List.Nodup.sublist (List.sublist_append_left F l) pr.1) (λy hy=>pr.2.1 y (Yk _ hy)) fx.rg
theorem EH(h:Pot p S)(q:∀K S',Dr p S S'->bL K->(∀g ∈ K.G,GB K.M.length K.r K.s g)->Q (skE K) S'):Ok (evC ae (k+4) 44 [.ref p,.int 5] S) Q:=by
 refine aA (d:=iL) (ρ:=[some (.ref p),some (.int 5),none,none,none,none,none,none,none,none,none,none,none,none,none]) rfl rfl ?_;have fix:=@EG p;dsimp only[iL];dsimp only[fM,Xc] at fix ⊢;k_is;refine⟨rfl,sI h λr s M H S1 d1 me=>?_⟩;rw[show(D.tup [.int r,.int s,.tup (M.map az),.tup (H.map ag)])=meL r s M H from rfl];k_is;have lt1:=d1.pot.lt;have m1:=me.m1;have m4:=me.m4;have s0:=me.s0;have s60:=me.s60;have sl:S.length<=S1.length:=Kp.len d1.kp lt1;have d2:Dr p S (S1++[Ob.lst []]):=d1.thenSm (Sm.app _ _);have g2:Gs p S1.length (Zj (S1++[Ob.lst []])) (S1++[Ob.lst []]) [] []:=⟨lt1,aK,rfl,λi g e=>by simp at e,λi j a e=>by simp at e⟩;generalize S1++[Ob.lst []]=S2 at *;generalize S1.length=N at *;refine⟨rfl,aG d2.pot (by decide) (by decide) λi3 S3 j3 k3 d3=>?_⟩;k_is
 obtain⟨wd,at3,h3⟩:∃e:Int,atI [D.int 5,D.int 20,D.int 60] i3=some (D.int e)/\0 < e/\e<=60:=by
  have:i3=0\/i3=1\/i3=2:=by lia
  rcases this with rfl |rfl |rfl
  ·exact⟨5,rfl,by decide,by decide⟩
  ·exact⟨20,rfl,by decide,by decide⟩
  ·exact⟨60,rfl,by decide,by decide⟩
 refine⟨_,at3,?_⟩;refine⟨rfl,aG d3.pot (by decide) (by decide) λi4 S4 j4 k4 d4=>?_⟩;k_is
 obtain⟨lg,at4,h4⟩:∃e:Int,atI [D.int 4,D.int 30,D.int 90,D.int 400] i4=some (D.int e)/\0 < e/\e<=400:=by
  have:i4=0\/i4=1\/i4=2\/i4=3:=by lia
  rcases this with rfl |rfl |rfl |rfl
  ·exact⟨4,rfl,by decide,by decide⟩
  ·exact⟨30,rfl,by decide,by decide⟩
  ·exact⟨90,rfl,by decide,by decide⟩
  ·exact⟨400,rfl,by decide,by decide⟩
 refine⟨_,at4,?_⟩;k_is;refine⟨rfl,aG d4.pot (by decide) (by decide) λn0 S5 n1 n2 d5=>?_⟩;k_is;obtain⟨n,rfl⟩:∃n:Nat,n0=(n:Int):=⟨n0.toNat,by lia⟩;refine⟨eu (by lia) (by lia),?_⟩;rw[ZE];have d25:=(d3.trans d4).trans d5;refine hZ (by lia) (λi ρ S'=>Dr p S S'/\∃es G u6 u7 u8 u9 u10,ρ=[some (.ref p),some (.int 5),some (meL r s M H),some (.ref N),some (.int wd),some (.int lg),u6,u7,u8,u9,u10,none,none,none,none]/\Gs p N S'.length S' es G/\G.length=i/\∀g ∈ G,GB M.length r s g/\g.getD 6 0=0) (λi ρ S6 hi ⟨d6,es,G,u6,u7,u8,u9,u10,er,gs,lG,gb⟩=>?_) (λρ S6 ⟨d6,es,G,u6,u7,u8,u9,u10,er,gs,lG,gb⟩=>?_) ⟨d2.trans d25,[],[],none,none,none,none,none,rfl,(g2.keep d25.kp).up (Kp.len d25.kp d25.pot.lt),rfl,λg hg=>by simp at hg⟩
 ·subst er;refine⟨_,rfl,?_⟩;k_is;refine⟨rfl,aG d6.pot h3.1 (by lia) λjo S7 o1 o2 d7=>?_⟩;k_is;refine aa (show ixS (meL r s M H) (.int 1) S7=some (.int s,S7) from rfl) ?_;k_is;refine⟨rfl,aG d7.pot (by decide) (by decide) λx S8 x1 x2 d8=>?_⟩;refine⟨rfl,aG d8.pot (by decide) (by decide) λz S9 z1 z2 d9=>?_⟩;k_is
  obtain⟨e,ate,he⟩:∃e:Int,atI [D.int 0,D.int x] z=some (D.int e)/\0<=e/\e<=9:=by
   have:z=0\/z=1:=by lia
   rcases this with rfl |rfl
   ·exact⟨0,rfl,by decide,by decide⟩
   ·exact⟨x,rfl,by lia,by lia⟩
  refine⟨_,ate,?_⟩;k_is;refine⟨rfl,aG d9.pot h4.1 (by lia) λa Sa a1 a2 da=>?_⟩;k_is;refine⟨rfl,aG da.pot h4.1 (by lia) λb Sb b1 b2 db=>?_⟩;k_is;have dAll:=(((d7.trans d8).trans d9).trans da).trans db;have gsb:=gs.keep dAll.kp;refine⟨cJ gsb.at_,?_⟩;refine aa (show ixS (meL r s M H) (.int 2) Sb=some (.tup (M.map az),Sb) from rfl) ?_;refine aa (show ai cB (.tup (M.map az)) Sb=some (.int M.length,Sb) by simp only[ai,ay,cB,Za]) ?_;refine⟨rfl,aG db.pot (by lia) (by lia) λkd Sc c1 c2 dc=>?_⟩;refine⟨rfl,aG dc.pot (by decide) (by decide) λw Sd w1 w2 dd=>?_⟩;k_is
  obtain⟨we,atw,hw⟩:∃e:Int,atI [D.int 0,D.int 1,D.int 7,D.int 99] w=some (D.int e)/\0<=e/\e<=99:=by
   have:w=0\/w=1\/w=2\/w=3:=by lia
   rcases this with rfl |rfl |rfl |rfl
   ·exact⟨0,rfl,by decide,by decide⟩
   ·exact⟨1,rfl,by decide,by decide⟩
   ·exact⟨7,rfl,by decide,by decide⟩
   ·exact⟨99,rfl,by decide,by decide⟩
  refine⟨_,atw,?_⟩;k_is;have dAll2:=dAll.trans (dc.trans dd);have gsd:=(gs.keep dAll2.kp).up (Kp.len dAll2.kp dAll2.pot.lt);have atN:=Sm.app Sd [Ob.lst [D.int kd,D.int jo,D.int (jo+s+e),D.int (jo+s+e+a),D.int (jo+b),D.int we,D.int 0]] _ _ gsd.at_;rw[k7 atN (by rw[gsd.len];lia)];k_is;have sn:=gsd.snoc (g:=[kd,jo,jo+s+e,jo+s+e+a,jo+b,we,0]);have d6d:=d6.trans dAll2;refine⟨⟨(d6d.kp.trans (Sm.app _ _).kp).setNew (by lia),((Dr.sm d6d.pot (Sm.app _ _)).pot).setNe (by have:=gsd.pN;lia)⟩,es++[D.ref (Zj Sd)],G++[[kd,jo,jo+s+e,jo+s+e+a,jo+b,we,0]],_,_,_,_,_,rfl,?_,by rw[Zh,Zm];lia,λg hg=>?_⟩
  ·rw[ZY,Zh,Zm];exact sn
  ·rcases ZQ.mp hg with hg |hg
   ·exact gb g hg
   ·rw[Zx.mp hg];exact⟨⟨kd,jo,jo+s+e,jo+s+e+a,jo+b,we,0,rfl,by have:=me.r0;omega⟩,rfl⟩
 ·subst er;exact fix (hi:=0) d6 (by lia) gs me (by lia) (λg hg=>(gb g hg).1) (λg hg=>(gb g hg).2) q
abbrev cC:Nat->Nat
 |0=>100
 |n+1=>14 * (cC n+2)+100
structure PB(n:Nat)(t:Dw.D):Prop where
 ft:Dw.Fit n 14 t
 bd:Dw.Bd (10 ^ 31) (cC n) t
theorem NR{n:Nat}:cC n<=cC (n+1):=by rw[cC];lia
theorem PB.up{n:Nat}{t:Dw.D}(h:PB n t):PB (n+1) t:=⟨h.ft.up (Ym _) (Zf _),h.bd.bn,ZI h.bd.sz NR⟩
theorem PB.tup{n:Nat}{ts:List Dw.D}(hl:ts.length<=14)(h:∀t ∈ ts,PB n t):PB (n+1) (.tup ts):=by
 refine⟨Dw.Fit.tup hl λt ht=>(h t ht).ft,Dw.GM (λt ht=>(h t ht).bd.bn) ?_⟩;have:=AN (c:=cC n) λt ht=>(h t ht).bd.sz;have h2:ts.length * (cC n+2)<=14 * (cC n+2):=Xu _ hl;rw[cC]
 lia
theorem uH{t:Dw.D}(hd:Dw.dep t=0)(hw:Dw.wid t=0)(hb:Dw.bnd (10 ^ 31) t)(hs:Dw.sz t<=100):PB 0 t:=⟨⟨by lia,by lia⟩,hb,hs⟩
theorem oU{i:Int}(h:0<=i/\i<=99999999):PB 0 (.int i):=uH (by simp only[Dw.dep]) (by simp only[Dw.wid]) (by simp only[Dw.bnd];lia) (by simp only[Dw.sz];decide)
theorem OP:PB 0 .non:=uH (by simp only[Dw.dep]) (by simp only[Dw.wid]) (by simp only[Dw.bnd]) (by simp only[Dw.sz];decide)
theorem PB.shw{t:Dw.D}(h:PB 4 t):Shw t:=KL h.ft h.bd (by decide) (by decide) (by decide) (by decide)
theorem oV{l:List Int}(h:∀x ∈ l,0<=x/\x<=9999)(hl:l.length<=14):PB 1 (.tup (l.map Dw.D.int)):=PB.tup (by rw[Za];exact hl) λt ht=>by
 obtain⟨x,hx,rfl⟩:=ZD.mp ht;exact oU (by have:=h x hx;lia)
theorem AQ{M:List (List Int)}(hl:M.length<=14)(h:∀r ∈ M,r.length<=14/\∀x ∈ r,0<=x/\x<=9999):PB 2 (.tup (Dw.je M)):=PB.tup (by unfold Dw.je;rw[Za];exact hl) λt ht=>by
 unfold Dw.je at ht;obtain⟨r,hr,rfl⟩:=ZD.mp ht;exact oV (h r hr).2 (h r hr).1
theorem AR{a b:Int}(h1:0<=a/\a<=9999)(h2:0<=b/\b<=9999):PB 1 (.tup [.int a,.int b]):=oV (l:=[a,b]) (λx hx=>by
 rcases Zn.mp hx with rfl |hx
 ·exact h1
 ·rw[Zx.mp hx];exact h2) (by show 2<=14;decide)
theorem cS{n:Nat}{t:Dw.D}{ts:List Dw.D}(h:PB n t)(q:∀t ∈ ts,PB n t):∀u ∈ t::ts,PB n u:=λu hu=>by
 rcases Zn.mp hu with rfl |hu
 ·exact h
 ·exact q u hu
theorem AS{n:Nat}:∀u ∈ ([]:List Dw.D),PB n u:=λu hu=>by cases hu
theorem EI(h:bL K):Shw (skT K):=by
 have g7:=h.g7;have m4:=h.me.m4;have h4:=h.me.h4;have r8:=h.me.r8;have r0:=h.me.r0;have s60:=h.me.s60;have s0:=h.me.s0;have lF:=Dw.ca K.G.length K.F h.nd h.bd;have rowM:PB 2 (.tup (Dw.je K.M)):=AQ (by lia) λr hr=>⟨by rw[h.me.mat.row r hr];lia,λx hx=>by have:=h.me.mat.ent r hr x hx;lia⟩
 have rowG:PB 2 (.tup (Dw.je K.G)):=AQ (by lia) λr hr=>by
  obtain⟨kd,jo,fi,la,du,we,ri,rfl,hb⟩:=h.gb r hr;refine⟨by show 7<=14;decide,λx hx=>?_⟩;simp only[Zn,Xb,or_false] at hx;omega
 have rowH:PB 2 (.tup (K.H.map Dw.mo)):=PB.tup (by rw[Za];lia) λt ht=>by
  obtain⟨z,hz,rfl⟩:=ZD.mp ht;have a:=jA h.me.ris hz;have b:=h.me.hb z hz;exact AR (by lia) (by lia)
 have fxs:PB 1 (.tup (K.F.map Dw.D.int)):=oV (λx hx=>by have:=h.bd x hx;lia) (by lia)
 have ah:PB 1 (ahT K.ah):=by
  cases hq:K.ah with
  |none=>exact OP.up
  |some z=>
   have:=h.ah z hq;exact AR (by lia) (by lia)
 exact(PB.tup (n:=3) (by show 4<=14;decide) (cS (PB.tup (by show 4<=14;decide) (cS (oU (by lia)).up.up (cS (oU (by lia)).up.up (cS rowM (cS rowH AS))))) (cS ah.up.up (cS rowG.up (cS fxs.up.up AS))))).shw
theorem FV(sk:bL K):∀ (os:List Int) (a:Option (Int × Int)) (L R:List (Int × Int)),(∀g ∈ os,0<=g/\g < K.G.length)->(∀y ∈ L,(0<=y.1/\y.1 < K.G.length)/\y.2<=10692)->rn (ntl K) os a L = .inr R->∀y ∈ R,(0<=y.1/\y.1 < K.G.length)/\y.2<=10692
 |[],_,L,R,_,hL,e=>by cases e;exact hL
 |g::os,a,L,R,ho,hL,e=>by
  have hg:=ho g Zi;rw[rn] at e;split at e
  ·cases e
  ·rename_i m hs;split at e
   ·cases e
   ·refine FV sk os _ _ R (λx hx=>ho x (Zg _ hx)) (λz hz=>?_) e;rcases ZQ.mp hz with hz |hz
    ·exact hL z hz
    ·rw[Zx.mp hz];refine⟨hg,?_⟩;unfold Sn.step at hs;rw[(sQ hg.1 hg.2).1] at hs;split at hs
     ·cases hs
     ·rename_i hc;cases hs;rw[YH,decide_eq_true_eq] at hc;exact Int.le_of_not_gt λz=>hc (.inl z)
theorem NS(sk:bL K){l:Bool}:∀ (R:List (Int × Int)),(∀y ∈ R,(0<=y.1/\y.1 < K.G.length)/\y.2<=10692)->0<=W (ntl K) l R 0/\W (ntl K) l R 0<=10692
 |[],_=>⟨ZO _,show(0:Int)<=10692 by decide⟩
 |y::R,h=>by
  have ih:=NS sk (l:=l) R λz hz=>h z (Zg _ hz);have h0:=h y Zi;have hi:y.1.toNat < K.G.length:=by lia
  obtain⟨kd,jo,fi,la,du,we,ri,eg,hb⟩:=sk.gb K.G[y.1.toNat] (ZM hi);have e3:gi K.G y.1 3=la:=by unfold gi;rw[gEG hi,eg];rfl
  have s0:=sk.me.s0;have c:=FR (m:=y.2) h0.1.1 h0.1.2;rw[e3] at c;have e:W (ntl K) l (y::R) 0=if W (ntl K) l R 0 > cst (ntl K) y.1 y.2 then W (ntl K) l R 0 else cst (ntl K) y.1 y.2:=rfl
  rw[e,c]
  repeat' split
  all_goals lia
abbrev NT:Option Int->Dw.D
 |none=>.non
 |some x=>.int x
theorem KM:∀ {o:Option Int},TD p S (NT o) (df o)
 |none=>zw
 |some x=>bp
abbrev cT(K:Sky):List (Option Int):=(lvl K (lft K K.F).length [K.F]).map λos=>num (ntl K) true (rn (ntl K) os K.ah [])
theorem AU(os:List Int):lft (ntl K) os=lft K os:=by
 unfold lft;rw[ie]
theorem NU:dg (ntl K)=dg K:=by
 funext os
 unfold dg;rw[AU]
theorem FW:∀ (n:Nat) (rows:List (List Int)),lvl (ntl K) n rows=lvl K n rows
 |0,_=>rfl
 |n+1,rows=>by rw[lvl,lvl,NU,FW n]
theorem m8(sk:bL K):Lst ((cT K).filterMap id) (wM (fD (ntl K) true)):=by
 have:=AI (K:=ntl K) (l:=true) (λg hg=>?_) (by
  have:=jC sk;rw[AU,ie];exact this)
 ·unfold cT;rw[Yu];rw[AU,FW] at this;exact this
 ·obtain⟨hb,hn⟩:=NW.mp hg;rw[ie] at hb;have hi:g.toNat < K.G.length:=by lia
  rw[FP];unfold gi;rw[gEG hi];rcases sk.rg g.toNat _ (gEG hi) with h |h
  ·exact h
  ·rw[show((g.toNat:Nat):Int)=g by lia] at h;exact absurd h hn
theorem AV(sk:bL K){os:List Int}(h:os ∈ lvl K (lft K K.F).length [K.F]):(∀g ∈ os,0<=g/\g < K.G.length)/\os.length<=7:=by
 have r:=oT (K:=K) (lft K K.F).length K.F.length [K.F] (λos h=>by rw[Zx.mp h];exact⟨sk.bd,rfl⟩) os h;have:=jC sk;have:=r.ln;have:=sk.g7;exact⟨r.bd,by lia⟩
theorem EJ(sk:bL K):Shw (NT (wM (fD (ntl K) true))):=by
 have h:=m8 sk;cases ho:wM (fD (ntl K) true) with
 |none=>exact OP.up.up.up.up.shw
 |some x=>
  rw[ho] at h;obtain⟨o,hm,e⟩:=Yh.mp h.1;have e:o=some x:=e;subst e;obtain⟨os,hos,e⟩:=ZD.mp hm;have e:num (ntl K) true (rn (ntl K) os K.ah [])=some x:=e;cases hr:rn (ntl K) os K.ah [] with
  |inl j=>rw[hr] at e;cases e
  |inr R=>
   rw[hr] at e;cases e;have:=NS sk (l:=true) R (FV sk os _ [] R (AV sk hos).1 (λ_ h=>by cases h) hr);exact(oU (by lia)).up.up.up.up.shw
theorem AW{α:Type}{nx:Nxt}{tg:Tg}{c:XA}{ρ:Rho}{Q:List D->Sto->Prop}(l:List α)(E:α->D)(f:α->List D)(hl:l.length<=100000)(hf:∀a ∈ l,(f a).length<=1)
  (hnx:∀i S',Sm S S'->nx i S'=some ((l[i]?).map E))
  (step:∀ (i:Nat) a S',l[i]?=some a->Sm S S'->∃ρ1,ax tg (E a) ρ=some ρ1/\Ok (c ρ1 S') λes S1=>es=f a/\Sm S' S1) (q:∀S',Sm S S'->Q (l.flatMap f) S') :
  Ok (be nx tg c ρ LF 0 S) λes S2=>es.length<=100000/\Q es S2:=by
 refine iM l.length (λi=>((l[i]?).map E).getD .non) (λi acc S'=>Sm S S'/\acc=(l.take i).flatMap f) (λi acc S' hi iv=>?_) hl (λi acc S' hi iv=>?_) (λes S' iv=>?_) ⟨Sm.refl S,rfl⟩
 ·rw[hnx i S' iv.1];split
  ·rename_i h;rw[gEG h];rfl
  ·rename_i h;rw[Zs (by lia)];rfl
 ·obtain⟨sm,rfl⟩:=iv;obtain⟨ρ1,e2,z⟩:=step i l[i] S' (gEG hi) sm;refine⟨ρ1,by rw[gEG hi];exact e2,z.mono λes S1 ⟨e,s⟩=>⟨sm.trans s,?_⟩⟩;rw[e,ZT hi,Yc];simp
 ·obtain⟨sm,rfl⟩:=iv;rw[YB];refine⟨?_,q S' sm⟩
  have:∀m:List α,(∀a ∈ m,(f a).length<=1)->(m.flatMap f).length<=m.length:=λm=>by
   induction m with
   |nil=>intro _;exact Zf _
   |cons a m ih=>
    intro h;rw[Z0,Zh,Zv];have:=h a Zi;have:=ih λb hb=>h b (Zg _ hb)
    lia
  have:=this l hf
  lia
theorem EK:∀ {x:Int} {xs:List Int},kq ((x::xs).map D.int)=none:=rfl
theorem KN{o:Option Int}(ns:List Int)(h:Lst ns o):jj false (ns.map D.int) S=some (df o,S):=by
 have e:=Lst.one (AB ns) h;cases ns with
 |nil=>rw[<-e];rfl
 |cons x xs=>
  unfold jj Ch;rw[EK,fN];show some (List.getD _ (argBest (iT (x::xs)) _) _,S)=_;rw[Za,Zt,Zo,e];cases o <;> rfl
def Oth(K:Sky)(m:Nat)(T:List (List Int)):Prop:=T.length=m/\∀ (j:Nat) r,T[j]?=some r->∃kd jo fi la du we ri t:Int,K.G[j]?=some [kd,jo,fi,la,du,we,ri]/\0<=t/\t < 40/\r=[kd,jo,fi,fi+t,du,we,ri]
theorem Oth.snoc{m:Nat}{T:List (List Int)}{kd jo fi la du we ri t:Int}(h:Oth K m T)(hg:K.G[m]?=some [kd,jo,fi,la,du,we,ri])(t0:0<=t)(t1:t < 40):Oth K (m+1) (T++[[kd,jo,fi,fi+t,du,we,ri]]):=by
 refine⟨by rw[Zh,Zm,h.1],λj r hj=>?_⟩;by_cases c:j < T.length
 ·rw[Zu c] at hj;exact h.2 j r hj
 ·rw[Zp (by lia)] at hj
  have e:j - T.length=0:=by
   have:=(Zb.mp hj).1;rw[Zm] at this
   lia
  have ej:j=m:=by have:=h.1;lia
  rw[e] at hj;cases hj;rw[ej];exact⟨kd,jo,fi,la,du,we,ri,t,hg,t0,t1,rfl⟩
theorem Oth.sk{T:List (List Int)}(h:Oth K K.G.length T)(sk:bL K)(gb:∀g ∈ K.G,GB K.M.length K.r K.s g):bL ⟨K.r,K.s,K.M,K.H,K.ah,T,K.F⟩:=by
 refine⟨sk.me,by show T.length<=7;rw[h.1];exact sk.g7,λg hg=>?_,sk.nd,λx hx=>by show 0<=x/\x < (T.length:Int);rw[h.1];exact sk.bd x hx,λj g hg=>?_,sk.ah⟩
 ·obtain⟨j,hj⟩:=YA hg;obtain⟨kd,jo,fi,la,du,we,ri,t,hg2,t0,t1,rfl⟩:=h.2 j g hj;obtain⟨kd',jo',fi',la',du',we',ri',e,hb⟩:=gb _ (Ze hg2);cases e;exact⟨kd,jo,fi,fi+t,du,we,ri,rfl,by show 0<=kd/\kd < (K.M.length:Int)/\0<=jo/\jo+K.s<=fi/\fi<=fi+t/\fi+t<=9999/\0<=du/\du<=9999/\0<=we/\we<=99/\0<=ri/\ri<=K.r;omega⟩
 ·obtain⟨kd,jo,fi,la,du,we,ri,t,hg',t0,t1,rfl⟩:=h.2 j g hg;have z:=sk.rg j _ hg';exact z
theorem main(ns:List Int)(hl:ns.length<=63):∃S',evC ae 40 50 [.ref 0] [.frz (ns.map D.int)]=some (.bl true,S'):=by
 have key:Ok (evC ae 40 50 [.ref 0] [.frz (ns.map D.int)]) λd _=>d = .bl true:=by
  refine aA (d:=uh) (ρ:=[some (.ref 0),none,none,none,none,none,none,none,none,none,none,none,none,none]) rfl rfl ?_;dsimp only[uh,Fw];k_is;have ln:ai cB (.ref 0) [Ob.frz (ns.map D.int)]=some (.int ns.length,[Ob.frz (ns.map D.int)]):=by simp only[ai,ay,ak,List.getElem?_cons_zero,ZA,cB,Za]
  refine aa ln ?_;k_is
  obtain⟨n,en,hn⟩:∃n:Nat,(if (if (5:Int) < ns.length then (5:Int) else ns.length) > 1 then (if (5:Int) < ns.length then (5:Int) else ns.length) else 1)=(n:Int)/\n<=5:=by
   refine⟨(if (if (5:Int) < ns.length then (5:Int) else ns.length) > 1 then (if (5:Int) < ns.length then (5:Int) else ns.length) else 1).toNat,?_,?_⟩
   ·split <;> split <;> omega
   ·split <;> split <;> omega
  rw[en];refine⟨eu (by lia) (by lia),?_⟩;rw[ZE];refine hZ (by lia) (λi ρ S'=>S'[0]?=some (.frz (ns.map D.int))/\∃r:Rho,r.length=13/\ρ=some (.ref 0)::r) (λi ρ S1 hi iv=>?_) (λρ S1 iv=>?_) ⟨rfl,_,rfl,rfl⟩
  ·obtain⟨h1,r,lr,rfl⟩:=iv
   match r,lr with
   |[u1,u2,u3,u4,u5,u6,u7,u8,u9,u10,u11,u12,u13],_=>
   refine⟨_,rfl,?_⟩;rw[Xj];k_is;refine⟨rfl,Eg (k:=38) h1 λx=>?_⟩;refine⟨rfl,Kr (k:=38) λm=>?_⟩;have n0:S1.length ≠ 0:=λz=>by rw[ZV.mp z] at h1;cases h1
   have h2:=Sm.app S1 [Ob.lst [D.int m]] _ _ h1;have pt:Pot S1.length (S1++[Ob.lst [D.int m]]):=⟨m,aK⟩;generalize S1++[Ob.lst [D.int m]]=S2 at *;generalize S1.length=p at *;k_is;refine⟨rfl,EH (k:=35) pt λK S3 d3 sk gb=>?_⟩;have h3:=d3.kp _ _ (Ne.symm n0) h2;have g7:=sk.g7;rw[show skE K = .tup [meE K,ahE K.ah,.tup (K.G.map az),.tup (K.F.map D.int)] from rfl];k_is;refine⟨rfl,aG d3.pot (by decide) (by decide) λz S4 z0 z1 d4=>?_⟩;k_is
   obtain⟨fa,ef,f0,f1⟩:∃f:Int,atI [D.int 1,D.int 5,D.int 40] z=some (D.int f)/\0 < f/\f<=40:=by
    have:z=0\/z=1\/z=2:=by lia
    rcases this with rfl |rfl |rfl
    ·exact⟨1,rfl,by decide,by decide⟩
    ·exact⟨5,rfl,by decide,by decide⟩
    ·exact⟨40,rfl,by decide,by decide⟩
   refine⟨_,ef,?_⟩;k_is;have d34:=d3.trans d4;refine iM K.G.length (λi=>az (K.G.getD i [])) (λi acc S'=>Dr p S2 S'/\∃T,acc=T.map az/\Oth K i T) (λi acc S' hi _=>?_) (by lia) (λi acc S' hi iv=>?_) (λes S' iv=>?_) ⟨d34,[],rfl,rfl,λj r h=>by cases h⟩
   ·show some (K.G.map az)[i]?=_;rw[Zo];split
    ·rename_i h;rw[gEG h,Zt,gEG h];rfl
    ·rename_i h;rw[Zs (by lia)];rfl
   ·obtain⟨d5,T,rfl,ot⟩:=iv;obtain⟨kd,jo,fi,la,du,we,ri,eg,hb⟩:=gb K.G[i] (ZM hi);have eG:K.G[i]?=some [kd,jo,fi,la,du,we,ri]:=by rw[gEG hi,eg]
    refine⟨_,rfl,?_⟩;rw[Zt,eG];rw[show az ((some [kd,jo,fi,la,du,we,ri]).getD []) = .tup [.int kd,.int jo,.int fi,.int la,.int du,.int we,.int ri] from rfl];k_is;refine aa (show ixS (.tup [.int kd,.int jo,.int fi,.int la,.int du,.int we,.int ri]) (.int 2) S'=some (.int fi,S') from rfl) ?_;refine⟨rfl,aG d5.pot f0 (by lia) λt S6 t0 t1 d6=>?_⟩;k_is;rw[show gk [D.int kd,.int jo,.int fi,.int la,.int du,.int we,.int ri] none (some 3)=[.int kd,.int jo,.int fi] from rfl,show gk [D.int kd,.int jo,.int fi,.int la,.int du,.int we,.int ri] (some 4) none=[.int du,.int we,.int ri] from rfl];refine⟨(by decide:3+1<=1000),(by decide:4+3<=1000),?_⟩;exact⟨d5.trans d6,T++[[kd,jo,fi,fi+t,du,we,ri]],by rw[ZP];rfl,ot.snoc eG t0 (by lia)⟩
   ·obtain⟨d5,T,rfl,ot⟩:=iv;refine⟨by rw[Za,ot.1];lia,?_⟩;refine aa (show cL false _ S'=some (.tup _,S') from rfl) ?_;have h5:=d5.kp _ _ (Ne.symm n0) h2;k_is
    have at2:∀ (i:Nat) d,[D.tup [meE K,ahE K.ah,.tup (K.G.map az),.tup (K.F.map D.int)],D.tup [meE K,ahE K.ah,.tup (T.map az),.tup (K.F.map D.int)]][i]?=some d->∃K',d=skE K'/\bL K':=λi d h=>by
     match i with
     |0=>cases h;exact⟨K,rfl,sk⟩
     |1=>cases h;exact⟨⟨K.r,K.s,K.M,K.H,K.ah,T,K.F⟩,rfl,ot.sk sk gb⟩
     |_+2=>cases h
    refine Ac (by show 2<=100000;decide) (λ_ ρ S'=>S'[0]?=some (.frz (ns.map D.int))/\∃r:Rho,r.length=13/\ρ=some (.ref 0)::r) (λi' d ρ S6 hd iv=>?_) (λρ S6 iv=>?_) ⟨h5,_,rfl,rfl⟩
    ·obtain⟨h6,r,lr,rfl⟩:=iv
     match r,lr with
     |[u1,u2,u3,u4,u5,u6,u7,u8,u9,u10,u11,u12,u13],_=>
     obtain⟨K',rfl,sk'⟩:=at2 i' d hd;refine⟨_,rfl,?_⟩;k_is;refine⟨rfl,wQ (k:=38) sk' λN S7 s7 hN=>?_⟩
     have lN:(lvl K' (lft K' K'.F).length [K'.F]).length<=5040:=by
      have:=jC sk';have g7:=sk'.g7;rw[oQ (K:=K') _ [K'.F] (lft K' K'.F).length λos h=>by rw[Zx.mp h],Zm];have:=FT (lft K' K'.F).length (by lia) (lft K' K'.F).length (by lia)
      lia
     k_is;refine⟨by rw[aM hN];rfl,?_⟩;refine AW (lvl K' (lft K' K'.F).length [K'.F]) osE (λos=>[df (num (ntl K') true (rn (ntl K') os K'.ah []))]) (by lia) (λ_ _=>Zf _) (ei hN) (λi os S' ho sm=>⟨_,rfl,?_⟩) λS8 s8=>?_
     ·k_is;have ro:=AV sk' (Ze ho);exact⟨rfl,EC (k:=36) sk' ro.1 ro.2 λS9 s9=>⟨rfl,s9⟩⟩
     ·rw[ce];have e:(lvl K' (lft K' K'.F).length [K'.F]).map (λos=>df (num (ntl K') true (rn (ntl K') os K'.ah [])))=(cT K').map df:=by unfold cT;rw[ZU];rfl
      have ll:(cT K').length<=5040:=by unfold cT;rw[Za];exact lN
      rw[e];have lst:=m8 sk';have s9:Sm S6 (S8++[Ob.lst ((cT K').map df)]):=(s7.trans s8).trans (Sm.app _ _);have a9:(S8++[Ob.lst ((cT K').map df)])[S8.length]?=some (.lst ((cT K').map df)):=aK;generalize S8++[Ob.lst ((cT K').map df)]=S9 at *;generalize S8.length=N9 at *;k_is;refine⟨by rw[aM a9];rfl,?_⟩;refine AW (cT K') df (λo=>wK D.int o) (by lia) (λo _=>by cases o <;> simp[wK]) (ei a9) (λi o S' ho sm=>⟨_,rfl,?_⟩) λSa sa=>?_
      ·k_is;cases o with
       |none=>
        refine aa (show am .isnot (df none) .non S'=some (.bl false,S') from rfl) ?_;k_is;exact⟨rfl,Sm.refl _⟩
       |some x=>
        refine aa (show am .isnot (df (some x)) .non S'=some (.bl true,S') from rfl) ?_;k_is;exact⟨rfl,Sm.refl _⟩
      ·rw[show((cT K').flatMap λo=>wK D.int o)=((cT K').filterMap id).map D.int from lm id D.int (cT K')];refine aa (KN _ lst) ?_;have rs:=λS=>uF (p:=0) (S:=S) (NC (K:=K')) (EI sk');have rt:=λS=>uF (p:=0) (S:=S) (KM (o:=wM (fD (ntl K') true))) (EJ sk');generalize (Dw.aZ (skT K')).shown=w at *;k_is;refine aa (rs Sa) ?_;k_is;refine⟨by decide,?_⟩;have ha:=(s9.trans sa) _ _ h6;refine hZ (by decide) (λ_ ρ S'=>S'[0]?=some (.frz (ns.map D.int))/\∃g,ρ=[some (.ref 0),u1,u2,u3,u4,u5,u6,u7,u8,some (skE K'),some (.ref N9),some (df (wM (fD (ntl K') true))),some (.str w),g]) (λt ρ Sb ht iv=>?_) (λρ Sb iv=>?_) ⟨ha,_,rfl⟩
       ·obtain⟨hb,g,rfl⟩:=iv;refine⟨_,rfl,?_⟩;k_is;refine⟨rfl,wN (k:=18) sk' λSc sc=>aa (rt Sc) ?_⟩;refine aa (rt Sc) (aa (uG _ _ Sc) ?_);rw[beq_self_eq_true];k_is;refine aa (rs Sc) (aa (uG _ _ Sc) ?_);rw[beq_self_eq_true];k_is;exact⟨sc _ _ hb,_,rfl⟩
       ·obtain⟨hb,g,rfl⟩:=iv;k_is;exact⟨hb,_,rfl,rfl⟩
    ·obtain⟨h6,r,lr,rfl⟩:=iv;k_is;exact⟨h6,r,lr,rfl⟩
  ·obtain⟨h1,r,lr,rfl⟩:=iv;k_is
 obtain⟨d,S',e,rfl⟩:=key;exact⟨S',e⟩
end Lw
theorem PySem.Challenge.cw_downrings_k55_how_much_longer_holds : PySem.Challenge.rw_downrings_k55_how_much_longer.Holds :=
 Lw.head Lw.main
