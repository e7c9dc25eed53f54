import PyProof.Rows.All
import KE.KIsAll
import KE.KMinBuiltin
import KE.KRevSl
import KE.KSortTup
import KE.KStateDown
import PySem.Challenge.RW_downrings_k36_best_by_all_orders
set_option Elab.async false
set_option linter.all false
set_option maxRecDepth 100000
set_option maxHeartbeats 4000000
local macro_rules|`(abbrev $n:declId $s:optDeclSig $v:declVal)=>`(noncomputable def $n $s:optDeclSig $v:declVal)
open List renaming length_map → Za, getElem?_eq_some_iff → Zb, mem_cons_of_mem → Zf, length_append → Zg, mem_cons_self → Zh, mem_of_getElem? → Zi, length → Zj, size_toArray → Zk, range → Zl, length_singleton → Zm, mem_cons → Zn, getElem?_append_right → Zo, getElem?_set_ne → Zp, length_cons → Zr, getElem?_map → Zs, getElem?_append_left → Zt, replicate → Zu, getElem?_eq_none → Zv, mem_singleton → Zy, map_cons → Zz, length_range → ZC, map_append → ZD, getD_eq_getElem?_getD → ZF, mem_append_right → ZG, mem_map → ZL, mem_append → ZO, getElem_mem → ZQ, mem_append_left → ZR, getElem?_set_self → ZS, take_succ_eq_append_getElem → ZT, length_reverse → ZU, mem_range → ZV, mem_filter → ZW, length_set → ZX, length_nil → Z1, zip_cons_cons → Z2, length_eq_zero_iff → Z3, append_assoc → Z4, reverse_cons → Z5, take_of_length_le → Z6, map_map → Z7, replicate_succ → Z8, append_nil → Z9, getElem?_eq_none_iff → Yb, prefix_refl → Yd, map_nil → Ye, filterMap_cons → Yg, all_cons → Yh, all_eq_true → Yi, drop → Yj, mem_flatMap → Yk, mem_filterMap → Yl, nodup_cons → Yn, flatten_cons → Yo, getElem?_set → Yq, getElem?_range → Yr, length_take → Ys, getElem?_replicate → Yt, eraseIdx_cons_succ → Yu, lookup_cons → Yv, getElem?_cons_succ → Yw, prefix_append → Yx, pairwise_cons → Yy, find?_cons → Yz, any_cons → YA, nodup_append → YB, filter_cons → YD, drop_length → YE, drop_eq_getElem_cons → YF, ext_getElem? → YI, flatMap_cons → YK, drop_eq_nil_of_le → YL, pairwise_map → YM, foldl_append → YN, eraseIdxIfInBounds_toArray → YO, length_filter_le → YR, getElem_inj → YS, length_drop → YT, countP_cons → YU, take_length → YV, getLast?_append → YX, foldl_cons → Y0, map_congr_left → Y1, all_map → Y4, forIn_nil → Y8, map_inj_left → Xc, set_comm → Xd, any_eq_true → Xe, not_mem_nil → Xg, toArray → Xh, of_mem_zip → Xj, nil_append → Xk, range_succ → Xl, length_replicate → Xm, eq_nil_or_concat → Xo, concat_eq_append → Xp, nodup_nil → Xr, getElem?_of_mem → Xs, flatMap_append → Xv, replicate_zero → Xw, length_pos_iff → Xy, filter_eq_self → Xz, filterMap_map → XD, flatten_nil → XU, cons_append → XW, nodup_range → XY, map_reverse → XZ, mem_reverse → X0, forIn_cons → X1, foldl → X7, take_zero → X8, map_take → Wc, cons → Wd, sum → Wi
open PySem.Heap renaming get?_push_of_some → Zc, lt_size → Zq, get?_push_size → Zx, get?_update_other → ZH, get?_update_self → Yc, size_push → Ym, size_update → Xf, get?_update_ne → Xx, get?_push_ne → XJ
open Nat renaming le_refl → Zd, lt_of_lt_of_le → ZB, ne_of_lt → ZE, le_trans → ZI, lt_irrefl → ZM, sub_self → ZZ, le_succ → Yp, lt_succ_self → YC, add_assoc → YG, lt_succ_of_lt → YJ, mul_le_mul_right → YY, le_of_lt → Y2, succ_mul → Y3, zero_add → Y5, le_of_succ_le → Y9, zero_le → Xa, ne_of_gt → XH, succ_le_succ → XN, succ_ne_self → XQ, le_max_right → XR, min_eq_right → XV, le_add_right → XX, le_max_left → X2, min_eq_left → X3, not_lt_zero → X6, mul_le_mul → X9, zero_mul → Wf, log2_lt → Wh
open Bool renaming false_ne_true → Ze, false_eq_true → ZN, or_eq_true → YH, beq_eq_decide_eq → YQ, not_true → YW, eq_iff_iff → YZ, false_and → Y7, and_eq_true_iff → Xu, true_and → XB, and_self → XC, or_false → Wa, false_or → Wb
open Array renaming length_toList → Zw, forIn_toList → Y6, getElem?_toList → Xn, mem_toList_iff → Xq
open Option renaming map_some → ZA, map_eq_some_iff → ZK, getD_some → ZY, isSome_iff_exists → Z0, isSome_map → Xb, isSome_some → XF, getD_none → XM
open Int renaming toNat_natCast → ZJ, le_refl → ZP, le_trans → Xi, emod_lt_of_pos → XG, emod_nonneg → X4, le_antisymm → X5, ediv_one → We, zero_add → Wg
open PyProof.Rows renaming boot_enumerate → Wj, boot_list → Wk, boot_max → Wl, boot_min → Wm, boot_sorted → Wn, boot_tuple → Wo, callWith_type1 → Wp, slot_tuple_getitem → Wq
open PySem.Calls renaming Name_function_global → Wr, callWith_builtin → Ws
open PySem renaming Comprehension → Wt, FuncData → WN, IsRangeIter → WO, NameKind → WQ, Operator → WR, Spec → W5, assignEach → Vm, assignInOrder → Vn, attributeBase → Vo, backToKw → Vp, behindInMarks → Vq, binaryOp → Vr, bindName → Vs, bootBuiltins → Vt, builtinsNs → Vu, callSpecialIfBoundUnlessNone? → Vv, call_meets → Vw, cellsFrom → Vx, codeAny_builtin → Vy, codeAny_mono → Vz, compareOp → VA, concat_meets → VB, eqIsQuiet → VC, eqIsQuiet_byValue → VE, evalPart_none → VF, foldedSetIterable → VG, intItems → VH, intItems_at → VI, isSubtype_tuple_tuple → VJ, keywordEach → VL, letOwnedTupleGo → VM, mainGlobals → VN, mem_of_lookup → VO, newFunctionEnv → VP, noFill_tuple_add → VQ, not_mem_of_deeper → VR, numAt_eq → VS, nums_intItems → VT, old_kept → VU, plainId_quiet → VV, pushCells → VW, pushCells_keeps → VX, richCompare → VY, richCompare_meets_room → VZ, seqIndex_neg → V0, seqIndex_of → V1, seqItems? → V2, seq_tuple_add → V3, sizeLine_eq → V4, sliceBounds → V5, starEach → V6, strLen_append → V7, swappedStores → V8, swapsWith → V9, swapsWithSole → Ua, sysModules → Ub, textFrom → Uc, updateSeq → Ud, wpAny_Call_Name_kw → Ue, wpAny_bind → Uf, wpAny_bindName → Ug, wpAny_call_entry → Uh, wpAny_comprehension_free → Ui, wpAny_eqBool_int → Uj, wpAny_execs_nil → Uk, wpAny_field → Ul, wpAny_forIn_list → Um, wpAny_getItem_list_slice → Uo, wpAny_holding → Up, wpAny_letGo → Uq, wpAny_letOwnedTupleGo_enum → Ur, wpAny_loadPart' → Us, wpAny_mono → Ut, wpAny_newObj_type → Uu, wpAny_of_eq → Uv, wpAny_passesOwn → Uw, wpAny_pure → Ux, wpAny_pyIter_enum → Uy, wpAny_pyIter_list → Uz, wpAny_pyIter_rangeiter → UA, wpAny_pyIter_tuple → UB, wpAny_pyNext_enum_endD → UC, wpAny_pyNext_enum_itemD → UD, wpAny_pyNext_range_end → UE, wpAny_rule → UF, wpAny_seqItems → UG, wpAny_sequenceKey → UH, wpAny_specialOf → UI, wpAny_standAt → UJ, wpAny_truthy_bool → UK, wpAny_tryCatch → UL, wpAny_typeOf → UM, wpAny_updateSeq → UN
open PySem.F renaming args_tuple_add_2 → Wu, args_tuple_iterator_next_1 → Wv, args_tuple_lt_2 → Ww, entry_max_loop → Wx, entry_min_loop → Wy, entry_tuple_add → Wz, entry_tuple_iterator_next → WA, entry_tuple_lt → WB, plainAttrs_list → WC, plain_max_loop → WD, plain_min_loop → WE, slot_NoneType_hash → WF, slot_list_append → WG, slot_list_pop → WH, slot_tuple_add → WI, slot_tuple_count → WJ, slot_tuple_iterator_next → WK, slot_tuple_lt → WL, type_list_pop → WM
open PySem.PyData renaming depth → WT, depthAll → WU, depthKv → WV, shown → WW, shownAll → WX
open PySem.SeqAt renaming EqAt → WY, RcAt → WZ, RcNeAt → W0, in_listAt → W1, in_tupleAt → W2, notIn_listAt → W3, notIn_tupleAt → W4
open PySem.W renaming Frag → W6, cellsFrom_some → W7, codeIn → W8, findIn → W9, fnOf → Va, instObj → Vb, keepIn → Vc, kia_one → Ve, kitOne → Vf, kitx_dict → Vg, kitx_list → Vh, lookIn → Vi, methodObj → Vj, plainGet → Vk, rangeSize_down → Vl
theorem gEG {α:Type _} {l:List α} {i:Nat} (h:i < l.length):l[i]?=some l[i]:=List.getElem?_eq_getElem h
theorem bAE (a b:Bool):((a && b)=true)=(a=true/\b=true):=Bool.and_eq_true a b
namespace L2
open PySem PySem.Spec PyProof.Rows
@[inline]abbrev Key:=Sum Int Str
abbrev f7:Key->Value->Bool
 |.inl k,v=>Value.isInt k v
 |.inr x,v=>Value.isStrOf x v
abbrev Lq(w:World):Key->Int
 |.inl k=>hashInt k
 |.inr x=>hashStr w x
theorem aq:∀ {k:Key} {v:Value},f7 k v=true->(∃i t,k=Sum.inl i/\v=Value.int i t)\/(∃x t,k=Sum.inr x/\v=Value.str x t)
 |.inl i,v,h=>by
  obtain⟨t,e⟩:=Value.isInt_shape (k:=i) (v:=v) h;exact .inl ⟨i,t,rfl,e⟩
 |.inr x,v,h=>by
  obtain⟨t,e⟩:=Value.isStrOf_shape (x:=x) (v:=v) h;exact .inr ⟨x,t,rfl,e⟩
theorem vf(i:Int)(t:Tok):f7 (.inl i) (.int i t)=true:=by simp[f7,Value.isInt]
theorem vg(x:Str)(t:Tok):f7 (.inr x) (.str x t)=true:=by simp[f7,Value.isStrOf]
theorem Gp(a b:Int):decide ((Sum.inl a:Key)=Sum.inl b)=(a == b):=by
 by_cases e:a=b
 ·subst e;simp
 ·have h:¬ (Sum.inl a:Key)=Sum.inl b:=λq=>e (Sum.inl.inj q);rw[decide_eq_false h];exact(beq_eq_false_iff_ne.mpr e).symm
theorem Gq(a b:Str):decide ((Sum.inr a:Key)=Sum.inr b)=decide (a=b):=by
 by_cases e:a=b
 ·subst e;simp
 ·have h:¬ (Sum.inr a:Key)=Sum.inr b:=λq=>e (Sum.inr.inj q);rw[decide_eq_false h,decide_eq_false e]
theorem xg(a:Int)(b:Str):decide ((Sum.inl a:Key)=Sum.inr b)=false:=decide_eq_false (λq=>nomatch q)
theorem xh(a:Str)(b:Int):decide ((Sum.inr a:Key)=Sum.inl b)=false:=decide_eq_false (λq=>nomatch q)
abbrev aU(prog:Program)(w:World):PySem.KeyKind prog w Key where
 is:=f7
 hash:=Lq w
 inj:=λv a b ha hb=>by
  rcases aq ha with ⟨i,t,rfl,rfl⟩ |⟨x,t,rfl,rfl⟩
  ·rcases aq hb with ⟨j,u,rfl,e⟩ |⟨y,u,rfl,e⟩
   ·injection e with e1 _;rw[e1]
   ·exact nomatch e
  ·rcases aq hb with ⟨j,u,rfl,e⟩ |⟨y,u,rfl,e⟩
   ·exact nomatch e
   ·injection e with e1 _;rw[e1]
 byValue:=λk v h=>by
  rcases aq h with ⟨i,t,rfl,rfl⟩ |⟨x,t,rfl,rfl⟩ <;> rfl
 pyHash:=λhv h=>by
  rcases aq hv with ⟨i,t,rfl,rfl⟩ |⟨x,t,rfl,rfl⟩
  ·exact wpAny_pyHash_int h
  ·exact wpAny_pyHash_str h
 eqBool:=λhu hv h=>by
  rcases aq hu with ⟨i,t,rfl,rfl⟩ |⟨x,t,rfl,rfl⟩
  ·rcases aq hv with ⟨j,u,rfl,rfl⟩ |⟨y,u,rfl,rfl⟩
   ·rw[Gp] at h;exact Uj h
   ·rw[xg] at h;exact SeqAt.EqAt.int_str i t y u _ _ _ _ h
  ·rcases aq hv with ⟨j,u,rfl,rfl⟩ |⟨y,u,rfl,rfl⟩
   ·rw[xh] at h;exact SeqAt.EqAt.str_int x t j u _ _ _ _ h
   ·rw[Gq] at h;exact wpAny_eqBool_str h
 «strs»:=λk x t v h=>by
  rcases aq h with ⟨i,u,rfl,e⟩ |⟨y,u,rfl,e⟩
  ·exact nomatch e
  ·injection e with e1 _;subst e1;cases v <;> rfl
theorem o3(prog:Program)(w:World)(i:Int)(t:Tok):(aU prog w).is (.inl i) (.int i t)=true:=vf i t
theorem o4(prog:Program)(w:World)(x:Str)(t:Tok):(aU prog w).is (.inr x) (.str x t)=true:=vg x t
inductive NK where
 |non |one (k:Key) |tup (ks:List Key)
 deriving DecidableEq
theorem Gr{α β:Type}{F G:α->β->Prop}(f:∀a b,F a b->G a b):∀ {l:List α} {m:List β},Paired F l m->Paired G l m
 |_,_,.nil=>.nil
 |_,_,.cons h t=>.cons (f _ _ h) (Gr f t)
section
variable {P:Program} {w:World}
def NIs(P:Program)(w:World)(h:Heap):NK->Value->Prop
 |.non,v=>v = .none
 |.one k,v=>f7 k v=true
 |.tup ks,v=>∃b,v = .ref b/\IsTupleKey (aU P w) h ks b
def cU(P:Program)(w:World)(h:Heap)(ks:List NK)(a:Addr):Prop:=∃o items n,h.get? a=some o/\o.cls = .type "tuple"/\o.data = .seq items n/\Paired (NIs P w h) ks items.toList
theorem NIs.inj{h:Heap}{x y:NK}{v:Value}(hx:NIs P w h x v)(hy:NIs P w h y v):x=y:=by
 cases x with
 |non=>
  cases hx;cases y with
  |non=>rfl
  |one k=>rcases aq hy with ⟨i,t,_,e⟩ |⟨i,t,_,e⟩ <;> cases e
  |tup ks=>obtain⟨b,e,_⟩:=hy;cases e
 |one k=>
  rcases aq hx with ⟨i,t,rfl,rfl⟩ |⟨i,t,rfl,rfl⟩
  ·cases y with
   |non=>cases hy
   |one k'=>rw[(aU P w).inj (Value.int i t) (Sum.inl i) k' (by exact hx) (by exact hy)]
   |tup ks=>obtain⟨b,e,_⟩:=hy;cases e
  ·cases y with
   |non=>cases hy
   |one k'=>rw[(aU P w).inj (Value.str i t) (Sum.inr i) k' (by exact hx) (by exact hy)]
   |tup ks=>obtain⟨b,e,_⟩:=hy;cases e
 |tup ks=>
  obtain⟨b,rfl,hb⟩:=hx;cases y with
  |non=>cases hy
  |one k=>rcases aq hy with ⟨i,t,_,e⟩ |⟨i,t,_,e⟩ <;> cases e
  |tup ks'=>obtain⟨b',e,hb'⟩:=hy;cases e;rw[hb.inj hb']
theorem l6{h:Heap}:∀ {x y:List NK} {vs:List Value},Paired (NIs P w h) x vs->Paired (NIs P w h) y vs->x=y
 |[],y,_,.nil,hy=>by cases hy;rfl
 |a::x,y,_,.cons h1 t1,hy=>by
  cases hy with
  |cons h2 t2=>rw[h1.inj h2,l6 t1 t2]
theorem cU.inj{h:Heap}{a:Addr}{x y:List NK}(hx:cU P w h x a)(hy:cU P w h y a):x=y:=by
 obtain⟨o,items,n,ho,_,hd,hi⟩:=hx;obtain⟨o',items',n',ho',_,hd',hi'⟩:=hy;obtain rfl:o=o':=Option.some.inj (ho.symm.trans ho');rw[hd] at hd';injection hd' with h1 _;subst h1;exact l6 hi hi'
theorem NIs.keeps{h h':Heap}{k:NK}{v:Value}{d:Addr}{o:Obj}{es ep}(x:NIs P w h k v)(ho:h.get? d=some o)(hd:o.data = .dict es ep)(hs:Heap.SameBut d h h'):NIs P w h' k v:=by
 cases k with
 |non=>exact x
 |one k=>exact x
 |tup ks=>obtain⟨b,e,hb⟩:=x;exact⟨b,e,hb.keeps ho hd hs⟩
theorem cU.keeps{h h':Heap}{ks:List NK}{a d:Addr}{o:Obj}{es ep}(x:cU P w h ks a)(ho:h.get? d=some o)(hd:o.data = .dict es ep)(hs:Heap.SameBut d h h'):cU P w h' ks a:=by
 obtain⟨o',items,n,ho',hc,hd',hi⟩:=x
 have hne:a ≠ d:=by
  rintro rfl;obtain rfl:o'=o:=Option.some.inj (ho'.symm.trans ho);rw[hd] at hd';exact nomatch hd'
 exact⟨o',items,n,(hs.2 a hne).trans ho',hc,hd',Gr (λ_ _ z=>z.keeps ho hd hs) hi⟩
theorem cU.typeIs{s:Shared}{ks:List NK}{a:Addr}(x:cU P w s.heap ks a):s.TypeIs (.ref a) "tuple" := let ⟨o,_,_,ho,hc,_⟩:=x;⟨o,ho,hc⟩
abbrev nkH(P:Program)(w:World):NK->Int
 |.non=>0xFCA86420
 |.one k=>Lq w k
 |.tup ks=>tupleKeyHash (aU P w) ks
abbrev nkN:NK->Nat
 |.tup ks=>ks.length+1
 |_=>1
theorem vh{A:Around}{E:Value->Shared->Prop}{s:Shared}{Q:Int->Shared->Prop}(h:Q 0xFCA86420 { s with toks:=s.toks+1 }):wpAny (model P w) A (pyHash .none) Q E s:=by
 have hT:s.TypeIs .none "NoneType" := typeIs_none s;unfold pyHash;have hv:[Value.none].any Value.onHeap=false:=rfl;refine Uf ?_;rw[cRoomFor,if_neg (by rw[hv];exact Ze)];refine Ux ?_;refine Uf (UI hT F.slot_NoneType_hash.lookup ?_);show wpAny _ _ (if (some (Value.builtin "NoneType.__hash__") == some Value.none)=true then _ else _) Q E s;rw[if_neg (by rw[beq_builtin_none];exact Ze)];refine Uf (UI hT F.slot_NoneType_hash.lookup ?_);show wpAny _ _ (Vv .none "__hash__" _ >>= _) Q E s;refine Uf (wpAny_callSpecialIfBoundUnlessNone?_slot hT WF (Uh WF hT F.entry_NoneType_hash ?_ (F.args_NoneType_hash_1 _)));show wpAny _ _ (slotArgs "__hash__" 0 _ >>= λ_=>retInt 0xFCA86420) _ _ s;refine Uf (m:=slotArgs "__hash__" 0 _) (Ux ?_);refine wpAny_ret_mkInt ?_;show wpAny _ _ (pure (0xFCA86420:Int)) Q E _;exact Ux h
theorem xi{A:Around}{E:Value->Shared->Prop}{s:Shared}{k:NK}{v:Value}{Q:Int->Shared->Prop}(hu:A.units < cLine)(hk:NIs P w s.heap k v)(h:Q (nkH P w k) { s with toks:=s.toks+nkN k }):wpAny (model P w) A (pyHash v) Q E s:=by
 cases k with
 |non=>cases hk;exact vh h
 |one k=>exact(aU P w).pyHash hk h
 |tup ks=>obtain⟨b,rfl,hb⟩:=hk;exact wpAny_pyHash_tuple hu hb h
abbrev xj(P:Program)(w:World)(ks:List NK):Int:=reduceHash (Builtin.Tuple.tupleHashOf (ks.map (nkH P w)))
abbrev o5(ks:List NK):Nat:=(ks.map nkN).sum
theorem vm{A:Around}{E:Value->Shared->Prop}{s:Shared}{ks:List NK}{a:Addr}{Q:Int->Shared->Prop}(hu:A.units+1 < cLine)(hk:cU P w s.heap ks a)(h:Q (xj P w ks) { s with toks:=s.toks+(o5 ks+1) }):wpAny (model P w) A (pyHash (.ref a)) Q E s:=by
 have hT:=hk.typeIs;obtain⟨o,items,n,ho,_,hd,hi⟩:=hk;unfold pyHash
 first |unfold pyHashByItsType |skip
 first |refine Uf (wpAny_cRoomFor_or (.inr (by omega)) ?_) |skip
 refine Uf (UI hT F.slot_tuple_hash.lookup ?_);show wpAny _ _ (if (some (Value.builtin "tuple.__hash__") == some Value.none)=true then _ else _) Q E s;rw[if_neg (by rw[beq_builtin_none];exact Ze)];refine Uf (UI hT F.slot_tuple_hash.lookup ?_);show wpAny _ _ (Vv (.ref a) "__hash__" _ >>= _) Q E s;refine Uf (wpAny_callSpecialIfBoundUnlessNone?_slot hT F.slot_tuple_hash (Uh F.slot_tuple_hash hT F.entry_tuple_hash ?_ (F.args_tuple_hash_1 _)));show wpAny _ _ (Builtin.Tuple.tupleItemsOf (.ref a) >>= _) _ _ s;refine Uf (wpAny_tupleItemsOf ho hd ?_);refine Uf ?_;rw[<-Y6]
 refine Um _
  (λrest (b:Array Int) s'=>∃done left,ks=done++left/\Paired (NIs P w s.heap) left rest/\b.toList=done.map (nkH P w)/\s'={ s with toks:=s.toks+o5 done })
  _ ?_ ?_ _ _ ⟨[],ks,rfl,hi,rfl,rfl⟩
 ·rintro x rest b s' ⟨done,left,rfl,hl,hb,rfl⟩;cases hl with
  |@cons k _ ks' _ h1 hl'=>
   refine Uf (xi hu h1 ?_)
   first
    |exact Ux ⟨done++[k],ks',by simp,hl',by simp[hb],by simp[o5,YG]⟩
    |exact Uf (Ux (Ux ⟨done++[k],ks',by simp,hl',by simp[hb],by simp[o5,YG]⟩))
 ·rintro b s' ⟨done,left,rfl,hl,hb,rfl⟩;cases hl;rw[Z9] at h;show wpAny _ _ (retInt (Builtin.Tuple.tupleHashOf b.toList)) _ _ _;rw[hb];refine wpAny_ret_mkInt ?_;show wpAny _ _ (if (decide (-(2:Int) ^ 63<=Builtin.Tuple.tupleHashOf (done.map (nkH P w))) && decide (Builtin.Tuple.tupleHashOf (done.map (nkH P w)) < 2 ^ 63))=true then _ else _) Q E _;unfold xj reduceHash at h;by_cases hr:(decide (-(2:Int) ^ 63<=Builtin.Tuple.tupleHashOf (done.map (nkH P w))) && decide (Builtin.Tuple.tupleHashOf (done.map (nkH P w)) < 2 ^ 63))=true
  ·rw[if_pos hr];rw[if_pos hr] at h;exact Ux (by simpa[YG] using h)
  ·rw[if_neg hr];rw[if_neg hr] at h;exact Uf (UF (Ux (by simpa[YG] using h)))
theorem rb{α:Type}[DecidableEq α](x y:List α):((Zl (min x.length y.length)).all (λj=>decide (x[j]?=y[j]?)) && x.length == y.length)=decide (x=y):=by
 rw[YZ,bAE,Yi,decide_eq_true_eq,beq_iff_eq];constructor
 ·rintro⟨h1,h2⟩;refine YI λj=>?_;by_cases hj:j < x.length
  ·exact of_decide_eq_true (h1 j (ZV.mpr (by omega)))
  ·rw[Zv (by omega),Zv (by omega)]
 ·rintro rfl;exact⟨λj _=>decide_eq_true rfl,rfl⟩
theorem o6{A:Around}{s:Shared}{x y:Key}{u v:Value}(hx:f7 x u=true)(hy:f7 y v=true):WY A s u v (decide (x=y)):=by
 rcases aq hx with ⟨i,t,rfl,rfl⟩ |⟨a,t,rfl,rfl⟩
 ·rcases aq hy with ⟨j,r,rfl,rfl⟩ |⟨b,r,rfl,rfl⟩
  ·rw[show decide ((Sum.inl i:Key)=Sum.inl j)=(i == j) by simp[YQ]];exact .int_int i t j r
  ·rw[xg];exact .int_str i t b r
 ·rcases aq hy with ⟨j,r,rfl,rfl⟩ |⟨b,r,rfl,rfl⟩
  ·rw[xh];exact .str_int a t j r
  ·rw[show decide ((Sum.inr a:Key)=Sum.inr b)=(a == b) by simp[YQ]];exact .str_str a t b r
theorem jM{h:Heap}:∀ {ks:List Key} {vs:List Value},ItemsAre (aU P w) ks vs->∀ (j:Nat) v,vs[j]?=some v->∃k,ks[j]?=some k/\f7 k v=true
 |_,_,.nil,j,v,e=>by simp at e
 |_,_,.cons h1 t,0,v,e=>by cases e;exact⟨_,rfl,h1⟩
 |_,_,.cons h1 t,j+1,v,e=>jM (h:=h) t j v (by simpa using e)
theorem xk{A:Around}{s:Shared}{x y:NK}{u v:Value}(hu:A.units < cLine)(hx:NIs P w s.heap x u)(hy:NIs P w s.heap y v):WY A s u v (decide (x=y)):=by
 have tup:∀ {ks:List Key} {b:Addr},IsTupleKey (aU P w) s.heap ks b->∃its:Array Value,s.heap.IsTuple b its/\ItemsAre (aU P w) ks its.toList:=λ⟨o,its,n,ho,hc,hd,hi⟩=>⟨its,⟨o,ho,hc,n,hd⟩,hi⟩;cases x with
 |non=>
  cases hx;cases y with
  |non=>cases hy;exact .same _
  |one k=>
   rw[decide_eq_false (λz=>nomatch z)];rcases aq hy with ⟨i,t,rfl,rfl⟩ |⟨i,t,rfl,rfl⟩
   ·exact .none_int i t
   ·exact .none_str i t
  |tup ks=>
   obtain⟨b,rfl,hb⟩:=hy;obtain⟨its,h1,_⟩:=tup hb;rw[decide_eq_false (λz=>nomatch z)];exact .none_tuple h1 hu
 |one k=>
  cases y with
  |non=>
   cases hy;rw[decide_eq_false (λz=>nomatch z)];rcases aq hx with ⟨i,t,rfl,rfl⟩ |⟨i,t,rfl,rfl⟩
   ·exact .int_none i t
   ·exact .str_none i t
  |one k'=>
   rw[show decide (NK.one k=NK.one k')=decide (k=k') by simp];exact o6 hx hy
  |tup ks=>
   obtain⟨b,rfl,hb⟩:=hy;obtain⟨its,h1,_⟩:=tup hb;rw[decide_eq_false (λz=>nomatch z)];rcases aq hx with ⟨i,t,rfl,rfl⟩ |⟨i,t,rfl,rfl⟩
   ·exact .int_tuple i t h1 hu
   ·exact .str_tuple i t h1 hu
 |tup ks=>
  obtain⟨b,rfl,hb⟩:=hx;obtain⟨its,h1,i1⟩:=tup hb;cases y with
  |non=>cases hy;rw[decide_eq_false (λz=>nomatch z)];exact .tuple_none h1 hu
  |one k=>
   rw[decide_eq_false (λz=>nomatch z)];rcases aq hy with ⟨i,t,rfl,rfl⟩ |⟨i,t,rfl,rfl⟩
   ·exact .tuple_int i t h1 hu
   ·exact .tuple_str i t h1 hu
  |tup ks'=>
   obtain⟨c,rfl,hc⟩:=hy;obtain⟨its2,h2,i2⟩:=tup hc;by_cases e:b=c
   ·subst e;rw[hb.inj hc,decide_eq_true rfl];exact .same _
   ·refine .of_refs e ?_
    have z:=SeqAt.RcAt.tuples (e:=λj=>decide (ks[j]?=ks'[j]?)) h1 h2 hu λj j1 j2=>by
     obtain⟨k,e1,m1⟩:=jM (h:=s.heap) i1 j its[j] (by simp[j1]);obtain⟨k',e2,m2⟩:=jM (h:=s.heap) i2 j its2[j] (by simp[j2]);rw[e1,e2,show decide (some k=some k')=decide (k=k') by simp];exact o6 m1 m2
    have l1:ks.length=its.size:=i1.length.trans Zw;have l2:ks'.length=its2.size:=i2.length.trans Zw;rw[<-l1,<-l2,rb] at z;rw[show decide (NK.tup ks=NK.tup ks')=decide (ks=ks') by simp];exact z
theorem jN{h:Heap}:∀ {ks:List NK} {vs:List Value},Paired (NIs P w h) ks vs->∀ (j:Nat) v,vs[j]?=some v->∃k,ks[j]?=some k/\NIs P w h k v
 |_,_,.nil,j,v,e=>by simp at e
 |_,_,.cons h1 t,0,v,e=>by cases e;exact⟨_,rfl,h1⟩
 |_,_,.cons h1 t,j+1,v,e=>jN t j v (by simpa using e)
theorem BA{A:Around}{E:Value->Shared->Prop}{s:Shared}{x y:List NK}{a b:Addr}{Q:Bool->Shared->Prop}(hu:A.units+1 < cLine)(hx:cU P w s.heap x a)(hy:cU P w s.heap y b)(h:Q (decide (x=y)) s):wpAny (model P w) A (eqBool (.ref a) (.ref b)) Q E s:=by
 by_cases e:a=b
 ·subst e;rw[hx.inj hy,decide_eq_true rfl] at h;exact SeqAt.EqAt.same _ _ _ _ _ h
 ·obtain⟨o,its,n,ho,hc,hd,i1⟩:=hx;obtain⟨o2,its2,n2,ho2,hc2,hd2,i2⟩:=hy
  have z:=SeqAt.RcAt.tuples (A:=A) (e:=λj=>decide (x[j]?=y[j]?)) (show s.heap.IsTuple a its from ⟨o,ho,hc,n,hd⟩) (show s.heap.IsTuple b its2 from ⟨o2,ho2,hc2,n2,hd2⟩) (by omega) λj j1 j2=>by
   obtain⟨k,e1,m1⟩:=jN i1 j its[j] (by simp[j1]);obtain⟨k',e2,m2⟩:=jN i2 j its2[j] (by simp[j2]);rw[e1,e2,show decide (some k=some k')=decide (k=k') by simp];exact xk hu m1 m2
  have l1:x.length=its.size:=i1.length.trans Zw;have l2:y.length=its2.size:=i2.length.trans Zw;rw[<-l1,<-l2,rb] at z;exact SeqAt.EqAt.of_refs e z _ _ _ _ h
theorem vn{A:Around}{E:Value->Shared->Prop}{s:Shared}{x:NK}{v:Value}{Q:Bool->Shared->Prop}(hx:NIs P w s.heap x v)(h:Q true s):wpAny (model P w) A (VC 7 v) Q E s:=by
 cases x with
 |non=>cases hx;rw[VE _ rfl];exact Ux h
 |one k=>rw[VE _ ((aU P w).byValue k v (by exact hx))];exact Ux h
 |tup ks=>
  obtain⟨b,rfl,hk⟩:=hx;have hT:=hk.typeIs;obtain⟨o,items,n,ho,_,hd,hi⟩:=hk;unfold VC;refine Uf (UI hT F.slot_tuple_eq.lookup ?_);show wpAny _ _ (isInstance (.ref b) (.type "tuple") >>= _) _ _ s;refine Uf (wpAny_isInstance hT VJ ?_);simp only[YW,ZN,if_false];refine Uf (UG ho hd ?_);refine Uf ?_;show wpAny _ _ (forIn items _ _) _ _ s;rw[<-Y6];refine Um _ (λrest r s'=>r.1=none/\s'=s/\∀v ∈ rest,carriedByValue v=true) _ ?_ ?_ _ _ ⟨rfl,rfl,hi.byValue⟩
  ·rintro v rest r s' ⟨hr,rfl,hall⟩;rw[VE _ (hall v Zh)];refine Uf (Ux ?_);simp only[YW,ZN,if_false];exact Ux ⟨rfl,rfl,λu hu'=>hall u (Zf _ hu')⟩
  ·rintro⟨r1,r2⟩ s' ⟨hr,rfl,_⟩;simp only at hr;subst hr;exact Ux h
theorem rc{A:Around}{E:Value->Shared->Prop}{s:Shared}{ks:List NK}{a:Addr}{Q:Bool->Shared->Prop}(hk:cU P w s.heap ks a)(h:Q true s):wpAny (model P w) A (VC 8 (.ref a)) Q E s:=by
 have hT:=hk.typeIs;obtain⟨o,items,n,ho,_,hd,hi⟩:=hk;unfold VC;refine Uf (UI hT F.slot_tuple_eq.lookup ?_);show wpAny _ _ (isInstance (.ref a) (.type "tuple") >>= _) _ _ s;refine Uf (wpAny_isInstance hT VJ ?_);simp only[YW,ZN,if_false];refine Uf (UG ho hd ?_);refine Uf ?_;show wpAny _ _ (forIn items _ _) _ _ s;rw[<-Y6];refine Um _ (λrest r s'=>r.1=none/\s'=s/\∃left,Paired (NIs P w s.heap) left rest) _ ?_ ?_ _ _ ⟨rfl,rfl,ks,hi⟩
 ·rintro v rest r s' ⟨hr,rfl,left,hl⟩;cases hl with
  |cons h1 h2=>
   refine Uf (vn h1 ?_);simp only[YW,ZN,if_false];exact Ux ⟨rfl,rfl,_,h2⟩
 ·rintro⟨r1,r2⟩ s' ⟨hr,rfl,_⟩;simp only at hr;subst hr;exact Ux h
end
abbrev eU(P:Program)(w:World):HeapKind P w (List NK) where
 is:=cU P w
 hash:=xj P w
 draws:=λks=>o5 ks+1
 room:=λA=>A.units+1 < cLine
 inj:=λhx hy=>hx.inj hy
 keeps:=λx ho hd hs=>x.keeps ho hd hs
 pyHash:=λhu hk h=>vm hu hk h
 eqBool:=λhu hx hy h=>BA hu hx hy h
 quiet:=λhk h=>rc hk h
inductive V where
 |non |bl (b:Bool) |int (i:Int) |str (x:Str) |byt (b:Array UInt8) |flt (b:UInt64) |ref (a:Addr) |ty (n:String)
 deriving DecidableEq
def az:V->Value->Prop
 |.non,u=>u=Value.none
 |.bl b,u=>u=Value.bool b
 |.int i,u=>∃t,u=Value.int i t
 |.str x,u=>∃t,u=Value.str x t
 |.byt b,u=>∃t,u=Value.bytes b t
 |.flt b,u=>∃t,u=Value.float b t
 |.ref a,u=>u=Value.ref a
 |.ty n,u=>u=Value.type n
@[inline]abbrev aH:List V->List Value->Prop:=Paired az
theorem aH.length{xs:List V}{us:List Value}(r:aH xs us):xs.length=us.length:=Paired.length r
theorem aH.get:∀ {xs:List V} {us:List Value} {i:Nat} {x:V},aH xs us->xs[i]?=some x->∃u,us[i]?=some u/\az x u
 |_,_,_,_,.nil,e=>by simp at e
 |_,_,0,_,.cons r _,e=>by simp at e;subst e;exact⟨_,rfl,r⟩
 |_,_,i+1,x,.cons _ t,e=>by
  obtain⟨u,h1,h2⟩:=aH.get (i:=i) (x:=x) t (by simpa using e);exact⟨u,by simpa using h1,h2⟩
theorem aH.set{x:V}{u:Value}(r:az x u):∀ {xs:List V} {us:List Value} (i:Nat),aH xs us->aH (xs.set i x) (us.set i u)
 |_,_,_,.nil=>.nil
 |_,_,0,.cons _ t=>.cons r t
 |_,_,i+1,.cons q t=>.cons q (aH.set r i t)
theorem aH.append:∀ {xs ys:List V} {us ws:List Value},aH xs us->aH ys ws->aH (xs++ys) (us++ws)
 |_,_,_,_,.nil,s=>s
 |_,_,_,_,.cons r t,s=>.cons r (aH.append t s)
theorem aH.take:∀ {xs:List V} {us:List Value} (n:Nat),aH xs us->aH (xs.take n) (us.take n)
 |_,_,0,_=>.nil
 |_,_,_+1,.nil=>.nil
 |_,_,n+1,.cons r t=>.cons r (aH.take n t)
theorem aH.drop:∀ {xs:List V} {us:List Value} (n:Nat),aH xs us->aH (xs.drop n) (us.drop n)
 |_,_,0,r=>r
 |_,_,_+1,.nil=>.nil
 |_,_,n+1,.cons _ t=>aH.drop n t
def rd:Option V->Option Value->Prop
 |some v,some u=>az v u
 |none,none=>True
 |_,_=>False
def KV{κ:Type}:List (κ × V)->List (κ × Value)->Prop:=Paired λ(p:κ × V) (q:κ × Value)=>p.1=q.1/\az p.2 q.2
abbrev kV:Key->V
 |.inl i=>.int i
 |.inr x=>.str x
def nq(h:Heap)(a:Addr)(items:Array Value):Prop:=∃o,h.get? a=some o/\o.cls = .type "tuple"/\∃n,o.data = .seq items n/\o.dict=none
theorem nq.isTup(x:nq h a items):IsTup h a items:=let ⟨o,e,c,n,d,_⟩:=x;⟨o,e,c,n,d⟩
theorem nq.lt(x:nq h a items):a < h.objs.size:=x.isTup.lt
theorem nq.new(h:Heap)(items:Array Value):nq (h.push { cls:=.type "tuple", data:=.seq items }) h.objs.size items:=⟨_,Zx _ rfl,rfl,_,rfl,rfl⟩
inductive HO where
  |lst (xs:List V)
  |tup (xs:List V)
  |dK (kvs:List (Key × V)) |dT (kvs:List (List NK × V))
  |set (S:Int->Bool) (n:Nat)
  |ins (C dx:Addr) (fs:List (Str × V))
  |own (x:Addr)
  |xd (fs:List (Str × V))
  |met (f x:Addr)
  |rng (lo hi:Int)
  |frz (o:Obj) (u:HO)
  |tbl (ps:Array Value)
  |ext (φ:Heap->Prop)
@[inline]abbrev Hp:=Addr->Option HO
abbrev upd(H:Hp)(a:Addr)(o:HO):Hp:=λb=>if b=a then some o else H b
theorem a7{H:Hp}{a:Addr}{o:HO}:upd H a o a=some o:=by unfold upd;rw[if_pos rfl]
theorem av{H:Hp}{a b:Addr}{o:HO}(h:b ≠ a):upd H a o b=H b:=by unfold upd;rw[if_neg h]
theorem l8{H:Hp}{a b:Addr}{o u:HO}(h:H a=some o)(h':H b=some u)(d:o ≠ u):a ≠ b:=by
 intro e;subst e;rw[h] at h';exact d (Option.some.inj h')
theorem aO{H:Hp}{a b:Addr}{o:HO}(h:H a=some o)(h':H b=none):a ≠ b:=by
 intro e;subst e;rw[h] at h';cases h'
def vq(H:Hp):NK->V->Prop
 |.non,x=>x = .non
 |.one k,x=>x=kV k
 |.tup ks,x=>∃b,x = .ref b/\H b=some (.tup (ks.map kV))
def nr(H:Hp)(ks:List NK)(a:Addr):Prop:=∃xs,H a=some (.tup xs)/\Paired (vq H) ks xs
theorem vq.mono{H H':Hp}(ht:∀b xs,H b=some (.tup xs)->H' b=some (.tup xs)){k:NK}{x:V}(h:vq H k x):vq H' k x:=by
 cases k with
 |non=>exact h
 |one k=>exact h
 |tup ks=>obtain⟨b,e,q⟩:=h;exact⟨b,e,ht _ _ q⟩
theorem nr.mono{H H':Hp}{ks:List NK}{a:Addr}(h:nr H ks a)(ht:∀b xs,H b=some (.tup xs)->H' b=some (.tup xs)):nr H' ks a:=
 let ⟨xs,e,r⟩:=h;⟨xs,ht _ _ e,Gr (λ_ _ z=>z.mono ht) r⟩
section
variable (P:Program) (w:World)
def bf(H:Hp)(h:Heap)(a:Addr):HO->Prop
 |.lst xs=>xs.length<=sizeLine/\∃ (its:List Value) (n:Nat),aH xs its/\h.get? a=some { cls:=.type "list", data:=.seq its.toArray n }
 |.tup xs=>xs.length<=sizeLine/\∃its:List Value,aH xs its/\nq h a its.toArray
 |.dK kvs=>kvs.length<=sizeLine/\(a == Ub)=false/\∃vs,KV kvs vs/\h.DictOf (aU P w) a vs
 |.dT kvs=>kvs.length<=sizeLine/\(a == Ub)=false/\∃xs:List (List NK × Addr × Value),
   Paired (λ(p:List NK × V) (q:List NK × Addr × Value)=>p.1=q.1/\nr H p.1 q.2.1/\az p.2 q.2.2) kvs xs ∧
   ∃o es ep,h.get? a=some o/\o.ExactDict/\o.data = .dict es ep/\es.toList=xs.map (entryOfKey (eU P w))/\(xs.map (·.1)).Nodup
 |.set S n=>h.SetOf (intKind P w) a S n
 |.ins C dx fs=>H dx=some (.own a)/\fs.length<=1000/\dx ≠ a/\h.get? a=some (Vb C dx) ∧
   ∃mA,h.Ns1 dx mA/\(∀f,rd (fs.lookup f) (mA f))/\PySem.Within mA (fs.map (·.1))
 |.own _=>∃o,h.get? a=some o
 |.xd fs=>∃mA,h.Ns1 a mA/\∀f,rd (fs.lookup f) (mA f)
 |.rng lo hi=>∃t u v,h.get? a=some { cls:=.type "range", data:=.fields #[.int lo t,.int hi u,.int 1 v] }
 |.frz o u=>h.get? a=some o/\bf H h a u
 |.tbl ps=>h.get? a=some { cls:=.none,data:=.fields ps }
 |.met f x=>h.get? a=some (Vj (.ref f) (.ref x))
 |.ext φ=>φ h/\(∃o,h.get? a=some o)/\∀h1 h2:Heap,φ h1->(∀o,h1.get? a=some o->h2.get? a=some o)->φ h2
def HOk(H:Hp)(h:Heap):Prop:=∀a o,H a=some o->bf P w H h a o
end
section
variable {P:Program} {w:World} {H H':Hp} {h h':Heap} {a:Addr} {o:HO}
theorem bf.lt(x:bf P w H h a o):a < h.objs.size:=by
 cases o with
 |lst xs=>obtain⟨_,_,_,_,e⟩:=x;exact Zq e
 |tup xs=>obtain⟨_,_,_,p⟩:=x;exact p.lt
 |dK kvs=>obtain⟨_,_,_,_,o,_,_,e,_⟩:=x;exact Zq e
 |dT kvs=>obtain⟨_,_,_,_,o,_,_,e,_⟩:=x;exact Zq e
 |set S n=>obtain⟨o,_,_,_,e,_⟩:=x;exact Zq e
 |ins C dx fs=>obtain⟨_,_,_,e,_⟩:=x;exact Zq e
 |own y=>obtain⟨_,e⟩:=x;exact Zq e
 |xd fs=>obtain⟨_,⟨_,_,_,e,_⟩,_⟩:=x;exact Zq e
 |rng lo hi=>obtain⟨_,_,_,e⟩:=x;exact Zq e
 |frz ob u=>obtain⟨e,_⟩:=x;exact Zq e
 |tbl ps=>exact Zq (show h.get? a=some _ from x)
 |met f y=>exact Zq (show h.get? a=some _ from x)
 |ext φ=>obtain⟨_,⟨_,e⟩,_⟩:=x;exact Zq e
theorem Paired.mapP{α β:Type}{F G:α->β->Prop}:∀ {l₁:List α} {l₂:List β},Paired F l₁ l₂->(∀a b,F a b->G a b)->Paired G l₁ l₂
 |_,_,.nil,_=>.nil
 |_,_,.cons r t,f=>.cons (f _ _ r) (Paired.mapP t f)
theorem bf.stay(x:bf P w H h a o)(k:∀b u,(b=a\/H b=some (.own a))->h.get? b=some u->h'.get? b=some u)
  (ho:∀b,H b=some (.own a)->H' b=some (.own a)) (ht:∀b xs,H b=some (.tup xs)->H' b=some (.tup xs)):bf P w H' h' a o:=by
 induction o with
 |lst xs=>obtain⟨z,its,n,r,e⟩:=x;exact⟨z,its,n,r,k _ _ (.inl rfl) e⟩
 |tup xs=>obtain⟨z,its,r,ob,e,c⟩:=x;exact⟨z,its,r,ob,k _ _ (.inl rfl) e,c⟩
 |dK kvs=>obtain⟨z,y,vs,r,ob,es,ep,e,c⟩:=x;exact⟨z,y,vs,r,ob,es,ep,k _ _ (.inl rfl) e,c⟩
 |dT kvs=>
  obtain⟨z,y,xs,r,ob,es,ep,e,c⟩:=x;exact⟨z,y,xs,Paired.mapP r λp q z=>⟨z.1,z.2.1.mono ht,z.2.2⟩,ob,es,ep,k _ _ (.inl rfl) e,c⟩
 |set S n=>obtain⟨ob,es,ep,t,e,c⟩:=x;exact⟨ob,es,ep,t,k _ _ (.inl rfl) e,c⟩
 |ins C dx fs=>
  obtain⟨d,z,ne,e,mA,⟨od,es,ep,e2,c⟩,r⟩:=x;exact⟨ho _ d,z,ne,k _ _ (.inl rfl) e,mA,⟨od,es,ep,k _ _ (.inr d) e2,c⟩,r⟩
 |own y=>obtain⟨ob,e⟩:=x;exact⟨ob,k _ _ (.inl rfl) e⟩
 |xd fs=>obtain⟨mA,⟨od,es,ep,e,c⟩,r⟩:=x;exact⟨mA,⟨od,es,ep,k _ _ (.inl rfl) e,c⟩,r⟩
 |rng lo hi=>obtain⟨t,u,v,e⟩:=x;exact⟨t,u,v,k _ _ (.inl rfl) e⟩
 |frz ob u ih=>obtain⟨e,q⟩:=x;exact⟨k _ _ (.inl rfl) e,ih q⟩
 |tbl ps=>
  have e:h.get? a=some { cls:=.none,data:=.fields ps }:=x;show h'.get? a=some { cls:=.none,data:=.fields ps };exact k a _ (.inl rfl) e
 |met f y=>
  have e:h.get? a=some (Vj (.ref f) (.ref y)):=x;show h'.get? a=some (Vj (.ref f) (.ref y));exact k a _ (.inl rfl) e
 |ext φ=>obtain⟨p,⟨o,e⟩,st⟩:=x;exact⟨st _ _ p λo q=>k _ _ (.inl rfl) q,⟨o,k _ _ (.inl rfl) e⟩,st⟩
theorem HOk.lt(x:HOk P w H h)(e:H a=some o):a < h.objs.size:=(x a o e).lt
theorem HOk.fresh(x:HOk P w H h)(e:h.objs.size<=a):H a=none:=by
 cases q:H a with
 |none=>rfl
 |some u=>exact absurd (ZB (x.lt q) e) (ZM _)
theorem HOk.kept(x:HOk P w H h)(k:∀b u,h.get? b=some u->h'.get? b=some u):HOk P w H h':=λa o e=>
 (x a o e).stay (λb u _ q=>k b u q) (λ_ q=>q) λ_ _ q=>q
theorem HOk.laid(x:HOk P w H h)(k:∀b u,h.get? b=some u->h'.get? b=some u)(hp:h.objs.size<=a)(new:bf P w (upd H a o) h' a o):HOk P w (upd H a o) h':=λb u e=>by
 have hn:=x.fresh hp;by_cases hb:b=a
 ·subst hb;rw[a7] at e;cases e;exact new
 ·rw[av hb] at e;exact(x b u e).stay (λc v _ q=>k c v q) (λc q=>by rw[av (aO q hn)];exact q) λc xs q=>by rw[av (aO q hn)];exact q
end
def Rd(H:Hp)(a:Addr)(u:HO):Prop:=H a=some u\/∃o,H a=some (.frz o u)
theorem Rd.ok{P:Program}{w:World}{H:Hp}{h:Heap}{a:Addr}{u:HO}(r:Rd H a u)(x:HOk P w H h):bf P w H h a u:=by
 rcases r with r |⟨o,r⟩
 ·exact x a u r
 ·obtain⟨_,q⟩:=x a _ r;exact q
def Mut:Option HO->Prop
 |some (.lst _)=>True
 |some (.dK _)=>True
 |some (.dT _)=>True
 |some (.set _ _)=>True
 |some (.ins _ _ _)=>True
 |some (.ext _)=>True
 |_=>False
section
variable {P:Program} {w:World} {H:Hp} {h h':Heap} {x e:Addr} {o':HO}
theorem HOk.write(ok:HOk P w H h)(mu:Mut (H x))(he:e=x\/H e=some (.own x))(k:∀b u,b ≠ e->h.get? b=some u->h'.get? b=some u)(heo:∃u,h'.get? e=some u)
  (new:bf P w (upd H x o') h' x o'):HOk P w (upd H x o') h':=λb u q=>by
 have nown:∀c y,H c=some (.own y)->c ≠ x:=λc y r z=>by subst z;rw[r] at mu;exact mu
 have ntup:∀c xs,H c=some (.tup xs)->c ≠ x:=λc xs r z=>by subst z;rw[r] at mu;exact mu
 by_cases hb:b=x
 ·subst hb;rw[a7] at q;cases q;exact new
 ·rw[av hb] at q;by_cases hbe:b=e
  ·have q':H b=some (.own x):=by
    rcases he with z |z
    ·exact absurd (hbe.trans z) hb
    ·rw[hbe];exact z
   rw[q] at q';cases q';obtain⟨v,hv⟩:=heo;exact⟨v,by rw[hbe];exact hv⟩
  ·refine(ok b u q).stay (λc v hc r=>k c v ?_ r) (λc r=>by rw[av (nown c b r)];exact r) λc xs r=>by rw[av (ntup c xs r)];exact r
   rcases hc with rfl |hc
   ·exact hbe
   ·rintro rfl;rcases he with z |z
    ·exact nown c b hc z
    ·rw[hc] at z;cases z;exact hb rfl
end
structure Un(fs ex:List Addr)(H H':Hp)(h h':Heap):Prop where
 keep:∀b o,h.get? b=some o->H b=none->b ∉ fs->b ∉ ex->h'.get? b=some o
 slot:∀b o,h.get? b=some o->H b=none->b ∈ fs->b ∉ ex->∃sl,h'.get? b=some { o with slots:=sl }
 free:∀b o,h.get? b=some o->H b=none->b ∉ ex->H' b=none
 there:∀b o,h.get? b=some o->b ∉ ex->∃o',h'.get? b=some o'
 tups:∀b xs,H b=some (.tup xs)->H' b=some (.tup xs)
 frzs:∀b o u,H b=some (.frz o u)->H' b=some (.frz o u)
 tbls:∀b ps,H b=some (.tbl ps)->∃more,H' b=some (.tbl (ps++more))
section
variable {fs fs' ex ex':List Addr} {H H1 H2:Hp} {h h1 h2 h':Heap} {a x e:Addr} {o:HO}
theorem Un.any(u:Un fs ex H H1 h h1){b:Addr}{ob:Obj}(q:h.get? b=some ob)(n:H b=none)(hx:b ∉ ex):∃sl,h1.get? b=some { ob with slots:=sl }:=by
 by_cases hb:b ∈ fs
 ·exact u.slot b ob q n hb hx
 ·exact⟨ob.slots,u.keep b ob q n hb hx⟩
theorem Un.kept(k:∀b u,h.get? b=some u->h'.get? b=some u):Un fs ex H H h h':=
 ⟨λb ob q _ _ _=>k b ob q,λb ob q _ _ _=>⟨ob.slots,k b ob q⟩,λ_ _ _ n _=>n,λb ob q _=>⟨ob,k b ob q⟩,λ_ _ q=>q,λ_ _ _ q=>q,λ_ ps q=>⟨#[],by rw[q];simp⟩⟩
theorem Un.refl:Un fs ex H H h h:=Un.kept λ_ _ q=>q
theorem Un.laid(k:∀b u,h.get? b=some u->h'.get? b=some u)(hp:h.objs.size<=a)(hn:H a=none):Un fs ex H (upd H a o) h h' where
 keep:=λb u q _ _ _=>k b u q
 slot:=λb u q _ _ _=>⟨u.slots,k b u q⟩
 free:=λb u q n _=>by rw[av (ZE (ZB (Zq q) hp))];exact n
 there:=λb u q _=>⟨u,k b u q⟩
 tups:=λb xs q=>by rw[av (aO q hn)];exact q
 frzs:=λb u xs q=>by rw[av (aO q hn)];exact q
 tbls:=λb ps q=>⟨#[],by rw[av (aO q hn),q];simp⟩
theorem Un.write(mu:Mut (H x))(he:e=x\/H e=some (.own x))(k:∀b u,b ≠ e->h.get? b=some u->h'.get? b=some u)(heo:∃u,h'.get? e=some u):Un fs ex H (upd H x o) h h':=by
 have hx:∀b,H b=none->b ≠ x:=λb n z=>by subst z;rw[n] at mu;exact mu
 have hb:∀b,H b=none->b ≠ e:=λb n z=>by
  subst z;rcases he with r |r
  ·exact hx b n r
  ·rw[n] at r;cases r
 have hm:∀b u,H b=some u->¬ Mut (some u)->b ≠ x:=λb u q nm z=>by subst z;rw[q] at mu;exact nm mu
 refine⟨λb u q n _ _=>k b u (hb b n) q,λb u q n _ _=>⟨u.slots,k b u (hb b n) q⟩,λb u q n _=>by rw[av (hx b n)];exact n,λb u q _=>?_,
  λb xs q=>by rw[av (hm b _ q λz=>z)];exact q,λb u xs q=>by rw[av (hm b _ q λz=>z)];exact q,λb ps q=>⟨#[],by rw[av (hm b _ q λz=>z),q];simp⟩⟩
 by_cases hbe:b=e
 ·subst hbe;exact heo
 ·exact⟨u,k b u hbe q⟩
end
abbrev trk(h:Heap)(H:Hp):List Addr:=(Zl h.objs.size).filter λa=>(H a).isSome
abbrev nt(h:Heap)(H:Hp):Heap:=PySem.W.hideAll h (trk h H)
theorem vt(h:Heap)(H:Hp):(nt h H).objs.size=h.objs.size:=PySem.W.hideAll_size _ _
theorem xl(e:h.get? b=some o)(n:H b=none):(nt h H).get? b=some o:=
 PySem.W.hideAll_get _ e λhm=>by
  have q:(H b).isSome=true:=(ZW.mp hm).2;rw[n] at q;simp at q
theorem BC(e:(nt h H).get? b=some o):h.get? b=some o/\H b=none:=by
 have e':h.get? b=some o:=PySem.W.of_hideAll (trk h H) e;refine⟨e',?_⟩;cases q:H b with
 |none=>rfl
 |some x=>
  have hm:b ∈ trk h H:=ZW.mpr ⟨ZV.mpr (Zq e'),by simp[q]⟩;have z:(nt h H).get? b=none:=PySem.W.hideAll_none (trk h H) hm;rw[z] at e;cases e
structure Mod(K:W6)(mg:Str->Option Value)(base:Heap):Prop where
 kin:K.In base
 glob:base.Ns VN mg
 blt:∃mb,base.Ns Vu mb/\∀x:Str,x ≠ "__name__"->mb x=Vt x
 nolimit:base.NoLimit
structure Cx where
 prog:Program
 w:World
 K:W6
 mg:Str->Option Value
 base:Heap
 A:Around
 N:List Str
 s₀:Shared
 H₀:Hp
 env:Env
 outer:List Env
 stack:List Env
 ex:List Addr
 fn:Str->Bool
 calm:Bool
 pn:List (Addr × Obj)
 xe:Value->Shared->Prop
abbrev frs(l:List Env):List Addr:=l.filterMap (·.frame)
noncomputable abbrev Cx.fs(X:Cx):List Addr:=frs X.outer
def Vis(sc:Scope)(x:Str):Prop:=sc.names.lookup x=some .local\/sc.names.lookup x=some .cell\/sc.names.lookup x=some .free
def Loc(sc:Scope)(x:Str):Prop:=sc.names.lookup x=some .local\/sc.names.lookup x=some .cell
def OB(env:Env)(h:Heap)(m:Str->Option Value)(x:Str)(u:Value):Prop:=
 (env.kindOf x=some .local/\m x=some u)\/((env.kindOf x=some .cell\/env.kindOf x=some .free)/\∃c,env.cells.lookup x=some c/\h.IsCell c (some u))
structure Cx.Ok(X:Cx):Prop where
 mod:Mod X.K X.mg X.base
 kind:X.env.scope.kind = .function
 glob:X.env.globals=VN
 blt:X.env.builtins=Vu
 above:X.s₀.heap.objs.size<=X.env.locals
 inj:∀x y c,X.env.cells.lookup x=some c->X.env.cells.lookup y=some c->x=y
 has:∀x,(X.env.kindOf x=some .cell\/X.env.kindOf x=some .free)->∃c,X.env.cells.lookup x=some c
 cab:∀x c,X.fn x=true->X.env.cells.lookup x=some c->X.s₀.heap.objs.size<=c
 hd:X.calm=true->X.A.handled=none
 frames:X.A.frames=some X.stack
 stk:X.stack=X.outer\/(X.stack=X.env::X.outer/\X.env.frame=some X.env.locals)
 exf:∀b ∈ X.ex,b ≠ X.env.locals/\∀x c,X.env.cells.lookup x=some c->c ≠ b
 bs:∀b o,X.base.get? b=some o->X.s₀.heap.get? b=some o/\X.H₀ b=none
 bsz:X.base.objs.size<=X.s₀.heap.objs.size
 noex:∀b o,X.base.get? b=some o->b ∉ X.ex
 exfs:∀b ∈ X.ex,b ∉ X.fs
 funs:X.s₀.heap.FunFrames X.base X.outer
 frf:∀b ∈ X.fs,X.H₀ b=none
structure Inv(X:Cx)(pins:List (Addr × Obj))(σ:List (Option V))(H:Hp)(s:Shared):Prop where
 ok:X.Ok
 os:s.os=X.s₀.os
 bare:AllBare s.gens
 base:Un X.fs X.ex X.H₀ H X.s₀.heap s.heap
 loc:∃m,s.heap.Ns X.env.locals m/\∀ (i:Nat) (x:Str) (v:V),X.N[i]?=some x->σ[i]?=some (some v)->Vis X.env.scope x->∃u,az v u/\OB X.env s.heap m x u
 cell:∀x c,X.env.cells.lookup x=some c->∃v,s.heap.IsCell c v
 free:H X.env.locals=none
 freeC:∀x c,X.env.cells.lookup x=some c->H c=none
 pin:∀p ∈ X.pn++pins,s.heap.get? p.1=some p.2/\H p.1=none/\p.1 ≠ X.env.locals/\p.1 ∉ X.fs/\∀v,p.2.data ≠ .cell v
 hok:HOk X.prog X.w H s.heap
 len:σ.length=X.N.length
section
variable {X:Cx} {pins:List (Addr × Obj)} {σ:List (Option V)} {H H':Hp} {s:Shared} {h':Heap}
theorem Cx.Ok.nofr(ok:X.Ok)(e:X.base.get? b=some o):b ∉ X.fs:=λhb=>by
 have:=(ok.funs.mem hb).1;rw[e] at this;cases this
theorem Inv.bs(I:Inv X pins σ H s):∀b o,X.base.get? b=some o->s.heap.get? b=some o/\H b=none:=λb o e=>
 ⟨I.base.keep b o (I.ok.bs b o e).1 (I.ok.bs b o e).2 (I.ok.nofr e) (I.ok.noex b o e),I.base.free b o (I.ok.bs b o e).1 (I.ok.bs b o e).2 (I.ok.noex b o e)⟩
theorem Inv.bk(I:Inv X pins σ H s):∀b o,X.base.get? b=some o->s.heap.get? b=some o:=λb o e=>(I.bs b o e).1
theorem Inv.mod(I:Inv X pins σ H s):Mod X.K X.mg X.base:=I.ok.mod
theorem Inv.kIn(I:Inv X pins σ H s):X.K.In s.heap:=I.ok.mod.kin.keeps I.bk
theorem Inv.lt(I:Inv X pins σ H s):X.env.locals < s.heap.objs.size:=let ⟨_,hn,_⟩:=I.loc;hn.lt
theorem Inv.sz(I:Inv X pins σ H s):X.s₀.heap.objs.size<=s.heap.objs.size:=ZI I.ok.above (Y2 I.lt)
theorem Inv.nofs(I:Inv X pins σ H s)(h:s.heap.objs.size<=a):a ∉ X.fs:=λhb=>by
 obtain⟨_,o,ho,_⟩:=I.ok.funs.mem hb;exact absurd (ZB (Zq ho) (ZI I.sz h)) (ZM _)
theorem Inv.cne(I:Inv X pins σ H s):∀x c,X.env.cells.lookup x=some c->c ≠ X.env.locals:=λx c e z=>by
 obtain⟨v,o,ho,hd⟩:=I.cell x c e;obtain⟨m,⟨o',es,ep,ho',hd',_⟩,_⟩:=I.loc;rw[z,ho'] at ho;cases ho;rw[hd'] at hd;cases hd
theorem Inv.funs(I:Inv X pins σ H s):s.heap.FunFrames X.base X.outer:=by
 have all:∀ (l:List Env),(∀b ∈ frs l,b ∈ X.fs)->X.s₀.heap.FunFrames X.base l->s.heap.FunFrames X.base l:=by
  intro l
  induction l with
  |nil=>intro _ _;trivial
  |cons env r ih=>
   intro hs hl;obtain⟨hk,⟨L,o,hf,hn,ho,hd⟩,hr⟩:=hl;have hL:L ∈ X.fs:=hs L (by unfold frs;rw[Yg,hf];exact Zh);obtain⟨sl,e⟩:=I.base.slot L o ho (I.ok.frf L hL) hL λz=>I.ok.exfs L z hL;exact⟨hk,⟨L,_,hf,hn,e,hd⟩,ih (λb hb=>hs b (by unfold frs;rw[Yg,hf];exact Zf _ hb)) hr⟩
 exact all X.outer (λ_ hb=>hb) I.ok.funs
theorem Inv.stack(I:Inv X pins σ H s):s.heap.FunFrames X.base X.stack:=by
 rcases I.ok.stk with e |⟨e,hf⟩
 ·rw[e];exact I.funs
 ·rw[e];obtain⟨m,hn,_⟩:=I.loc;refine .cons (by rw[I.ok.kind];decide) hf hn ?_ I.funs;exact Heap.get?_none_of_le (ZI I.ok.bsz I.ok.above)
theorem Inv.stkSub(I:Inv X pins σ H s):∀b ∈ frs X.stack,b ∈ X.env.locals::X.fs:=λb hb=>by
 rcases I.ok.stk with e |⟨e,hf⟩
 ·rw[e] at hb;exact Zf _ hb
 ·rw[e] at hb;unfold frs at hb;rw[Yg,hf] at hb;exact hb
theorem Inv.stkFree(I:Inv X pins σ H s):∀b ∈ frs X.stack,H b=none:=λb hb=>by
 rcases Zn.mp (I.stkSub b hb) with e |hb
 ·rw[e];exact I.free
 ·obtain⟨_,o,ho,_⟩:=I.ok.funs.mem hb;exact I.base.free b o ho (I.ok.frf b hb) λz=>I.ok.exfs b z hb
theorem Inv.step{g':Array GenState}{t':Nat}{d':Drawn}{ch:List Addr}(I:Inv X pins σ H s)
  (hch:∀b ∈ ch,(b ∈ X.ex\/X.s₀.heap.objs.size<=b)/\b ≠ X.env.locals/\(∀x c,X.env.cells.lookup x=some c->c ≠ b)/\∀p ∈ X.pn++pins,p.1 ≠ b)
  (keep:∀b o,b ≠ X.env.locals->b ∉ X.fs->b ∉ ch->s.heap.get? b=some o->H b=none->h'.get? b=some o)
  (slot:∀b o,b ≠ X.env.locals->b ∈ X.fs->b ∉ ch->s.heap.get? b=some o->H b=none->∃sl,h'.get? b=some { o with slots:=sl }) (free:∀b o,b ∉ ch->s.heap.get? b=some o->H b=none->H' b=none)
  (there:∀b o,b ∉ ch->s.heap.get? b=some o->∃o',h'.get? b=some o')
  (tups:∀b xs,H b=some (.tup xs)->H' b=some (.tup xs)) (frzs:∀b o u,H b=some (.frz o u)->H' b=some (.frz o u)) (tbls:∀b ps,H b=some (.tbl ps)->∃more,H' b=some (.tbl (ps++more)))
  (ns:∀m,s.heap.Ns X.env.locals m->h'.Ns X.env.locals m) (hok:HOk X.prog X.w H' h') (hg:AllBare g') :
  Inv X pins σ H' { s with heap:=h',gens:=g',drawn:=d',toks:=t' }:=by
 have neL:∀b o,X.s₀.heap.get? b=some o->b ≠ X.env.locals:=λb o e=>ZE (ZB (Zq e) I.ok.above)
 have neC:∀b o,X.s₀.heap.get? b=some o->b ∉ X.ex->b ∉ ch:=λb o e hx hb=>by
  rcases (hch b hb).1 with z |z
  ·exact hx z
  ·exact absurd (ZB (Zq e) z) (ZM _)
 have cellK:∀x c,X.env.cells.lookup x=some c->∀v,s.heap.IsCell c v->h'.IsCell c v:=λx c e v ⟨o,ho,hd⟩=>by
  have nch:c ∉ ch:=λz=>(hch c z).2.2.1 x c e rfl;by_cases hc:c ∈ X.fs
  ·obtain⟨sl,q⟩:=slot c o (I.cne x c e) hc nch ho (I.freeC x c e);exact⟨_,q,hd⟩
  ·exact⟨o,keep c o (I.cne x c e) hc nch ho (I.freeC x c e),hd⟩
 refine⟨I.ok,I.os,hg,⟨λb o e n hb hx=>?_,λb o e n hb hx=>?_,λb o e n hx=>?_,λb o e hx=>?_,λb xs e=>tups b xs (I.base.tups b xs e),λb o xs e=>frzs b o xs (I.base.frzs b o xs e),λb ps e=>?_⟩,?_,λx c e=>?_,?_,λx c e=>?_,λp hp=>?_,hok,I.len⟩
 ·exact keep b o (neL b o e) hb (neC b o e hx) (I.base.keep b o e n hb hx) (I.base.free b o e n hx)
 ·obtain⟨sl,e1⟩:=I.base.slot b o e n hb hx;obtain⟨sl',e2⟩:=slot b _ (neL b o e) hb (neC b o e hx) e1 (I.base.free b o e n hx);exact⟨sl',e2⟩
 ·obtain⟨o',e1⟩:=I.base.there b o e hx;exact free b o' (neC b o e hx) e1 (I.base.free b o e n hx)
 ·obtain⟨o',e1⟩:=I.base.there b o e hx;exact there b o' (neC b o e hx) e1
 ·obtain⟨m1,e1⟩:=I.base.tbls b ps e;obtain⟨m2,e2⟩:=tbls b _ e1;exact⟨m1++m2,by rw[e2,Array.append_assoc]⟩
 ·obtain⟨m,hn,hl⟩:=I.loc;refine⟨m,ns m hn,λi x v e1 e2 e3=>?_⟩;obtain⟨u,r,l⟩:=hl i x v e1 e2 e3;refine⟨u,r,?_⟩;rcases l with l |⟨k,c,e,z⟩
  ·exact .inl l
  ·exact .inr ⟨k,c,e,cellK x c e _ z⟩
 ·obtain⟨v,z⟩:=I.cell x c e;exact⟨v,cellK x c e v z⟩
 ·obtain⟨m,⟨o,_,_,ho,_⟩,_⟩:=I.loc;exact free _ o (λz=>(hch _ z).2.1 rfl) ho I.free
 ·obtain⟨v,o,ho,hd⟩:=I.cell x c e;exact free c o (λz=>(hch c z).2.2.1 x c e rfl) ho (I.freeC x c e)
 ·obtain⟨e,n,ne,nf,d⟩:=I.pin p hp;have nch:p.1 ∉ ch:=λz=>(hch p.1 z).2.2.2 p hp rfl;exact⟨keep p.1 p.2 ne nf nch e n,free p.1 p.2 nch e n,ne,nf,d⟩
theorem Inv.un{t':Nat}(I:Inv X pins σ H s)(u:Un X.fs [] H H' s.heap h')(hok:HOk X.prog X.w H' h'):Inv X pins σ H' { s with heap:=h',toks:=t' }:=by
 obtain⟨m,⟨o,es,ep,ho,r⟩,_⟩:=id I.loc;obtain⟨sl,hL⟩:=u.any ho I.free (by simp)
 exact I.step (g':=s.gens) (d':=s.drawn) (ch:=[]) (λ_ z=>nomatch z) (λb o _ hb _ e n=>u.keep b o e n hb (by simp)) (λb o _ hb _ e n=>u.slot b o e n hb (by simp)) (λb o _ e n=>u.free b o e n (by simp)) (λb o _ e=>u.there b o e (by simp)) u.tups u.frzs u.tbls (λm' hm=>by
  obtain⟨o',es',ep',ho',r'⟩:=hm;rw[ho] at ho';cases ho';exact⟨_,es',ep',hL,r'⟩) hok I.bare
theorem Inv.call{g':Array GenState}{t':Nat}{d':Drawn}{ch:List Addr}(I:Inv X pins σ H s)(u:Un (frs X.stack) ch H H' s.heap h')(hok:HOk X.prog X.w H' h')(hg:AllBare g')
  (hch:∀b ∈ ch,(b ∈ X.ex\/X.s₀.heap.objs.size<=b)/\b ≠ X.env.locals/\(∀x c,X.env.cells.lookup x=some c->c ≠ b)/\∀p ∈ X.pn++pins,p.1 ≠ b) :
  Inv X pins σ H' { s with heap:=h',gens:=g',drawn:=d',toks:=t' }:=by
 obtain⟨m,⟨o,es,ep,ho,r⟩,_⟩:=id I.loc;obtain⟨sl,hL⟩:=u.any ho I.free λz=>(hch _ z).2.1 rfl
 exact I.step (ch:=ch) hch (λb o hL hb hc e n=>u.keep b o e n (λz=>(Zn.mp (I.stkSub b z)).elim hL hb) hc) (λb o _ _ hc e n=>u.any e n hc) (λb o hc e n=>u.free b o e n hc) (λb o hc e=>u.there b o e hc) u.tups u.frzs u.tbls (λm' hm=>by
  obtain⟨o',es',ep',ho',r'⟩:=hm;rw[ho] at ho';cases ho';exact⟨_,es',ep',hL,r'⟩) hok hg
theorem Inv.turned{t':Nat}{it:Addr}(I:Inv X pins σ H s)(k:∀b o,b ≠ it->s.heap.get? b=some o->h'.get? b=some o)(hn:H it=none)(hL:it ≠ X.env.locals)
  (h1:it ∈ X.ex\/X.s₀.heap.objs.size<=it) (h2:∀x c,X.env.cells.lookup x=some c->c ≠ it) (h3:∀p ∈ X.pn++pins,p.1 ≠ it):Inv X pins σ H { s with heap:=h',toks:=t' }:=by
 have nit:∀b u,H b=some u->b ≠ it:=λb u e z=>by rw[z,hn] at e;cases e
 refine I.step (g':=s.gens) (d':=s.drawn) (ch:=[it]) (λb hb=>?_) (λb o _ _ hc e _=>k b o (λz=>hc (by simp[z])) e) (λb o _ _ hc e _=>⟨o.slots,k b o (λz=>hc (by simp[z])) e⟩) (λ_ _ _ _ n=>n)
  (λb o hc e=>⟨o,k b o (λz=>hc (by simp[z])) e⟩) (λ_ _ e=>e) (λ_ _ _ e=>e) (λb ps e=>⟨#[],by rw[e];simp⟩) (λm hm=>?_) (λb u e=>?_) I.bare
 ·have e:b=it:=by simpa using hb
  subst e;exact⟨h1,hL,h2,h3⟩
 ·obtain⟨o,es,ep,ho,r⟩:=hm;exact⟨o,es,ep,k _ o (Ne.symm hL) ho,r⟩
 ·refine(I.hok b u e).stay (λc v hc q=>k c v ?_ q) (λ_ q=>q) λ_ _ q=>q;rcases hc with z |z
  ·rw[z];exact nit b u e
  ·exact nit c _ z
theorem Inv.tok(I:Inv X pins σ H s)(t:Nat):Inv X pins σ H { s with toks:=t }:=I.un (h':=s.heap) (t':=t) Un.refl I.hok
theorem Inv.kept{t':Nat}(I:Inv X pins σ H s)(k:∀b u,s.heap.get? b=some u->h'.get? b=some u):Inv X pins σ H { s with heap:=h',toks:=t' }:=I.un (Un.kept k) (I.hok.kept k)
theorem Inv.laid{a:Addr}{o:HO}{t':Nat}(I:Inv X pins σ H s)(k:∀b u,s.heap.get? b=some u->h'.get? b=some u)(hp:s.heap.objs.size<=a)(new:bf X.prog X.w (upd H a o) h' a o) :
  Inv X pins σ (upd H a o) { s with heap:=h',toks:=t' }:=I.un (Un.laid k hp (I.hok.fresh hp)) (I.hok.laid k hp new)
theorem Inv.write{t':Nat}(I:Inv X pins σ H s)(mu:Mut (H x))(he:e=x\/H e=some (.own x))(k:∀b u,b ≠ e->s.heap.get? b=some u->h'.get? b=some u)(heo:∃u,h'.get? e=some u)
  (new:bf X.prog X.w (upd H x o) h' x o):Inv X pins σ (upd H x o) { s with heap:=h',toks:=t' }:=I.un (Un.write mu he k heo) (I.hok.write mu he k heo new)
theorem Inv.pins_of(I:Inv X pins σ H s)(h:∀p ∈ pins',s.heap.get? p.1=some p.2/\H p.1=none/\p.1 ≠ X.env.locals/\p.1 ∉ X.fs/\∀v,p.2.data ≠ .cell v):Inv X pins' σ H s:=
 ⟨I.ok,I.os,I.bare,I.base,I.loc,I.cell,I.free,I.freeC,λp hp=>(ZO.mp hp).elim (λz=>I.pin p (ZR _ z)) (h p),I.hok,I.len⟩
theorem o7{N:List Str}(hN:N.Nodup){i j:Nat}{x:Str}(a:N[i]?=some x)(b:N[j]?=some x):i=j:=by
 obtain⟨h1,e1⟩:=Zb.mp a;obtain⟨h2,e2⟩:=Zb.mp b;exact(YS hN).mp (e1.trans e2.symm)
theorem l9{M:Model}{A:Around}{E:Value->Shared->Prop}{i:Nat}{x:Str}{v:V}{u:Value}{Q:Unit->Shared->Prop}(I:Inv X pins σ H s)(hN:X.N.Nodup)(hi:X.N[i]?=some x)(hx:Loc X.env.scope x)(r:az v u)
  (h:∀s',Inv X pins (σ.set i (some v)) H s'->(∃a,Heap.SameBut a s.heap s'.heap/\(a=X.env.locals\/X.env.cells.lookup x=some a))->Q () s') (hf:X.fn x=true\/X.env.scope.names.lookup x=some .local:=by first |exact .inl rfl |exact .inr rfl |assumption):wpAny M A (storeName X.env x u) Q E s:=by
 obtain⟨m,hn,hl⟩:=id I.loc;have hcls:(X.env.scope.kind == .class || (X.env.scope.kind == .module && X.env.locals != X.env.globals))=false:=by rw[I.ok.kind];rfl
 have hiσ:i < σ.length:=by rw[I.len];exact(Zb.mp hi).1
 have cne:=I.cne
 have tracked:∀ {a:Addr} {h':Heap},(∃o,s.heap.get? a=some o/\H a=none)->Heap.SameBut a s.heap h'->HOk X.prog X.w H h':=λ{a h'} ha hs b ob e=>by
  obtain⟨_,_,hfree⟩:=ha;refine(I.hok b ob e).stay (λc w' hc q=>(hs.2 c ?_).trans q) (λ_ q=>q) λ_ _ q=>q;rintro rfl;rcases hc with rfl |hc
  ·rw[hfree] at e;cases e
  ·rw[hfree] at hc;cases hc
 rcases hx with hk |hk
 ·refine wpAny_storeName_local hk hn (λh' hn' hs=>?_) hcls;obtain⟨oL,_,_,hoL,_⟩:=id hn;refine h _ ⟨I.ok,I.os,I.bare,⟨λb o e n hb hx=>?_,λb o e n hb hx=>?_,I.base.free,λb o e hx=>?_,I.base.tups,I.base.frzs,I.base.tbls⟩,⟨_,hn',λj y v' e1 e2 e3=>?_⟩,λy c e=>?_,I.free,I.freeC,λp hp=>?_,tracked ⟨oL,hoL,I.free⟩ hs,by simpa using I.len⟩ ⟨_,hs,.inl rfl⟩
  ·exact(hs.2 b (ZE (ZB (Zq e) I.ok.above))).trans (I.base.keep b o e n hb hx)
  ·obtain⟨sl,e1⟩:=I.base.slot b o e n hb hx;exact⟨sl,(hs.2 b (ZE (ZB (Zq e) I.ok.above))).trans e1⟩
  ·obtain⟨o',e1⟩:=I.base.there b o e hx;exact⟨o',(hs.2 b (ZE (ZB (Zq e) I.ok.above))).trans e1⟩
  ·by_cases hj:j=i
   ·subst hj;rw[hi] at e1;cases e1;rw[ZS hiσ] at e2;cases e2;exact⟨u,r,.inl ⟨hk,by simp⟩⟩
   ·rw[Zp (Ne.symm hj)] at e2;obtain⟨u',r',q⟩:=hl j y v' e1 e2 e3;refine⟨u',r',?_⟩;rcases q with ⟨k,e⟩ |⟨k,c,e,z⟩
    ·refine .inl ⟨k,?_⟩;have:y ≠ x:=λe=>hj (o7 hN e1 (e ▸ hi));simp[this,e]
    ·exact .inr ⟨k,c,e,z.sameBut hs (cne y c e)⟩
  ·obtain⟨w',z⟩:=I.cell y c e;exact⟨w',z.sameBut hs (cne y c e)⟩
  ·obtain⟨e,n,ne,nf,d⟩:=I.pin p hp;exact⟨(hs.2 p.1 ne).trans e,n,ne,nf,d⟩
 ·have hfn:X.fn x=true:=by
   rcases hf with z |z
   ·exact z
   ·rw[z] at hk;cases hk
  obtain⟨c,hc⟩:=I.ok.has x (.inl hk);obtain⟨w',z⟩:=I.cell x c hc;refine wpAny_storeName_cell I.ok.kind hk hc z (λh' hc' hs=>?_);obtain⟨oc,hoc,hocd⟩:=id z;refine h { s with heap:=h' } ⟨I.ok,I.os,I.bare,⟨λb o e n hb hx=>?_,λb o e n hb hx=>?_,I.base.free,λb o e hx=>?_,I.base.tups,I.base.frzs,I.base.tbls⟩,⟨m,hn.sameBut hs (Ne.symm (cne x c hc)),λj y v' e1 e2 e3=>?_⟩,λy c' e=>?_,I.free,I.freeC,λp hp=>?_,tracked ⟨oc,hoc,I.freeC x c hc⟩ hs,by simpa using I.len⟩ ⟨c,hs,.inr hc⟩
  ·exact(hs.2 b (ZE (ZB (Zq e) (I.ok.cab x c hfn hc)))).trans (I.base.keep b o e n hb hx)
  ·obtain⟨sl,e1⟩:=I.base.slot b o e n hb hx;exact⟨sl,(hs.2 b (ZE (ZB (Zq e) (I.ok.cab x c hfn hc)))).trans e1⟩
  ·obtain⟨o',e1⟩:=I.base.there b o e hx;exact⟨o',(hs.2 b (ZE (ZB (Zq e) (I.ok.cab x c hfn hc)))).trans e1⟩
  ·by_cases hj:j=i
   ·subst hj;rw[hi] at e1;cases e1;rw[ZS hiσ] at e2;cases e2;exact⟨u,r,.inr ⟨.inl hk,c,hc,hc'⟩⟩
   ·rw[Zp (Ne.symm hj)] at e2;obtain⟨u',r',q⟩:=hl j y v' e1 e2 e3;refine⟨u',r',?_⟩;rcases q with q |⟨k,c',e,z'⟩
    ·exact .inl q
    ·refine .inr ⟨k,c',e,z'.sameBut hs ?_⟩;rintro rfl;exact hj (o7 hN e1 (I.ok.inj _ _ _ e hc ▸ hi))
  ·by_cases hcc:c'=c
   ·subst hcc;exact⟨_,hc'⟩
   ·obtain⟨w2,z2⟩:=I.cell y c' e;exact⟨w2,z2.sameBut hs hcc⟩
  ·obtain⟨e,n,ne,nf,d⟩:=I.pin p hp;refine⟨(hs.2 p.1 ?_).trans e,n,ne,nf,d⟩;intro q;rw[q,hoc] at e;have q':oc=p.2:=Option.some.inj e;exact d w' (by rw[<-q'];exact hocd)
theorem cA{i:Nat}(I:Inv X pins σ H s)(hN:X.N.Nodup)(hi:X.N[i]?=some x)(hx:Loc X.env.scope x)(r:az v u)
  (h:∀s',Inv X pins (σ.set i (some v)) H s'->Q () s') (hf:X.fn x=true\/X.env.scope.names.lookup x=some .local:=by first |exact .inl rfl |exact .inr rfl |assumption):wpAny M A (storeName X.env x u) Q E s:=
 l9 I hN hi hx r (λs' I' _=>h s' I') hf
theorem Inv.call'(I:Inv X pins σ H s)(ho:s'.os=s.os)(u:Un (frs X.stack) ch H H' s.heap s'.heap)(hok:HOk X.prog X.w H' s'.heap)(hg:AllBare s'.gens)
  (hch:∀b ∈ ch,(b ∈ X.ex\/X.s₀.heap.objs.size<=b)/\b ≠ X.env.locals/\(∀x c,X.env.cells.lookup x=some c->c ≠ b)/\∀p ∈ X.pn++pins,p.1 ≠ b):Inv X pins σ H' s':=by
 obtain⟨h',g',d',t',o'⟩:=s';have e:o'=s.os:=ho;subst e;exact I.call (g':=g') (t':=t') (d':=d') u hok hg hch
end
@[inline]abbrev XK:=Value->Option Addr->Hp->Prop
@[inline]abbrev St:=List (Option V)
@[inline]abbrev VK:=V->Hp->Prop
@[inline]abbrev TE:=St->Hp->VK->Prop
@[inline]abbrev TT:=St->Hp->(Bool->Hp->Prop)->Prop
@[inline]abbrev TA:=St->Hp->(List V->Hp->Prop)->Prop
structure Ends where
 nx:St->Hp->Prop
 rt:VK
 bk:St->Hp->Prop:=λ_ _=>False
 ct:St->Hp->Prop:=λ_ _=>False
@[inline]abbrev TS:=Ends->St->Hp->Prop
def EP(X:Cx)(pins:List (Addr × Obj))(σ:St)(Q:VK)(u:Value)(s':Shared):Prop:=∃v H',Inv X pins σ H' s'/\az v u/\Q v H'
def TP(X:Cx)(pins:List (Addr × Obj))(σ:St)(Q:Bool->Hp->Prop)(b:Bool)(s':Shared):Prop:=∃H',Inv X pins σ H' s'/\Q b H'
def AP(X:Cx)(pins:List (Addr × Obj))(σ:St)(Q:List V->Hp->Prop)(us:List Value)(s':Shared):Prop:=∃vs H',Inv X pins σ H' s'/\aH vs us/\Q vs H'
def SP(X:Cx)(pins:List (Addr × Obj))(D:Ends)(f:Flow)(s':Shared):Prop:=
 match f with
 |.next=>∃σ' H',Inv X pins σ' H' s'/\D.nx σ' H'
 |.brk=>∃σ' H',Inv X pins σ' H' s'/\D.bk σ' H'
 |.cont=>∃σ' H',Inv X pins σ' H' s'/\D.ct σ' H'
 |.ret u=>∃v σ' H',Inv X pins σ' H' s'/\az v u/\D.rt v H'
def PE(X:Cx)(e:Expr)(t:TE):Prop:=
 ∀ (pins:List (Addr × Obj)) (s:Shared) (σ:St) (H:Hp) (Q:VK),Inv X pins σ H s->t σ H Q->wpAny (model X.prog X.w) X.A (eval e X.env) (EP X pins σ Q) X.xe s
def PT(X:Cx)(e:Expr)(t:TT):Prop:=
 ∀ (pins:List (Addr × Obj)) (s:Shared) (σ:St) (H:Hp) (Q:Bool->Hp->Prop),Inv X pins σ H s->t σ H Q->wpAny (model X.prog X.w) X.A (isTrue e X.env (eval e X.env)) (TP X pins σ Q) X.xe s
def PW(X:Cx)(e:Expr)(t:TT):Prop:=
 ∀ (whole:Sem Value) (pins:List (Addr × Obj)) (s:Shared) (σ:St) (H:Hp) (Q:Bool->Hp->Prop),Inv X pins σ H s->t σ H Q->wpAny (model X.prog X.w) X.A (isTrue e X.env whole) (TP X pins σ Q) X.xe s
theorem PW.pt(h:PW X e t):PT X e t:=h _
def PA(X:Cx)(es:List Expr)(t:TA):Prop:=
 ∀ (pos:Pos) (pins:List (Addr × Obj)) (s:Shared) (σ:St) (H:Hp) (Q:List V->Hp->Prop),Inv X pins σ H s->t σ H Q->wpAny (model X.prog X.w) X.A (spliced (backTo pos (V6 es X.env))) (AP X pins σ Q) X.xe s
def PS(X:Cx)(st:Stmt)(t:TS):Prop:=
 ∀ (pins:List (Addr × Obj)) (s:Shared) (σ:St) (H:Hp) (D:Ends),Inv X pins σ H s->t D σ H->wpAny (model X.prog X.w) X.A (exec st X.env) (SP X pins D) X.xe s
def PSs(X:Cx)(st:List Stmt)(t:TS):Prop:=
 ∀ (pins:List (Addr × Obj)) (s:Shared) (σ:St) (H:Hp) (D:Ends),Inv X pins σ H s->t D σ H->wpAny (model X.prog X.w) X.A (execs st X.env) (SP X pins D) X.xe s
theorem thn{α:Type}{t:Sem α}{Q Q':α->Shared->Prop}{M:Model}{A:Around}{E:Value->Shared->Prop}{s:Shared}(h:wpAny M A t Q E s)(hQ:∀a s,Q a s->Q' a s):wpAny M A t Q' E s:=Ut h hQ λ_ _ x=>x
section
variable {X:Cx}
def Lr(i:Nat):TE:=λσ H Q=>∃v,σ[i]?=some (some v)/\Q v H
def tC(v:V):TE:=λ_ H Q=>Q v H
theorem Gu{i:Nat}(hN:X.N[i]?=some x)(hv:Vis X.env.scope x)(hd:(x == ("__debug__" : Str))=false:=by decide)(hcd:(x == ("__classdict__" : Str))=false:=by decide):PE X (.Name x pos) (Lr i):=by
 intro pins s σ H Q I h;obtain⟨v,e,h⟩:=h;obtain⟨m,hn,hl⟩:=I.loc;obtain⟨u,r,l⟩:=hl i x v hN e hv;have fin:EP X pins σ Q u s:=⟨v,H,I,r,h⟩;rcases l with ⟨hk,hm⟩ |⟨hk,c,hc,hcell⟩
 ·exact wpAny_Name (wpAny_loadName_local I.ok.kind hk hn hm fin) hd
 ·rcases hk with hk |hk
  ·exact wpAny_Name (wpAny_loadName_cell I.ok.kind hk hc hcell fin) hd
  ·exact wpAny_Name (wpAny_loadName_free I.ok.kind hk hc hcell fin hcd) hd
theorem nu{i j pos}:PE X (.Constant (.int i) j pos) (tC (.int i)):=λ_ _ _ H _ I h=>wpAny_Constant_int ⟨.int i,H,I.tok _,⟨_,rfl⟩,h⟩
theorem Ls{b j pos}:PE X (.Constant (.bool b) j pos) (tC (.bl b)):=λ_ _ _ H _ I h=>Constant_bool ⟨.bl b,H,I,rfl,h⟩
theorem xm{j pos}:PE X (.Constant .none j pos) (tC .non):=λ_ _ _ H _ I h=>Constant_none ⟨.non,H,I,rfl,h⟩
theorem Gv{x j pos}:PE X (.Constant (.str x) j pos) (tC (.str x)):=λ_ _ _ H _ I h=>Calls.Constant_str ⟨.str x,H,I.tok _,⟨_,rfl⟩,h⟩
def Gl(X:Cx)(x:Str):Prop:=X.env.kindOf x=some .globalImplicit
theorem tJ(I:Inv X pins σ H s)(hg:Gl X x)(hm:X.mg x=some u)(h:Q u s)
  (hd:(x == ("__debug__" : Str))=false:=by decide):wpAny (model X.prog X.w) X.A (eval (.Name x pos) X.env) Q E s:=
 Wr I.ok.kind hg (Calls.loadGlobal_global (by rw[I.ok.glob];exact I.mod.glob.keeps I.bk) hm h) hd
theorem cV(I:Inv X pins σ H s)(hg:Gl X x)(hm:X.mg x=none)(hv:Vt x=some u)(h:Q u s)
  (hn:x ≠ "__name__" := by decide) (hd:(x == ("__debug__" : Str))=false:=by decide):wpAny (model X.prog X.w) X.A (eval (.Name x pos) X.env) Q E s:=by
 obtain⟨mb,h1,h2⟩:=I.mod.blt;exact Wr I.ok.kind hg (Calls.loadGlobal_builtin (by rw[I.ok.glob];exact I.mod.glob.keeps I.bk) hm (by rw[I.ok.blt];exact h1.keeps I.bk) ((h2 x hn).trans hv) h) hd
theorem BD(hg:Gl X x)(hm:X.mg x=some u)(r:az v u)(hd:(x == ("__debug__" : Str))=false:=by decide):PE X (.Name x pos) (tC v):=
 λ_ _ _ H _ I h=>tJ I hg hm ⟨v,H,I,r,h⟩ hd
theorem gU(hg:Gl X x)(hm:X.mg x=none)(hv:Vt x=some u)(r:az v u)(hn:x ≠ "__name__" := by decide)(hd:(x == ("__debug__" : Str))=false:=by decide):PE X (.Name x pos) (tC v):=
 λ_ _ _ H _ I h=>cV I hg hm hv ⟨v,H,I,r,h⟩ hn hd
variable {a b:Expr} {ta tb:TE} {pos:Pos}
variable {tA tB':TT} {rest:List Expr}
def Lu(t u:TT):TT:=λσ H Q=>t σ H λc H1=>if c=true then u σ H1 Q else Q false H1
def tOr(t u:TT):TT:=λσ H Q=>t σ H λc H1=>if c=true then Q true H1 else u σ H1 Q
def Lv(t:TT):TT:=λσ H Q=>t σ H λc H1=>Q (!c) H1
theorem BE(ha:PT X a tA):PW X (.BoolOp .And [a] pos) tA:=by
 intro wh pins s σ H Q I h;refine isTrue_and (thn (ha pins s σ H Q I h) λc s1 e=>?_);cases c with
 |true=>exact isTrue_and_nil e
 |false=>exact e
theorem Gw(ha:PT X a tA):PW X (.BoolOp .Or [a] pos) tA:=by
 intro wh pins s σ H Q I h;refine isTrue_or (thn (ha pins s σ H Q I h) λc s1 e=>?_);cases c with
 |false=>exact isTrue_or_nil e
 |true=>exact e
theorem xn(ha:PT X a tA)(hb:PW X (.BoolOp .And (b::rest) pos) tB'):PW X (.BoolOp .And (a::b::rest) pos) (Lu tA tB'):=by
 intro wh pins s σ H Q I h;refine isTrue_and (thn (ha pins s σ H _ I h) λc s1 ⟨H1,I1,q1⟩=>?_);cases c with
 |true=>exact hb wh pins s1 σ H1 Q I1 q1
 |false=>exact⟨H1,I1,q1⟩
theorem Fm(ha:PT X a tA)(hb:PW X (.BoolOp .Or (b::rest) pos) tB'):PW X (.BoolOp .Or (a::b::rest) pos) (tOr tA tB'):=by
 intro wh pins s σ H Q I h;refine isTrue_or (thn (ha pins s σ H _ I h) λc s1 ⟨H1,I1,q1⟩=>?_);cases c with
 |true=>exact⟨H1,I1,q1⟩
 |false=>exact hb wh pins s1 σ H1 Q I1 q1
theorem Gx(ha:PT X a tA):PT X (.UnaryOp .Not a pos) (Lv tA):=by
 intro pins s σ H Q I h;exact isTrue_not (ha pins s σ H (λc H1=>Q (!c) H1) I h)
def Fn(ta tb:TE):TE:=λσ H Q=>ta σ H λx H1=>∃c,x = .bl c/\if c=true then tb σ H1 Q else Q (.bl false) H1
def Lx(ta tb:TE):TE:=λσ H Q=>ta σ H λx H1=>∃c,x = .bl c/\if c=true then Q (.bl true) H1 else tb σ H1 Q
def Fo(ta:TE):TE:=λσ H Q=>ta σ H λx H1=>∃c,x = .bl c/\Q (.bl (!c)) H1
theorem xo{op}(h:PE X a t):PE X (.BoolOp op [a] pos) t:=λpins s σ H Q I hw=>BoolOp_one (h pins s σ H Q I hw)
theorem xq(ha:PE X a ta)(hb:PE X (.BoolOp .And (b::rest) pos) tb):PE X (.BoolOp .And (a::b::rest) pos) (Fn ta tb):=by
 intro pins s σ H Q I h;refine BoolOp_and (thn (ha pins s σ H _ I h) λv s1 ⟨x,H1,I1,r1,q1⟩=>?_);obtain⟨c,rfl,q1⟩:=q1;cases r1;refine UK ?_;cases c with
 |true=>exact hb pins s1 σ H1 Q I1 q1
 |false=>exact⟨.bl false,H1,I1,rfl,q1⟩
theorem Fp(ha:PE X a ta)(hb:PE X (.BoolOp .Or (b::rest) pos) tb):PE X (.BoolOp .Or (a::b::rest) pos) (Lx ta tb):=by
 intro pins s σ H Q I h;refine BoolOp_or (thn (ha pins s σ H _ I h) λv s1 ⟨x,H1,I1,r1,q1⟩=>?_);obtain⟨c,rfl,q1⟩:=q1;cases r1;refine UK ?_;cases c with
 |false=>exact hb pins s1 σ H1 Q I1 q1
 |true=>exact⟨.bl true,H1,I1,rfl,q1⟩
theorem Gy(ha:PE X a ta):PE X (.UnaryOp .Not a pos) (Fo ta):=by
 intro pins s σ H Q I h;refine UnaryOp_ (thn (ha pins s σ H _ I h) λv s1 ⟨x,H1,I1,r1,q1⟩=>?_);obtain⟨c,rfl,q1⟩:=q1;cases r1;exact not_of (UK ⟨.bl (!c),H1,I1,rfl,q1⟩)
def tIf(t:TT)(ta tb:TE):TE:=λσ H Q=>t σ H λc H1=>if c=true then ta σ H1 Q else tb σ H1 Q
theorem xr{c:Expr}(hc:PT X c tA)(ha:PE X a ta)(hb:PE X b tb):PE X (.IfExp c a b pos) (tIf tA ta tb):=by
 intro pins s σ H Q I h;refine wpAny_IfExp (thn (hc pins s σ H _ I h) λd s1 ⟨H1,I1,q1⟩=>?_);cases d with
 |true=>exact ha pins s1 σ H1 Q I1 q1
 |false=>exact hb pins s1 σ H1 Q I1 q1
end
def SqL(K:W6)(H:Hp)(a:Addr)(xs:List V):Prop:=
 Rd H a (.lst xs) ∨
  ∃ (o:Obj) (its:Array Value) (n:Nat),K.lookup a=some o/\o.cls = .type "list"/\o.dict=none/\o.data = .seq its n/\its.size<=sizeLine/\aH xs its.toList
def SqT(K:W6)(H:Hp)(a:Addr)(xs:List V):Prop:=
 Rd H a (.tup xs) ∨
  ∃ (o:Obj) (its:Array Value) (n:Nat),K.lookup a=some o/\o.cls = .type "tuple"/\o.data = .seq its n/\its.size<=sizeLine/\aH xs its.toList
abbrev OC:Value->Option V
 |.none=>some .non
 |.bool b=>some (.bl b)
 |.int i _=>some (.int i)
 |.str x _=>some (.str x)
 |.bytes b _=>some (.byt b)
 |.float b _=>some (.flt b)
 |.ref a=>some (.ref a)
 |.type n=>some (.ty n)
 |_=>none
theorem az.abs(r:az x u):OC u=some x:=by
 cases x with
 |non=>cases r;rfl
 |bl _=>cases r;rfl
 |int _=>obtain⟨t,rfl⟩:=r;rfl
 |str _=>obtain⟨t,rfl⟩:=r;rfl
 |byt _=>obtain⟨t,rfl⟩:=r;rfl
 |flt _=>obtain⟨t,rfl⟩:=r;rfl
 |ref _=>cases r;rfl
 |ty _=>cases r;rfl
theorem az.inj{x y:V}{u:Value}(r:az x u)(q:az y u):x=y:=Option.some.inj (r.abs.symm.trans q.abs)
theorem aH.inj:∀ {xs ys:List V} {us:List Value},aH xs us->aH ys us->xs=ys
 |_,_,_,.nil,.nil=>rfl
 |_,_,_,.cons r t,.cons r' t'=>by rw[r.inj r',aH.inj t t']
section
variable {X:Cx} {pins:List (Addr × Obj)} {σ:St} {H:Hp} {s:Shared} {a:Addr} {xs ys:List V}
theorem SqL.of{K:W6}(h:H a=some (.lst xs)):SqL K H a xs:=.inl (.inl h)
theorem SqT.of{K:W6}(h:H a=some (.tup xs)):SqT K H a xs:=.inl (.inl h)
theorem Inv.list(I:Inv X pins σ H s)(h:SqL X.K H a xs):∃its:List Value,aH xs its/\PlainL s.heap a its.toArray/\xs.length<=sizeLine:=by
 rcases h with h |⟨o,its,n,hk,hc,hd,hs,hz,r⟩
 ·obtain⟨z,its,n,r,e⟩:=h.ok I.hok;exact⟨its,r,⟨_,n,e,rfl,rfl,rfl⟩,z⟩
 ·refine⟨its.toList,r,⟨o,n,I.kIn a o hk,hc,hd,by simpa using hs⟩,?_⟩;have e:=r.length;simp only[Zw] at e
  lia
theorem Inv.tuple(I:Inv X pins σ H s)(h:SqT X.K H a xs):∃its:List Value,aH xs its/\IsTup s.heap a its.toArray/\xs.length<=sizeLine:=by
 rcases h with h |⟨o,its,n,hk,hc,hs,hz,r⟩
 ·obtain⟨z,its,r,p⟩:=h.ok I.hok;exact⟨its,r,p.isTup,z⟩
 ·refine⟨its.toList,r,⟨o,I.kIn a o hk,hc,n,by simpa using hs⟩,?_⟩;have e:=r.length;simp only[Zw] at e
  lia
theorem Inv.list_inj(I:Inv X pins σ H s)(h:SqL X.K H a xs)(h':SqL X.K H a ys):xs=ys:=by
 obtain⟨its,r,⟨o,n,e,_,_,d⟩,_⟩:=I.list h;obtain⟨its',r',⟨o',n',e',_,_,d'⟩,_⟩:=I.list h';rw[e] at e';cases e';rw[d] at d';injection d' with d1 _;have:its=its':=by simpa using congrArg Array.toList d1
 subst this;exact r.inj r'
theorem Inv.tuple_inj(I:Inv X pins σ H s)(h:SqT X.K H a xs)(h':SqT X.K H a ys):xs=ys:=by
 obtain⟨its,r,⟨o,e,_,n,d⟩,_⟩:=I.tuple h;obtain⟨its',r',⟨o',e',_,n',d'⟩,_⟩:=I.tuple h';rw[e] at e';cases e';rw[d] at d';injection d' with d1 _;have:its=its':=by simpa using congrArg Array.toList d1
 subst this;exact r.inj r'
end
noncomputable abbrev Cx.wish(X:Cx)(E:Value->Shared->Prop):Cx:={ X with xe:=E }
noncomputable abbrev Cx.nox(X:Cx):Cx:=X.wish λ_ _=>False
theorem Cx.Ok.wish{X:Cx}(ok:X.Ok)(E:Value->Shared->Prop):(X.wish E).Ok:=
 ⟨ok.mod,ok.kind,ok.glob,ok.blt,ok.above,ok.inj,ok.has,ok.cab,ok.hd,ok.frames,ok.stk,ok.exf,ok.bs,ok.bsz,ok.noex,ok.exfs,ok.funs,ok.frf⟩
theorem Cx.Ok.unwish{X:Cx}{E:Value->Shared->Prop}(ok:(X.wish E).Ok):X.Ok:=
 ⟨ok.mod,ok.kind,ok.glob,ok.blt,ok.above,ok.inj,ok.has,ok.cab,ok.hd,ok.frames,ok.stk,ok.exf,ok.bs,ok.bsz,ok.noex,ok.exfs,ok.funs,ok.frf⟩
section
variable {X:Cx} {pins:List (Addr × Obj)} {σ:St} {H:Hp} {s:Shared} {E:Value->Shared->Prop}
theorem Inv.wish(I:Inv X pins σ H s)(E:Value->Shared->Prop):Inv (X.wish E) pins σ H s:=⟨I.ok.wish E,I.os,I.bare,I.base,I.loc,I.cell,I.free,I.freeC,I.pin,I.hok,I.len⟩
theorem Inv.unwish(I:Inv (X.wish E) pins σ H s):Inv X pins σ H s:=⟨I.ok.unwish,I.os,I.bare,I.base,I.loc,I.cell,I.free,I.freeC,I.pin,I.hok,I.len⟩
theorem SP.unwish{D:Ends}{f:Flow}{s':Shared}(h:SP (X.wish E) pins D f s'):SP X pins D f s':=by
 cases f with
 |next=>obtain⟨σ',H',I,q⟩:=h;exact⟨σ',H',I.unwish,q⟩
 |brk=>obtain⟨σ',H',I,q⟩:=h;exact⟨σ',H',I.unwish,q⟩
 |cont=>obtain⟨σ',H',I,q⟩:=h;exact⟨σ',H',I.unwish,q⟩
 |ret u=>obtain⟨v,σ',H',I,r,q⟩:=h;exact⟨v,σ',H',I.unwish,r,q⟩
theorem PSs.nox{st:List Stmt}{t:TS}(h:PSs X.nox st t):PSs X st t:=λpins s σ H D I hw=>
 Ut (h pins s σ H D (I.wish _) hw) (λ_ _ q=>q.unwish) λ_ _ z=>False.elim z
end
section
variable {X:Cx} {st:Stmt} {rest:List Stmt} {t u:TS} {e:Expr} {te:TE} {pos:Pos}
def Fq:TS:=λD σ H=>D.nx σ H
def Ly(t u:TS):TS:=λD σ H=>t { D with nx:=u D } σ H
theorem BF:PSs X [] Fq:=λ_ _ σ H _ I h=>Uk ⟨σ,H,I,h⟩
theorem xt(h1:PS X st t)(h2:PSs X rest u):PSs X (st::rest) (Ly t u):=by
 intro pins s σ H D I h;refine wpAny_execs_cons (thn (h1 pins s σ H { D with nx:=u D } I h) λf s1 q=>?_);cases f with
 |next=>
  obtain⟨σ',H',I',q⟩:=q;exact h2 pins s1 σ' H' D I' q
 |ret v=>exact q
 |brk=>exact q
 |cont=>exact q
def Fs:TS:=λD σ H=>D.ct σ H
theorem o8:PS X (.Continue pos) Fs:=λ_ _ σ H _ I h=>wpAny_Continue ⟨σ,H,I,h⟩
theorem Inv.quiet{pins:List (Addr × Obj)}{σ:St}{H:Hp}{s:Shared}(I:Inv X pins σ H s):interactive X.env=false:=by simp[interactive,I.ok.kind]
def Ft(te:TE):TS:=λD σ H=>te σ H λ_ H1=>D.nx σ H1
theorem BG(he:PE X e te)(hs:V9 e none pos.line X.env=pure false:=by rfl):PS X (.Expr e pos) (Ft te):=by
 intro pins s σ H D I h;exact wpAny_Expr_any (thn (he pins s σ H _ I h) λv s1 ⟨x,H1,I1,r1,q1⟩=>⟨σ,H1,I1,q1⟩) I.quiet hs
def Lz(te:TE):TS:=λD σ H=>te σ H D.rt
theorem Gz(he:PE X e te):PS X (.Return (some e) pos) (Lz te):=by
 intro pins s σ H D I h;exact wpAny_Return_some (thn (he pins s σ H _ I h) λv s1 ⟨x,H1,I1,r1,q1⟩=>⟨x,σ,H1,I1,r1,q1⟩)
def LA(c:TT)(t u:TS):TS:=λD σ H=>c σ H λb H1=>if b=true then t D σ H1 else u D σ H1
theorem LB{c:Expr}{a b:List Stmt}{tc:TT}(hc:PT X c tc)(ha:PSs X a t)(hb:PSs X b u):PS X (.If c a b pos) (LA tc t u):=by
 intro pins s σ H D I h;refine wpAny_If (thn (hc pins s σ H _ I h) λd s1 ⟨H1,I1,q1⟩=>?_);cases d with
 |true=>exact ha pins s1 σ H1 D I1 q1
 |false=>exact hb pins s1 σ H1 D I1 q1
def GA:TS:=λ_ _ _=>False
theorem xu:PS X st GA:=λ_ _ _ _ _ _ h=>h.elim
end
@[inline]abbrev TG:=V->St->Hp->(St->Hp->Prop)->Prop
@[inline]abbrev TGs:=List V->St->Hp->(St->Hp->Prop)->Prop
def PG(X:Cx)(target:Expr)(t:TG):Prop:=
 ∀ (pins:List (Addr × Obj)) (s:Shared) (σ:St) (H:Hp) (v:V) (u:Value) (Q:St->Hp->Prop),Inv X pins σ H s->az v u->t v σ H Q ->
  wpAny (model X.prog X.w) X.A (assign target X.env u) (λ_ s'=>∃σ' H',Inv X pins σ' H' s'/\Q σ' H') X.xe s
def PGs(X:Cx)(ts:List Expr)(t:TGs):Prop:=
 ∀ (pins:List (Addr × Obj)) (s:Shared) (σ:St) (H:Hp) (vs:List V) (us:List Value) (Q:St->Hp->Prop),Inv X pins σ H s->aH vs us->t vs σ H Q ->
  wpAny (model X.prog X.w) X.A (Vn ((Vm ts X.env).map (·.2)) us) (λ_ s'=>∃σ' H',Inv X pins σ' H' s'/\Q σ' H') X.xe s
@[inline]abbrev BH:=V->V->V->Hp->(Hp->Prop)->Prop
def GC(X:Cx)(t:BH):Prop:=
 ∀ (pins:List (Addr × Obj)) (s:Shared) (σ:St) (H:Hp) (o i v:V) (ov iv u:Value) (Q:Hp->Prop),Inv X pins σ H s->az o ov->az i iv->az v u->t o i v H Q ->
  wpAny (model X.prog X.w) X.A (setItem ov iv u) (λ_ s'=>∃H',Inv X pins σ H' s'/\Q H') X.xe s
section
variable {X:Cx} {pos:Pos}
def o9(i:Nat):TG:=λv σ H Q=>Q (σ.set i (some v)) H
theorem BI{i:Nat}(hN:X.N.Nodup)(hi:X.N[i]?=some x)(hx:Loc X.env.scope x)(hf:X.fn x=true\/X.env.scope.names.lookup x=some .local:=by first |exact .inl rfl |exact .inr rfl |assumption):PG X (.Name x pos) (o9 i):=by
 intro pins s σ H v u Q I r h;exact wpAny_assign_Name (cA I hN hi hx r (λs' I'=>⟨_,H,I',h⟩) hf)
def LC:TGs:=λvs σ H Q=>vs=[]/\Q σ H
def Fu(t:TG)(u:TGs):TGs:=λvs σ H Q=>∃v r,vs=v::r/\t v σ H λσ' H'=>u r σ' H' Q
theorem BJ:PGs X [] LC:=by
 intro pins s σ H vs us Q I r h;obtain⟨e,h⟩:=h;subst e;cases r;exact assignInOrder_nil ⟨σ,H,I,h⟩
theorem xv{e:Expr}{es:List Expr}{t:TG}{u:TGs}(h1:PG X e t)(h2:PGs X es u)
  (hs:(Vm (e::es) X.env).map (·.2)=assign e X.env::(Vm es X.env).map (·.2):=by rfl):PGs X (e::es) (Fu t u):=by
 intro pins s σ H vs us Q I r h;obtain⟨v,vr,e1,h⟩:=h;subst e1;cases r with
 |cons r rr=>
  rw[hs];refine assignInOrder_cons (thn (h1 pins s σ H _ _ _ I r h) λ_ s1 ⟨σ1,H1,I1,q1⟩=>?_);exact h2 pins s1 σ1 H1 _ _ Q I1 rr q1
def LG(K:W6)(n:Nat)(t:TGs):TG:=λv σ H Q=>∃a xs,v = .ref a/\SqT K H a xs/\xs.length=n/\t xs σ H Q
theorem GD{k:Nat}{n:Nat}(hc:X.calm=true)(h:PGs X es t)
  (hn:(Vm es X.env).length=n:=by rfl) (hst:(Vm es X.env).findIdx? (·.1)=none:=by rfl):PG X (.Tuple es k pos) (LG X.K n t):=by
 intro pins s σ H v u Q I r hw;obtain⟨a,xs,e1,hq,hl,hw⟩:=hw;subst e1;cases r;obtain⟨its,rv,ht,hz⟩:=I.tuple hq;refine assign_Tuple_tuple (I.ok.hd hc) ht (by simp[hn,<-hl,rv.length]) hst λh' hx=>?_;have I1:Inv X pins σ H { s with heap:=h' }:=I.kept (t':=s.toks) λb o e=>hx b o (ZE (Zq e)) e;exact h pins _ σ H xs _ Q I1 (by simpa using rv) hw
def LH(to ti:TE)(t:BH):TG:=λv σ H Q=>to σ H λo H1=>ti σ H1 λi H2=>t o i v H2 λH3=>Q σ H3
theorem GF{o i:Expr}{to ti:TE}{t:BH}(ho:PE X o to)(hi:PE X i ti)(hs:GC X t)
  (ha:∀v,assign (.Subscript o i pos) X.env v=(do
   let ov <-holding [v] (eval o X.env)
   let iv <-holding [v,ov] (eval i X.env)
   standAt pos
   holding [v,ov,iv] (setItem ov iv v)
   release [v,ov,iv] []):=by intro _;rfl):PG X (.Subscript o i pos) (LH to ti t):=by
 intro pins s σ H v u Q I r h;rw[ha];refine Uf (Up (thn (ho pins s σ H _ I h) λov s1 ⟨x,H1,I1,r1,q1⟩=>?_));refine Uf (Up (thn (hi pins s1 σ H1 _ I1 q1) λiv s2 ⟨y,H2,I2,r2,q2⟩=>?_));refine Uf (UJ (Uf (Up (thn (hs pins s2 σ H2 x y v ov iv u _ I2 r1 r2 r q2) λ_ s3 ⟨H3,I3,q3⟩=>?_))));exact wpAny_release ⟨σ,H3,I3,q3⟩
def xw(te:TE)(g:TG):TS:=λD σ H=>te σ H λx H1=>g x σ H1 D.nx
theorem xy{tg e:Expr}{te:TE}{g:TG}(he:PE X e te)(hg:PG X tg g)(hs:Ua [tg] e pos.line X.env=pure false:=by rfl)(hw:V8 [tg] e X.env=pure none:=by rfl)
  (h1:(Vm [tg] X.env).map (·.2)=[assign tg X.env]:=by rfl):PS X (.Assign [tg] e pos) (xw te g):=by
 intro pins s σ H D I h;refine wpAny_Assign_stores (thn (he pins s σ H _ I h) λv s1 ⟨x,H1,I1,r1,q1⟩=>?_) hs hw;rw[h1];exact thn (hg pins s1 σ H1 x v _ I1 r1 q1) λ_ s2 q=>q
theorem GG{i:Nat}{x:Str}{e:Expr}{te:TE}{pos':Pos}(hN:X.N.Nodup)(hi:X.N[i]?=some x)(hx:Loc X.env.scope x)(he:PE X e te)(hs:V9 e (some (.Name x pos')) pos.line X.env=pure false:=by rfl)(hf:X.fn x=true\/X.env.scope.names.lookup x=some .local:=by first |exact .inl rfl |exact .inr rfl |assumption) :
  PS X (.Assign [.Name x pos'] e pos) (xw te (o9 i)):=by
 intro pins s σ H D I h;refine wpAny_Assign_Name (thn (he pins s σ H _ I h) λv s1 ⟨y,H1,I1,r1,q1⟩=>?_) hs;exact cA I1 hN hi hx r1 (λs2 I2=>⟨_,H1,I2,q1⟩) hf
def LI(i j:Nat)(ta:TA):TS:=λD σ H=>ta σ H λvs H1=>∃v w,vs=[v,w]/\D.nx ((σ.set i (some v)).set j (some w)) H1
theorem GH{i j:Nat}{x y:Str}{a b:Expr}{ta:TA}{px py pt:Pos}{kt k2 pt2}(hc:X.calm=true)(hN:X.N.Nodup)(hi:X.N[i]?=some x)(hj:X.N[j]?=some y)(hij:i ≠ j)
  (hx:X.env.scope.names.lookup x=some .local) (hy:X.env.scope.names.lookup y=some .local) (ha:PA X [a,b] ta)
  (hw:V8 [.Tuple [.Name x px,.Name y py] kt pt] (.Tuple [a,b] k2 pt2) X.env=pure (some [x,y]))
  (hs:Ua [.Tuple [.Name x px,.Name y py] kt pt] (.Tuple [a,b] k2 pt2) pos.line X.env=pure false:=by rfl) :
  PS X (.Assign [.Tuple [.Name x px,.Name y py] kt pt] (.Tuple [a,b] k2 pt2) pos) (LI i j ta):=by
 intro pins s σ H D I h;rw[exec_Assign_arm];refine Uf (UJ ?_);rw[hs];refine Uf (Ux ?_);rw[if_neg (by decide)];refine Uf (Tuple_ (thn (ha _ pins s σ H _ I h) λus s1 ⟨vs,H1,I1,r1,q1⟩=>?_));obtain⟨v,w,e1,q1⟩:=q1;subst e1
 obtain⟨u1,u2,rfl,rv,rw'⟩:∃u1 u2,us=[u1,u2]/\az v u1/\az w u2:=by
  cases r1 with
  |cons p q=>
   cases q with
   |cons p' q'=>
    cases q';exact⟨_,_,rfl,p,p'⟩
 refine Uu ?_ (by show 2<=sizeLine;decide);have I2:Inv X pins σ H1 { s1 with heap:=s1.heap.push { cls:=.type "tuple", data:=.seq [u1,u2].toArray } }:=I1.kept (t':=s1.toks) λb o e=>Zc _ e;rw[hw];refine Uf (Ux ?_);show wpAny (model X.prog X.w) X.A (do rule "assign.swapped-stores"; let items <-unpackItems (.ref s1.heap.objs.size) 2 none;Vn [λv=>Vs X.env y v,λv=>Vs X.env x v] items.reverse;pure Flow.next) _ _ _;refine Uf (UF (Uf (unpackItems_tuple (items:=#[u1,u2]) (I.ok.hd hc) (IsTup.new s1.heap _) λh' hx'=>?_)));have I3:=I2.kept (h':=h') (t':=s1.toks) λb o e=>hx' b o (ZE (Zq e)) e;show wpAny _ _ (Vn [λv=>Vs X.env y v,λv=>Vs X.env x v] [u2,u1] >>= λ_=>pure Flow.next) _ _ _;refine Uf (assignInOrder_cons (Ug (cA I3 hN hj (.inl hy) rw' (λs2 I4=>?_) (.inr hy))));refine assignInOrder_cons (Ug (cA I4 hN hi (.inl hx) rv (λs3 I5=>assignInOrder_nil (Ux ?_)) (.inr hx)));rw[Xd _ _ (Ne.symm hij)] at I5;exact⟨_,H1,I5,q1⟩
end
section
variable {X:Cx} {pos:Pos}
def xz(c:TT)(tb:TS):TS:=λD σ H=>∃W:Nat->St->Hp->Prop,(∃m,W m σ H)/\∀m σ H,W m σ H ->
 c σ H λb H1=>if b=true then ∃N:St->Hp->Prop,(∀σ' H',N σ' H'->∃m',m' < m/\W m' σ' H')/\tb { D with nx:=N,ct:=N,bk:=D.nx } σ H1 else D.nx σ H1
theorem xD(hp:PassesOwn (model X.prog X.w) X.A X.env X.xe)(hc:PT X c tc)(hb:PSs X body tb):PS X (.While c body [] pos) (xz tc tb):=by
 intro pins s σ H D I h;obtain⟨W,⟨m0,w0⟩,turn⟩:=h;refine wpAny_While (codeAny_whileLoop (λn s'=>∃σ' H',Inv X pins σ' H' s'/\W n σ' H') ?_ m0 ⟨σ,H,I,w0⟩);rintro n s1 ⟨σ1,H1,I1,w1⟩;refine Uw hp (thn (hc pins s1 σ1 H1 _ I1 (turn n σ1 H1 w1)) λb s2 ⟨H2,I2,q2⟩=>?_);cases b with
 |true=>
  obtain⟨N,hN,q2⟩:=q2;rw[if_pos rfl];refine Uw hp (thn (hb pins s2 σ1 H2 _ I2 q2) λf s3 q3=>?_);cases f with
  |next=>
   obtain⟨σ3,H3,I3,n3⟩:=q3;obtain⟨m',hm,w3⟩:=hN σ3 H3 n3;exact⟨m',hm,σ3,H3,I3,w3⟩
  |cont=>
   obtain⟨σ3,H3,I3,n3⟩:=q3;obtain⟨m',hm,w3⟩:=hN σ3 H3 n3;exact⟨m',hm,σ3,H3,I3,w3⟩
  |brk=>exact q3
  |ret v=>exact q3
 |false=>
  rw[if_neg Ze];exact Uk ⟨σ1,H2,I2,q2⟩
end
structure It where
 go:Nat->Hp->Prop
 yld:Nat->Hp->V->Hp->Prop
 stop:Nat->Hp->Prop
def fU(X:Cx)(pins:List (Addr × Obj))(H:Hp)(b:Addr):Prop:=
 H b=none/\b ≠ X.env.locals/\b ∉ X.fs/\(b ∈ X.ex\/X.s₀.heap.objs.size<=b)/\(∀x c,X.env.cells.lookup x=some c->c ≠ b)/\∀p ∈ X.pn++pins,p.1 ≠ b
theorem Inv.fpOk(I:Inv X pins σ H s)(hb:s.heap.objs.size<=b)(hn:H' b=none):fU X pins H' b:=by
 refine⟨hn,XH (ZB I.lt hb),I.nofs hb,.inr (ZI I.sz hb),λx c e z=>?_,λp hp z=>?_⟩
 ·obtain⟨v,q⟩:=I.cell x c e;exact absurd (ZB q.lt (by rw[z];exact hb)) (ZM _)
 ·exact absurd (ZB (Zq (I.pin p hp).1) (by rw[z];exact hb)) (ZM _)
structure Turn(P:Program)(w:World)(K:W6)(tg:Expr)(J:It)(fp:List Addr)(it:Addr)(tn:Nat->Heap->Prop):Prop where
 mem:it ∈ fp
 obj:∀i h,tn i h->∀b ∈ fp,∃o,h.get? b=some o/\∀v,o.data ≠ .cell v
 keep:∀i h h',tn i h->(∀b ∈ fp,∀o,h.get? b=some o->h'.get? b=some o)->tn i h'
 item:∀ (X:Cx),X.prog=P->X.w=w->X.K=K->X.calm=true->∀ (i:Nat) (pins:List (Addr × Obj)) (s:Shared) (σ:St) (H:Hp) (E:Value->Shared->Prop),Inv X pins σ H s->(∀b ∈ fp,fU X pins H b)->tn i s.heap->J.go i H ->
  wpAny (model P w) X.A (pyNext (.ref it)) (λr s1=>∃u,r=some u ∧
   wpAny (model P w) X.A (VM tg (.ref it) u) (λ_ s2=>∃x H',Inv X pins σ H' s2/\az x u/\J.yld i H x H'/\tn (i+1) s2.heap/\∀b ∈ fp,H' b=none) E s1) E s
 done:∀ (X:Cx),X.prog=P->X.w=w->X.K=K->X.calm=true->∀ (i:Nat) (pins:List (Addr × Obj)) (s:Shared) (σ:St) (H:Hp) (E:Value->Shared->Prop),Inv X pins σ H s->(∀b ∈ fp,fU X pins H b)->tn i s.heap->J.stop i H ->
  wpAny (model P w) X.A (pyNext (.ref it)) (λr s1=>r=none/\Inv X pins σ H s1) E s
 self:∀ (A:Around) (i:Nat) (s:Shared) (Q:Value->Shared->Prop) (E:Value->Shared->Prop),tn i s.heap->Q (.ref it) s->wpAny (model P w) A (pyIter (.ref it)) Q E s
@[inline]abbrev TI:=St->Hp->(It->Hp->Prop)->Prop
def PIE(X:Cx)(pins:List (Addr × Obj))(σ:St)(tg:Expr)(R:It->Hp->Prop)(itv:Value)(s2:Shared):Prop:=
 ∃ (it:Addr) (fp:List Addr) (tn:Nat->Heap->Prop) (J:It) (H':Hp),itv = .ref it/\Inv X pins σ H' s2/\Turn X.prog X.w X.K tg J fp it tn/\tn 0 s2.heap/\(∀b ∈ fp,fU X pins H' b)/\R J H'
def PI(X:Cx)(tg iter:Expr)(wi:TI):Prop:=
 ∀ (pins:List (Addr × Obj)) (s:Shared) (σ:St) (H:Hp) (R:It->Hp->Prop),Inv X pins σ H s->wi σ H R ->
  wpAny (model X.prog X.w) X.A (eval iter X.env) (λv s1=>wpAny (model X.prog X.w) X.A (pyIter v) (PIE X pins σ tg R) X.xe s1) X.xe s
theorem tK(ho:s.heap.get? it=some o)(hc:o.cls = .type n)(hd:o.data = .fields vs)
  (hn:["enumerate", "zip", "dict_itemiterator", "dict_reverseitemiterator", "odict_iterator", "itertools.zip_longest", "itertools.pairwise"].contains n=false) (hQ:Q () s):wpAny M A (VM tg (.ref it) u) Q E s:=by
 unfold VM
 cases tg <;> first
  |exact Ux hQ
  | (cases u <;> first
    |exact Ux hQ
    | (refine Uf (wpAny_load ho ?_)
       rw[hc,hd];show wpAny M A (if (["enumerate", "zip", "dict_itemiterator", "dict_reverseitemiterator", "odict_iterator", "itertools.zip_longest", "itertools.pairwise"].contains n && vs[0]? == some (rawInt _))=true then _ else _) Q E s;rw[if_neg (by intro h;rw[hn,Y7] at h;cases h)];exact Ux hQ))
abbrev Itl(K:W6)(a:Addr):It:=
 ⟨λi H=>∃xs x,SqL K H a xs/\xs[i]?=some x,λi H x H'=>H'=H/\∀xs,SqL K H a xs->xs[i]?=some x,λi H=>∃xs,SqL K H a xs/\xs.length<=i⟩
abbrev Itt(K:W6)(a:Addr):It:=
 ⟨λi H=>∃xs x,SqT K H a xs/\xs[i]?=some x,λi H x H'=>H'=H/\∀xs,SqT K H a xs->xs[i]?=some x,λi H=>∃xs,SqT K H a xs/\xs.length<=i⟩
abbrev Itr(lo:Int)(n:Nat):It:=⟨λi _=>i < n,λi H x H'=>H'=H/\x = .int (lo+i),λi _=>n<=i⟩
theorem vA{P:Program}{w:World}{K:W6}{tg:Expr}(a it:Addr):Turn P w K tg (Itl K a) [it] it (λi h=>h.IsListIter it a i) where
 mem:=by simp
 obj:=λi h st b hb=>by
  have e:b=it:=by simpa using hb
  subst e;obtain⟨o,e,c,d⟩:=st;exact⟨o,e,λv z=>by rw[d] at z;cases z⟩
 keep:=λi h h' st k=>st.at λo e=>k it (by simp) o e
 item:=by
  intro X hP hw hK hc i pins s σ H E I hf st hg;subst hP hw hK;obtain⟨xs,x,hq,hx⟩:=hg;obtain⟨its,rv,p,hz⟩:=I.list hq;obtain⟨u,hu,ru⟩:=rv.get hx;obtain⟨f0,f1,f2,f3,f4,f5⟩:=hf it (by simp);refine wpAny_pyNext_list_item st p.isList (x:=u) (by simpa using hu) λh' st' sb=>?_;have I1:Inv X pins σ H { s with heap:=h' }:=I.turned (t':=s.toks) (λb o hb e=>(sb.2 b hb).trans e) f0 f1 f3 f4 f5;obtain⟨o,e,c,d⟩:=id st';exact⟨u,rfl,tK (s:={ s with heap:=h' }) e c d (by decide) ⟨x,H,I1,ru,⟨rfl,λys hy=>by rw[I.list_inj hy hq];exact hx⟩,st',λb hb=>(hf b hb).1⟩⟩
 done:=by
  intro X hP hw hK hc i pins s σ H E I hf st hg;subst hP hw hK;obtain⟨xs,hq,hx⟩:=hg;obtain⟨its,rv,p,hz⟩:=I.list hq;obtain⟨f0,f1,f2,f3,f4,f5⟩:=hf it (by simp);have hl:=rv.length;exact wpAny_pyNext_list_end (I.ok.hd hc) st p.isList (by simp;lia) λh' eb=>⟨rfl,I.turned (t':=s.toks) (λb o hb e=>eb b o hb e) f0 f1 f3 f4 f5⟩
 self:=λ_ _ _ _ _ st h=>wpAny_pyIter_listiter st h
theorem re{P:Program}{w:World}{K:W6}{tg:Expr}(a it:Addr):Turn P w K tg (Itt K a) [it] it (λi h=>h.IsTupleIter it a i) where
 mem:=by simp
 obj:=λi h st b hb=>by
  have e:b=it:=by simpa using hb
  subst e;obtain⟨o,e,c,d⟩:=st;exact⟨o,e,λv z=>by rw[d] at z;cases z⟩
 keep:=λi h h' st k=>st.at λo e=>k it (by simp) o e
 item:=by
  intro X hP hw hK hc i pins s σ H E I hf st hg;subst hP hw hK;obtain⟨xs,x,hq,hx⟩:=hg;obtain⟨its,rv,p,hz⟩:=I.tuple hq;obtain⟨u,hu,ru⟩:=rv.get hx;obtain⟨f0,f1,f2,f3,f4,f5⟩:=hf it (by simp);refine wpAny_pyNext_tuple_item st (show s.heap.IsTuple a its.toArray from p) (x:=u) (by simpa using hu) λh' st' sb=>?_;have I1:Inv X pins σ H { s with heap:=h' }:=I.turned (t':=s.toks) (λb o hb e=>(sb.2 b hb).trans e) f0 f1 f3 f4 f5;obtain⟨o,e,c,d⟩:=id st';exact⟨u,rfl,tK (s:={ s with heap:=h' }) e c d (by decide) ⟨x,H,I1,ru,⟨rfl,λys hy=>by rw[I.tuple_inj hy hq];exact hx⟩,st',λb hb=>(hf b hb).1⟩⟩
 done:=by
  intro X hP hw hK hc i pins s σ H E I hf st hg;subst hP hw hK;obtain⟨xs,hq,hx⟩:=hg;obtain⟨its,rv,p,hz⟩:=I.tuple hq;obtain⟨f0,f1,f2,f3,f4,f5⟩:=hf it (by simp);have hl:=rv.length;exact wpAny_pyNext_tuple_end (I.ok.hd hc) st (show s.heap.IsTuple a its.toArray from p) (by simp;lia) λh' eb=>⟨rfl,I.turned (t':=s.toks) (λb o hb e=>eb b o hb e) f0 f1 f3 f4 f5⟩
 self:=λ_ _ _ _ _ st h=>wpAny_pyIter_tupleiter st h
theorem rf{P:Program}{w:World}{K:W6}{tg:Expr}(it:Addr)(lo:Int)(n:Nat):Turn P w K tg (Itr lo n) [it] it (λi h=>WO h it (lo+(i:Nat) * 1) ((n:Int) - (i:Nat)) 1) where
 mem:=by simp
 obj:=λi h st b hb=>by
  have e:b=it:=by simpa using hb
  subst e
  exact⟨_,st,λv z=>by
   have z':Data.fields _=Data.cell v:=z;cases z'⟩
 keep:=λi h h' st k=>k it (by simp) _ st
 item:=by
  intro X hP hw hK hc i pins s σ H E I hf st hg;subst hP hw hK;obtain⟨f0,f1,f2,f3,f4,f5⟩:=hf it (by simp);have W:=Walks.range (prog:=X.prog) (w:=X.w) (I.ok.hd hc) it lo 1 n;refine W.item i s _ _ hg st λv h' tk hv st' kk=>?_;obtain⟨t,rfl⟩:=hv;have I1:Inv X pins σ H { s with heap:=h',toks:=tk }:=I.turned (λb o hb e=>kk b o (by simpa using hb) e) f0 f1 f3 f4 f5;refine⟨_,rfl,tK (s:={ s with heap:=h',toks:=tk }) (n := "range_iterator") st' rfl rfl (by decide) ⟨.int (lo+i),H,I1,⟨t,?_⟩,⟨rfl,rfl⟩,st',λb hb=>(hf b hb).1⟩⟩;rw[Int.mul_one]
 done:=by
  intro X hP hw hK hc i pins s σ H E I hf st hg;subst hP hw hK;obtain⟨f0,f1,f2,f3,f4,f5⟩:=hf it (by simp);exact UE (I.ok.hd hc) st (by have:n<=i:=hg;lia) λh' eb=>⟨rfl,I.turned (t':=s.toks) (λb o hb e=>eb b o hb e) f0 f1 f3 f4 f5⟩
 self:=λ_ _ _ _ _ st h=>UA st h
section
variable {X:Cx} {tg:Expr}
def xE(K:W6)(tl:TE):TI:=λσ H R=>tl σ H λx H1=>∃a,x = .ref a/\(∃xs,SqL K H1 a xs)/\R (Itl K a) H1
def LJ(K:W6)(tl:TE):TI:=λσ H R=>tl σ H λx H1=>∃a,x = .ref a/\(∃xs,SqT K H1 a xs)/\R (Itt K a) H1
theorem tL{l:Expr}{tl:TE}(hl:PE X l tl):PI X tg l (xE X.K tl):=by
 intro pins s σ H R I h;refine thn (hl pins s σ H _ I h) λv s1 ⟨x,H1,I1,r1,q1⟩=>?_;obtain⟨a,e,⟨xs,hq⟩,q⟩:=q1;subst e;cases r1;obtain⟨its,rv,p,hz⟩:=I1.list hq;refine Uz p.isList ?_;refine⟨s1.heap.objs.size,[s1.heap.objs.size],_,_,H1,rfl,I1.kept (t':=s1.toks) λb o e=>Zc _ e,vA a _,⟨_,Zx _ rfl,rfl,rfl⟩,λb hb=>?_,q⟩;have e:b=s1.heap.objs.size:=by simpa using hb
 subst e;exact I1.fpOk (Zd _) (I1.hok.fresh (Zd _))
theorem GI{l:Expr}{tl:TE}(hl:PE X l tl):PI X tg l (LJ X.K tl):=by
 intro pins s σ H R I h;refine thn (hl pins s σ H _ I h) λv s1 ⟨x,H1,I1,r1,q1⟩=>?_;obtain⟨a,e,⟨xs,hq⟩,q⟩:=q1;subst e;cases r1;obtain⟨its,rv,p,hz⟩:=I1.tuple hq;refine UB (show s1.heap.IsTuple a its.toArray from p) ?_;refine⟨s1.heap.objs.size,[s1.heap.objs.size],_,_,H1,rfl,I1.kept (t':=s1.toks) λb o e=>Zc _ e,re a _,⟨_,Zx _ rfl,rfl,rfl⟩,λb hb=>?_,q⟩;have e:b=s1.heap.objs.size:=by simpa using hb
 subst e;exact I1.fpOk (Zd _) (I1.hok.fresh (Zd _))
theorem pc{lo hi:Int}{tk:Nat}(I:Inv X pins σ H s)(h1:-(2 ^ 62)<=lo)(h2:lo < 2 ^ 62)(h3:-(2 ^ 62)<=hi)(h4:hi < 2 ^ 62)
  (q:R (Itr lo (hi - lo).toNat) H):wpAny (model X.prog X.w) X.A (pyIter (.ref s.heap.objs.size)) (PIE X pins σ tg R) E { s with heap:=s.heap.push { cls:=.type "range", data:=.fields #[.int lo t,.int hi u,.int 1 v] },toks:=tk }:=by
 refine wpAny_pyIter_range (IsRange.new ..) (small_one h1 h2 h3 h4) ?_;have I1:Inv X pins σ H { s with heap:=s.heap.push { cls:=.type "range", data:=.fields #[.int lo t,.int hi u,.int 1 v] },toks:=tk }:=I.kept λb o e=>Zc _ e
 refine⟨(s.heap.push { cls:=.type "range", data:=.fields #[.int lo t,.int hi u,.int 1 v] }).objs.size,[(s.heap.push { cls:=.type "range", data:=.fields #[.int lo t,.int hi u,.int 1 v] }).objs.size],_,_,H,rfl,
  I1.kept (t':=tk) λb o e=>Zc _ e,rf _ lo (hi - lo).toNat,?_,λb hb=>?_,q⟩
 ·have e1:lo+((0:Nat):Int) * 1=lo:=by simp
  have e2:(((hi - lo).toNat:Nat):Int) - ((0:Nat):Int)=Builtin.Range.rangeSize lo hi 1:=by rw[rangeSize_one];split <;> lia
  show WO _ _ (lo+((0:Nat):Int) * 1) ((((hi - lo).toNat:Nat):Int) - ((0:Nat):Int)) 1;rw[e1,e2];exact Zx _ rfl
 ·have e:b=(s.heap.push { cls:=.type "range", data:=.fields #[.int lo t,.int hi u,.int 1 v] }).objs.size:=by simpa using hb
  subst e;exact I1.fpOk (Zd _) (I1.hok.fresh (Zd _))
def Fv(ta:TA):TI:=λσ H R=>ta σ H λvs H1=>∃j:Int,vs=[.int j]/\-(2 ^ 62)<=j/\j < 2 ^ 62/\R (Itr 0 j.toNat) H1
def Fw(ta:TA):TI:=λσ H R=>ta σ H λvs H1=>∃i j:Int,vs=[.int i,.int j]/\(-(2 ^ 62)<=i/\i < 2 ^ 62/\-(2 ^ 62)<=j/\j < 2 ^ 62)/\R (Itr i (j - i).toNat) H1
theorem vB(hg:Gl X "range")(hm:X.mg "range" = none)(ha:PA X [a] ta)(hs:V6 [a] X.env=[(false,eval a X.env)]:=by rfl):PI X tg (.Call (.Name "range" p) [a] [] pos) (Fv ta):=by
 intro pins s σ H R I h;refine Call_ (cV I hg hm boot_range (Wp (thn (ha pos pins s σ H _ I h) λus s1 ⟨vs,H1,I1,r1,q1⟩=>?_) hs rfl));obtain⟨j,e,q1,q2,q⟩:=q1;subst e;cases r1 with
 |cons r rr=>
  cases rr;obtain⟨t,rfl⟩:=r;exact call_range_1 (pc I1 (by lia) (by lia) q1 q2 (by simpa using q))
theorem vC(hg:Gl X "range")(hm:X.mg "range" = none)(ha:PA X [a,b] ta)(hs:V6 [a,b] X.env=[(false,eval a X.env),(false,eval b X.env)]:=by rfl)(hs2:V6 [b] X.env=[(false,eval b X.env)]:=by rfl) :
  PI X tg (.Call (.Name "range" p) [a,b] [] pos) (Fw ta):=by
 intro pins s σ H R I h;refine Call_ (cV I hg hm boot_range (Wp (thn (ha pos pins s σ H _ I h) λus s1 ⟨vs,H1,I1,r1,q1⟩=>?_) (by rw[hs,hs2]) (by rw[hs2];rfl)));obtain⟨i,j,e,⟨q1,q2,q3,q4⟩,q⟩:=q1;subst e;cases r1 with
 |cons r rr=>
  cases rr with
  |cons r' rr=>
   cases rr;obtain⟨t,rfl⟩:=r;obtain⟨t',rfl⟩:=r';exact call_range_2 (pc I1 q1 q2 q3 q4 q)
def LK(wi:TI)(g:TG)(tb:TS):TS:=λD σ H=>wi σ H λJ H1=>∃W:Nat->Nat->St->Hp->Prop,(∃m,W 0 m σ H1)/\∀i m σ H,W i m σ H ->
 (J.stop i H/\D.nx σ H)\/(J.go i H/\∃N:St->Hp->Prop,(∀σ' H',N σ' H'->∃m',m' < m/\W (i+1) m' σ' H')/\∀x H',J.yld i H x H'->g x σ H' λσ2 H2=>tb { D with nx:=N,ct:=N,bk:=D.nx } σ2 H2)
abbrev jO(fp:List Addr)(h:Heap):List (Addr × Obj):=fp.filterMap λb=>(h.get? b).map λo=>(b,o)
theorem dD(hb:b ∈ fp)(e:h.get? b=some o):(b,o) ∈ jO fp h:=Yl.mpr ⟨b,hb,by rw[e];rfl⟩
theorem vD(hp:p ∈ jO fp h):p.1 ∈ fp/\h.get? p.1=some p.2:=by
 obtain⟨b,hb,e⟩:=Yl.mp hp;cases q:h.get? b with
 |none=>rw[q] at e;cases e
 |some o=>
  rw[q] at e;have e':(b,o)=p:=Option.some.inj e;subst e';exact⟨hb,q⟩
theorem Inv.pinned(I:Inv X pins σ H s)(hf:∀b ∈ fp,fU X pins H b)(ho:∀b ∈ fp,∃o,s.heap.get? b=some o/\∀v,o.data ≠ .cell v):Inv X (pins++jO fp s.heap) σ H s:=
 I.pins_of λp hp=>(ZO.mp hp).elim (λz=>I.pin p (ZG _ z)) λz=>by
  obtain⟨hb,e⟩:=vD z;obtain⟨f0,f1,f2,_⟩:=hf p.1 hb;obtain⟨o,e',d⟩:=ho p.1 hb;rw[e] at e';cases e';exact⟨e,f0,f1,f2,d⟩
theorem Inv.unpinned(I:Inv X (pins++pl) σ H s):Inv X pins σ H s:=I.pins_of λp hp=>I.pin p (ZG _ (ZR _ hp))
theorem GJ(hp:PassesOwn (model X.prog X.w) X.A X.env X.xe)(hc:X.calm=true)(hi:PI X tg iter wi)(hg:PG X tg g)(hb:PSs X body tb)
  (hs:∀x,VG iter X.env x=pure x:=by intro _;rfl):PS X (.For tg iter body [] pos) (LK wi g tb):=by
 intro pins s σ H D I h;refine wpAny_For (thn (hi pins s σ H _ I h) λv s1 h1=>thn h1 λitv s2 h2=>?_) hs;obtain⟨it,fp,tn,J,H2,e,I2,T,st2,f2,W,⟨m0,w0⟩,turn⟩:=h2;subst e;have stat:∀ {H':Hp},(∀b ∈ fp,H' b=none)->∀b ∈ fp,fU X pins H' b:=λhn b hb=>⟨hn b hb,(f2 b hb).2⟩;refine codeAny_forLoop_any (λn s'=>∃i σ' H',Inv X pins σ' H' s'/\tn i s'.heap/\(∀b ∈ fp,H' b=none)/\W i n σ' H') ?_ m0 ⟨0,σ,H2,I2,st2,λb hb=>(f2 b hb).1,w0⟩;rintro n s3 ⟨i,σ3,H3,I3,st3,fr3,w3⟩;rcases turn i n σ3 H3 w3 with ⟨stop,qn⟩ |⟨go,N,hN,step⟩
 ·refine Uw hp (thn (T.done X rfl rfl rfl hc i pins s3 σ3 H3 X.xe I3 (stat fr3) st3 stop) λr s4 ⟨hr,I4⟩=>?_);subst hr;exact Uk ⟨σ3,H3,I4,qn⟩
 ·refine Uw hp (thn (T.item X rfl rfl rfl hc i pins s3 σ3 H3 X.xe I3 (stat fr3) st3 go) λr s4 ⟨u,hr,h4⟩=>?_);subst hr;refine Uw hp (thn h4 λ_ s5 ⟨x,H5,I5,r5,y5,st5,fr5⟩=>?_);have I5':=I5.pinned (stat fr5) (T.obj _ _ st5);refine Uw hp (thn (hg _ s5 σ3 H5 x u _ I5' r5 (step x H5 y5)) λ_ s6 ⟨σ6,H6,I6,q6⟩=>?_);refine Uw hp (thn (hb _ s6 σ6 H6 _ I6 q6) λf s7 q7=>?_)
  have again:∀ {σ7:St} {H7:Hp},Inv X (pins++jO fp s5.heap) σ7 H7 s7->N σ7 H7->∃m,m < n/\∃i σ' H',Inv X pins σ' H' s7/\tn i s7.heap/\(∀b ∈ fp,H' b=none)/\W i m σ' H':=λ{σ7 H7} I7 n7=>by
   obtain⟨m',hm,w7⟩:=hN σ7 H7 n7;refine⟨m',hm,i+1,σ7,H7,I7.unpinned,T.keep _ _ _ st5 λb hb o e=>(I7.pin (b,o) (ZG _ (ZG _ (dD hb e)))).1,λb hb=>?_,w7⟩;obtain⟨o,e,d⟩:=T.obj _ _ st5 b hb;exact(I7.pin (b,o) (ZG _ (ZG _ (dD hb e)))).2.1
  cases f with
  |next=>obtain⟨σ7,H7,I7,n7⟩:=q7;exact again I7 n7
  |cont=>obtain⟨σ7,H7,I7,n7⟩:=q7;exact again I7 n7
  |brk=>obtain⟨σ7,H7,I7,q7⟩:=q7;exact⟨σ7,H7,I7.unpinned,q7⟩
  |ret v=>obtain⟨x7,σ7,H7,I7,r7,q7⟩:=q7;exact⟨x7,σ7,H7,I7.unpinned,r7,q7⟩
end
@[inline]abbrev R2:=V->V->Hp->VK->Prop
def OpR(X:Cx)(f:Value->Value->Sem Value)(r:R2):Prop:=
 ∀ (pins:List (Addr × Obj)) (s:Shared) (σ:St) (H:Hp) (x y:V) (v u:Value) (Q:VK),Inv X pins σ H s->az x v->az y u->r x y H Q ->
  wpAny (model X.prog X.w) X.A (f v u) (EP X pins σ Q) X.xe s
def UnR(X:Cx)(f:Value->Sem Value)(r:V->Hp->VK->Prop):Prop:=
 ∀ (pins:List (Addr × Obj)) (s:Shared) (σ:St) (H:Hp) (x:V) (v:Value) (Q:VK),Inv X pins σ H s->az x v->r x H Q ->
  wpAny (model X.prog X.w) X.A (f v) (EP X pins σ Q) X.xe s
def aR(X:Cx)(f:Value)(r:List V->Hp->VK->Prop):Prop:=
 ∀ (pins:List (Addr × Obj)) (s:Shared) (σ:St) (H:Hp) (xs:List V) (us:List Value) (Q:VK),Inv X pins σ H s->aH xs us->r xs H Q ->
  wpAny (model X.prog X.w) X.A (call f us) (EP X pins σ Q) X.xe s
def OD(X:Cx)(r:V->Hp->(Bool->Hp->Prop)->Prop):Prop:=
 ∀ (pins:List (Addr × Obj)) (s:Shared) (σ:St) (H:Hp) (x:V) (v:Value) (Q:Bool->Hp->Prop),Inv X pins σ H s->az x v->r x H Q ->
  wpAny (model X.prog X.w) X.A (truthy v) (TP X pins σ Q) X.xe s
def tOp(r:R2)(ta tb:TE):TE:=λσ H Q=>ta σ H λx H1=>tb σ H1 λy H2=>r x y H2 Q
def tUn(r:V->Hp->VK->Prop)(ta:TE):TE:=λσ H Q=>ta σ H λx H1=>r x H1 Q
def rI(C:Int->Int->Prop)(g:Int->Int->V):R2:=λx y H Q=>∃i j,x = .int i/\y = .int j/\C i j/\Q (g i j) H
def rI0(g:Int->Int->V):R2:=λx y H Q=>∃i j,x = .int i/\y = .int j/\Q (g i j) H
def rU(g:Int->V):V->Hp->VK->Prop:=λx H Q=>∃i,x = .int i/\Q (g i) H
section
variable {X:Cx} {a b c:Expr} {ta tb tc:TE} {pos:Pos}
theorem GK(ha:PE X a ta)(hb:PE X b tb){pins:List (Addr × Obj)}{s:Shared}{σ:St}{H:Hp}{R:V->V->Hp->Prop}(I:Inv X pins σ H s)
  (h:ta σ H λx H1=>tb σ H1 λy H2=>R x y H2) {Q:Value->Shared->Prop} {f:Value->Value->Sem Value}
  (hf:∀v u s2 x y H2,Inv X pins σ H2 s2->az x v->az y u->R x y H2->wpAny (model X.prog X.w) X.A (f v u) Q X.xe s2) :
  wpAny (model X.prog X.w) X.A (eval a X.env) (λv s₁=>wpAny (model X.prog X.w) X.A (eval b X.env) (λu s₂=>wpAny (model X.prog X.w) X.A (f v u) Q X.xe s₂) X.xe s₁) X.xe s:=by
 refine thn (ha pins s σ H _ I h) λv s1 ⟨x,H1,I1,r1,q1⟩=>?_;refine thn (hb pins s1 σ H1 _ I1 q1) λu s2 ⟨y,H2,I2,r2,q2⟩=>?_;exact hf v u s2 x y H2 I2 r1 r2 q2
theorem LL{op:WR}{r:R2}(ho:OpR X (Vr op) r)(ha:PE X a ta)(hb:PE X b tb):PE X (.BinOp a op b pos) (tOp r ta tb):=by
 intro pins s σ H Q I h;exact wpAny_BinOp (GK ha hb I h λv u s2 x y H2 I2 rx ry q=>ho pins s2 σ H2 x y v u Q I2 rx ry q)
theorem xF(ho:UnR X (unaryOp op) r)(ha:PE X a ta):PE X (.UnaryOp op a pos) (tUn r ta):=by
 intro pins s σ H Q I h;exact UnaryOp_ (thn (ha pins s σ H _ I h) λv s1 ⟨x,H1,I1,r1,q1⟩=>ho pins s1 σ H1 x v Q I1 r1 q1)
theorem opI{f:Value->Value->Sem Value}{C:Int->Int->Prop}{g:Int->Int->Int}
  (rule:∀ (i j:Int) (t u:Tok) (s:Shared) (Q:Value->Shared->Prop) (E:Value->Shared->Prop),C i j->Q (.int (g i j) s.toks) { s with toks:=s.toks+1 }->wpAny (model X.prog X.w) X.A (f (.int i t) (.int j u)) Q E s) :
  OpR X f (rI C λi j=>.int (g i j)):=by
 intro pins s σ H x y v u Q I rx ry h;obtain⟨i,j,rfl,rfl,hc,q⟩:=h;obtain⟨t,rfl⟩:=rx;obtain⟨t',rfl⟩:=ry;exact rule i j t t' s _ _ hc ⟨.int (g i j),H,I.tok _,⟨_,rfl⟩,q⟩
theorem LM{f:Value->Value->Sem Value}{g:Int->Int->Int}
  (rule:∀ (i j:Int) (t u:Tok) (s:Shared) (Q:Value->Shared->Prop) (E:Value->Shared->Prop),Q (.int (g i j) s.toks) { s with toks:=s.toks+1 }->wpAny (model X.prog X.w) X.A (f (.int i t) (.int j u)) Q E s) :
  OpR X f (rI0 λi j=>.int (g i j)):=by
 intro pins s σ H x y v u Q I rx ry h;obtain⟨i,j,rfl,rfl,q⟩:=h;obtain⟨t,rfl⟩:=rx;obtain⟨t',rfl⟩:=ry;exact rule i j t t' s _ _ ⟨.int (g i j),H,I.tok _,⟨_,rfl⟩,q⟩
theorem BK{f:Value->Value->Sem Value}{g:Int->Int->Bool}
  (rule:∀ (i j:Int) (t u:Tok) (s:Shared) (Q:Value->Shared->Prop) (E:Value->Shared->Prop),Q (.bool (g i j)) s->wpAny (model X.prog X.w) X.A (f (.int i t) (.int j u)) Q E s) :
  OpR X f (rI0 λi j=>.bl (g i j)):=by
 intro pins s σ H x y v u Q I rx ry h;obtain⟨i,j,rfl,rfl,q⟩:=h;obtain⟨t,rfl⟩:=rx;obtain⟨t',rfl⟩:=ry;exact rule i j t t' s _ _ ⟨.bl (g i j),H,I,rfl,q⟩
def OE(i j:Int):Prop:=0<=j/\j<=1000000/\i.natAbs < 2 ^ 64
def LN(i j:Int):Prop:=(-(2 ^ 64) < i/\i < 2 ^ 64)\/(-(2 ^ 64) < j/\j < 2 ^ 64)
theorem LN.ok{i j:Int}(h:LN i j):IntMulOk i j:=by
 rcases h with ⟨h1,h2⟩ |⟨h1,h2⟩
 ·exact .of_left (intBits_le_64 h1 h2)
 ·exact .of_right (intBits_le_64 h1 h2)
theorem GL:OpR X (Vr .Add) (rI0 λi j=>.int (i+j)):=LM λ_ _ _ _ _ _ _ q=>add_int q
theorem GM:OpR X (Vr .Sub) (rI0 λi j=>.int (i - j)):=LM λ_ _ _ _ _ _ _ q=>sub_int q
theorem GN:OpR X (Vr .Mult) (rI LN λi j=>.int (i * j)):=opI λ_ _ _ _ _ _ _ hc q=>mul_int q hc.ok
theorem GO:OpR X (Vr .Mod) (rI (λ_ j=>0 < j) λi j=>.int (i % j)):=opI λi j _ _ _ _ _ hc q=>by
 have h1:(0:Int) < j:=hc;exact mod_int' (by lia) (by rw[Int.fmod_eq_emod_of_nonneg i (by lia)];exact q)
theorem GP:OpR X (Vr .Pow) (rI OE λi j=>.int (i ^ j.toNat)):=opI λ_ _ _ _ _ _ _ hc q=>pow_int_small hc.1 hc.2.1 hc.2.2 q
theorem unI{f:Value->Sem Value}{g:Int->Int}
  (rule:∀ (i:Int) (t:Tok) (s:Shared) (Q:Value->Shared->Prop) (E:Value->Shared->Prop),Q (.int (g i) s.toks) { s with toks:=s.toks+1 }->wpAny (model X.prog X.w) X.A (f (.int i t)) Q E s) :
  UnR X f (rU λi=>.int (g i)):=by
 intro pins s σ H x v Q I rx h;obtain⟨i,rfl,q⟩:=h;obtain⟨t,rfl⟩:=rx;exact rule i t s _ _ ⟨.int (g i),H,I.tok _,⟨_,rfl⟩,q⟩
theorem rh:UnR X (unaryOp .USub) (rU λi=>.int (-i)):=unI λ_ _ _ _ _ q=>neg_int q
end
section
variable {X:Cx} {a b c:Expr} {ta tb tc:TE} {pos:Pos}
theorem xG(I:Inv X pins σ H s)(q:Q (.bl k) H)(e:k=k'):EP X pins σ Q (.bool k') s:=by
 subst e;exact⟨.bl k,H,I,rfl,q⟩
theorem LP:OpR X (VA .Lt) (rI0 λi j=>.bl (decide (i < j))):=BK λ_ _ _ _ _ _ _ q=>lt_int q
theorem LQ:OpR X (VA .LtE) (rI0 λi j=>.bl (decide (i<=j))):=BK λ_ _ _ _ _ _ _ q=>le_int q
theorem LR:OpR X (VA .Gt) (rI0 λi j=>.bl (decide (j < i))):=BK λ_ _ _ _ _ _ _ q=>gt_int q
theorem LS:OpR X (VA .GtE) (rI0 λi j=>.bl (decide (j<=i))):=BK λ_ _ _ _ _ _ _ q=>ge_int q
theorem GQ:OpR X (VA .Is) (λx y H Q=>y = .non/\Q (.bl (decide (x = .non))) H):=by
 intro pins s σ H x y v u Q I rx ry h;obtain⟨rfl,q⟩:=h;cases ry;refine is_none_gen (xG I q ?_)
 cases x <;> first
  |(cases rx;rfl)
  |(obtain⟨t,rfl⟩:=rx;rfl)
theorem BL:OpR X (VA .IsNot) (λx y H Q=>y = .non/\Q (.bl (!decide (x = .non))) H):=by
 intro pins s σ H x y v u Q I rx ry h;obtain⟨rfl,q⟩:=h;cases ry;refine isnot_none_gen (xG I q ?_)
 cases x <;> first
  |(cases rx;rfl)
  |(obtain⟨t,rfl⟩:=rx;rfl)
theorem BM{op:CmpOp}{r:R2}(ho:OpR X (VA op) r)(ha:PE X a ta)(hb:PE X b tb)(hm:Vq op b=false):PE X (.Compare a [op] [b] pos) (tOp r ta tb):=by
 intro pins s σ H Q I h;exact wpAny_Compare1 (GK ha hb I h λv u s2 x y H2 I2 rx ry q=>ho pins s2 σ H2 x y v u Q I2 rx ry q) hm
def Fx(t:TE):TT:=λσ H Q=>t σ H λx H'=>∃k,x = .bl k/\Q k H'
theorem BN(ho:OpR X (VA op) r)(ha:PE X a ta)(hb:PE X b tb)(hm:Vq op b=false):PT X (.Compare a [op] [b] pos) (Fx (tOp r ta tb)):=by
 intro pins s σ H Q I h
 refine wpAny_isTrue_Compare1 (thn (ha pins s σ H _ I h) λv s1 ⟨x,H1,I1,r1,q1⟩=>thn (hb pins s1 σ H1 _ I1 q1) λu s2 ⟨y,H2,I2,r2,q2⟩=>
  thn (ho pins s2 σ H2 x y v u _ I2 r1 r2 q2) λc s3 ⟨z,H3,I3,r3,k,e,q3⟩=>?_) hm
 subst e;cases r3;exact UK ⟨H3,I3,q3⟩
def rj(r r':R2)(ta tb tc:TE):TE:=λσ H Q=>ta σ H λx H1=>tb σ H1 λy H2=>r x y H2 λz H3=>∃k,z = .bl k ∧
 (if k=true then tc σ H3 λw' H4=>r' y w' H4 Q else Q (.bl false) H3)
theorem xH(ho:OpR X (VA op) r)(ho':OpR X (VA op') r')(ha:PE X a ta)(hb:PE X b tb)(hc:PE X c tc)
  (hm:lastMarks [op,op'] [b,c]=false:=by with_unfolding_all rfl):PE X (.Compare a [op,op'] [b,c] pos) (rj r r' ta tb tc):=by
 intro pins s σ H Q I h
 refine Compare_chain (thn (ha pins s σ H _ I h) λv s1 ⟨x,H1,I1,r1,q1⟩=>chain_link (thn (hb pins s1 σ H1 _ I1 q1) λu s2 ⟨y,H2,I2,r2,q2⟩=>
  thn (ho pins s2 σ H2 x y v u _ I2 r1 r2 q2) λd s3 ⟨z,H3,I3,r3,k,e,q3⟩=>?_)) hm
 subst e;cases r3;refine UK ?_;cases k with
 |false=>exact ite_ff ⟨.bl false,H3,I3,rfl,q3⟩
 |true=>exact ite_tt (chain_last (thn (hc pins s3 σ H3 _ I3 q3) λw' s4 ⟨z',H4,I4,r4,q4⟩=>ho' pins s4 σ H4 y z' u w' Q I4 r2 r4 q4))
theorem xI(ho:OpR X (VA op) r)(ho':OpR X (VA op') r')(ha:PE X a ta)(hb:PE X b tb)(hc:PE X c tc)
  (hm:lastMarks [op,op'] [b,c]=false:=by with_unfolding_all rfl):PT X (.Compare a [op,op'] [b,c] pos) (Fx (rj r r' ta tb tc)):=by
 intro pins s σ H Q I h
 refine isTrue_chain (thn (ha pins s σ H _ I h) λv s1 ⟨x,H1,I1,r1,q1⟩=>test_link (thn (hb pins s1 σ H1 _ I1 q1) λu s2 ⟨y,H2,I2,r2,q2⟩=>
  thn (ho pins s2 σ H2 x y v u _ I2 r1 r2 q2) λd s3 ⟨z,H3,I3,r3,k,e,q3⟩=>?_)) hm
 subst e;cases r3;refine UK ?_;cases k with
 |false=>
  obtain⟨k',e',q'⟩:=q3;cases e';exact ite_ff ⟨H3,I3,q'⟩
 |true=>
  refine ite_tt (test_last (thn (hc pins s3 σ H3 _ I3 q3) λw' s4 ⟨z',H4,I4,r4,q4⟩=>thn (ho' pins s4 σ H4 y z' u w' _ I4 r2 r4 q4) λd' s5 ⟨z2,H5,I5,r5,k2,e2,q5⟩=>?_));subst e2;cases r5;exact UK ⟨H5,I5,q5⟩
def BO(K:W6)(x:V)(H:Hp)(k:Bool):Prop:=
 match x with
 |.non=>k=false
 |.bl b=>k=b
 |.int i=>k=(i != 0)
 |.str y=>y.length<=sizeLine/\k=((y.length:Int) != 0)
 |.byt y=>y.size<=sizeLine/\k=((y.size:Int) != 0)
 |.ref p=>(∃xs,SqL K H p xs/\k = !xs.isEmpty)\/(∃xs,SqT K H p xs/\k = !xs.isEmpty)\/∃kvs,H p=some (.dK kvs)/\k = !kvs.isEmpty
 |_=>False
theorem rl{κ:Type}{kvs:List (κ × V)}{vs:List (κ × Value)}(r:KV kvs vs):(!vs.isEmpty) = !kvs.isEmpty:=by
 cases r <;> rfl
theorem jP{xs:List V}{its:List Value}(r:aH xs its):(!its.toArray.isEmpty) = !xs.isEmpty:=by
 cases r <;> simp
theorem iu:(sizeLine:Nat) < 2 ^ 63:=by rw[V4];decide
theorem GR:OD X (λx H Q=>∃k,BO X.K x H k/\Q k H):=by
 intro pins s σ H x v Q I rx h;obtain⟨k,e,q⟩:=h;have hl:=iu;have hs:sizeLine=16777216:=V4;cases x with
 |non=>
  cases rx;have e':k=false:=e;subst e';exact truthy_none ⟨H,I,q⟩
 |bl b=>
  cases rx;have e':k=b:=e;subst e';exact UK ⟨H,I,q⟩
 |int i=>
  obtain⟨t,rfl⟩:=rx;have e':k=(i != 0):=e;subst e';exact PySem.P.truthy_int ⟨H,I,q⟩
 |str y=>
  obtain⟨t,rfl⟩:=rx;obtain⟨hy,e'⟩:y.length<=sizeLine/\k=((y.length:Int) != 0):=e;subst e';exact PySem.P.truthy_str (by lia) ⟨H,I.tok _,q⟩
 |byt y=>
  obtain⟨t,rfl⟩:=rx;obtain⟨hy,e'⟩:y.size<=sizeLine/\k=((y.size:Int) != 0):=e;subst e';exact PySem.W.truthy_bytes (by lia) ⟨H,I.tok _,q⟩
 |ref p=>
  cases rx;have e':(∃xs,SqL X.K H p xs/\k = !xs.isEmpty)\/(∃xs,SqT X.K H p xs/\k = !xs.isEmpty)\/∃kvs,H p=some (.dK kvs)/\k = !kvs.isEmpty:=e;rcases e' with ⟨xs,hx,e'⟩ |⟨xs,hx,e'⟩ |⟨kvs,hx,e'⟩
  ·subst e';obtain⟨its,r,pl,hz⟩:=I.list hx;have hlen:=r.length;exact wpAny_truthy_list pl.isList (by simp only[Zk];lia) ⟨H,I.tok _,by rw[jP r];exact q⟩
  ·subst e';obtain⟨its,r,pl,hz⟩:=I.tuple hx;have hlen:=r.length;exact truthy_tuple pl (by simp only[Zk];lia) ⟨H,I.tok _,by rw[jP r];exact q⟩
  ·subst e';obtain⟨hz,hS,vs,r,m⟩:kvs.length<=sizeLine/\(p == Ub)=false/\∃vs,KV kvs vs/\s.heap.DictOf (aU X.prog X.w) p vs:=I.hok p _ hx;have hlen:kvs.length=vs.length:=Paired.length r;exact wpAny_truthy_dict hS m (by lia) ⟨H,I.tok _,by rw[rl r];exact q⟩
 |_=>exact(show False from e).elim
theorem xJ(ha:PE X a ta)(he:∀whole,isTrue a X.env whole=(do let v <-whole;standAt a.pos;holding [v] (truthy v))) :
  PT X a (λσ H Q=>ta σ H λx H'=>∃k,BO X.K x H' k/\Q k H'):=by
 intro pins s σ H Q I h;exact isTrue_plain (thn (ha pins s σ H _ I h) λv s1 ⟨x,H1,I1,r1,q1⟩=>GR pins s1 σ H1 x v Q I1 r1 q1) (he _)
theorem rm:OpR X (Vr .Add) (λx y H Q=>∃i j,x = .str i/\y = .str j/\i.length+j.length<=sizeLine/\Q (.str (i++j)) H):=by
 intro pins s σ H x y v u Q I rx ry h;obtain⟨i,j,rfl,rfl,hz,q⟩:=h;obtain⟨t,rfl⟩:=rx;obtain⟨t',rfl⟩:=ry;exact add_str (λt' tk=>⟨.str (i++j),H,I.tok _,⟨_,rfl⟩,q⟩) hz
theorem ce(r:aH [x] us):∃u,us=[u]/\az x u:=by
 cases r with
 |cons r1 r2=>cases r2;exact⟨_,rfl,r1⟩
theorem pd(r:aH [x,y] us):∃u w',us=[u,w']/\az x u/\az y w':=by
 cases r with
 |cons r1 r2=>
  cases r2 with
  |cons r3 r4=>cases r4;exact⟨_,_,rfl,r1,r3⟩
theorem vE(hc:X.calm=true):aR X (.builtin "max") (λxs H Q=>∃i j,xs=[.int i,.int j]/\Q (.int (if j > i then j else i)) H):=by
 intro pins s σ H xs us Q I r h;obtain⟨i,j,rfl,q⟩:=h;obtain⟨u,w',rfl,⟨t,rfl⟩,⟨t',rfl⟩⟩:=pd r;refine max_two_ints (I.ok.hd hc) λh' tk k=>⟨_,H,I.kept k,?_,q⟩;by_cases hj:j > i
 ·rw[if_pos hj,if_pos hj];exact⟨_,rfl⟩
 ·rw[if_neg hj,if_neg hj];exact⟨_,rfl⟩
theorem vF(hc:X.calm=true):aR X (.builtin "min") (λxs H Q=>∃i j,xs=[.int i,.int j]/\Q (.int (if j < i then j else i)) H):=by
 intro pins s σ H xs us Q I r h;obtain⟨i,j,rfl,q⟩:=h;obtain⟨u,w',rfl,⟨t,rfl⟩,⟨t',rfl⟩⟩:=pd r;refine min_two_ints (I.ok.hd hc) λh' tk k=>⟨_,H,I.kept k,?_,q⟩;by_cases hj:j < i
 ·rw[if_pos hj,if_pos hj];exact⟨_,rfl⟩
 ·rw[if_neg hj,if_neg hj];exact⟨_,rfl⟩
end
structure ObjM(h:Heap)(x dx C:Addr)(mA:Str->Option Value):Prop where
 obj:h.get? x=some (Vb C dx)
 ns:h.Ns1 dx mA
 ne:dx ≠ x
theorem vG{h:Heap}{dx:Addr}{mA:Str->Option Value}(n:h.Ns1 dx mA):∃od,h.get? dx=some od/\∀name,Vi name od=some (mA name):=by
 obtain⟨o,es,ep,ho,hd,hk,_,hm⟩:=n;refine⟨o,ho,λname=>?_⟩;have e:=hm name;unfold nsFind findBy at e;rw[<-Array.find?_toList] at e;unfold Vi;rw[hd];dsimp only;split
 ·rename_i y q;rw[q] at e;exact congrArg some e
 ·rename_i q;rw[q] at e
  have a:es.toList.any (·.refKey)=false:=by
   rw[List.any_eq_false];intro y hy;obtain⟨z,t,hkey⟩:=hk y (Xq.mp hy);simp[DictEntry.refKey,hkey]
  have a':¬ es.toList.any (·.refKey)=true:=by rw[a];exact Ze
  rw[if_neg a'];exact congrArg some e
theorem ObjM.look(I:ObjM h x dx C mA):∃od,PySem.W.InstAt h x (Vb C dx) C (some od)/\∀name,Vi name od=some (mA name):=
 let ⟨od,ho,hl⟩:=vG I.ns
 ⟨od,⟨I.obj,rfl,rfl,ho⟩,hl⟩
theorem rd.some_of(r:rd (some v) o):∃u,o=some u/\az v u:=by
 cases o with
 |none=>exact(show False from r).elim
 |some u=>exact⟨u,rfl,r⟩
section
variable {P:Program} {w:World} {H H':Hp} {h h':Heap} {a C dx:Addr} {fs fs':List (Str × V)}
theorem BP(hok:HOk P w H h)(e:H a=some (.ins C dx fs)):∃mA,ObjM h a dx C mA/\(∀f,rd (fs.lookup f) (mA f))/\PySem.Within mA (fs.map (·.1))/\fs.length<=1000/\H dx=some (.own a):=by
 obtain⟨d,z,ne,ob,mA,n,r,q⟩:=(show bf P w H h a (.ins C dx fs) from hok a _ e);exact⟨mA,⟨ob,n,ne⟩,r,q,z,d⟩
end
structure Cls(K:W6)(C:Addr):Prop where
 pg:Vk K C Str.empty=true
 hd:PySem.W.hasDictIn K C=true
 po:PySem.W.plainOver K C=true
 sa:W9 K (.ref C) "__setattr__" = some (some (.builtin "object.__setattr__"))
theorem Cls.get{K:W6}{C:Addr}(c:Cls K C)(f:Str):Vk K C f=true:=c.pg
section
variable {X:Cx} {pins:List (Addr × Obj)} {σ:St} {H:Hp} {s:Shared} {A:Around} {E:Value->Shared->Prop} {Q:Value->Shared->Prop} {c:Value} {b:Bool}
inductive TyOf(K:W6)(H:Hp):V->Value->Prop where
 |non:TyOf K H .non (.type "NoneType")
 |bl (x:Bool):TyOf K H (.bl x) (.type "bool")
 |int (i:Int):TyOf K H (.int i) (.type "int")
 |str (x:Str):TyOf K H (.str x) (.type "str")
 |flt (x:UInt64):TyOf K H (.flt x) (.type "float")
 |lst {a:Addr} {xs:List V} (e:H a=some (.lst xs)):TyOf K H (.ref a) (.type "list")
 |frz {a:Addr} {o:Obj} {xs:List V} (e:H a=some (.frz o (.lst xs))):TyOf K H (.ref a) (.type "list")
 |tup {a:Addr} {xs:List V} (e:H a=some (.tup xs)):TyOf K H (.ref a) (.type "tuple")
 |dK {a:Addr} {kvs:List (Key × V)} (e:H a=some (.dK kvs)):TyOf K H (.ref a) (.type "dict")
 |dT {a:Addr} {kvs:List (List NK × V)} (e:H a=some (.dT kvs)):TyOf K H (.ref a) (.type "dict")
 |ins {a C dx:Addr} {fs:List (Str × V)} (e:H a=some (.ins C dx fs)) (cl:Cls K C) (ha:W9 K (.ref C) "__class__" = some (some (.builtin "object.__class__")))
   (hn:PySem.W.specialIn K (.builtin "object.__class__") "__get__" = some (some (.builtin "getset_descriptor.__get__"))) (htk:PySem.W.takesIn K (.builtin "object.__class__")=some true)
   (hm:PySem.W.mroIn K C (.type "object")=some true):TyOf K H (.ref a) (.ref C)
theorem vH(I:Inv X pins σ H s)(rx:az x u)(ty:TyOf X.K H x t)(e:Vf X.K t c=some b)(h:∀tk,Q (.bool b) { s with toks:=tk }) :
  wpAny (model X.prog X.w) A (call (.builtin "isinstance") [u,c]) Q E s:=by
 cases ty with
 |non=>cases (show u=Value.none from rx);exact Ve PySem.W.kitx_none I.kIn True.intro e (λz=>nomatch z) h
 |bl y=>cases (show u=Value.bool y from rx);exact Ve PySem.W.kitx_bool I.kIn True.intro e (λz=>nomatch z) h
 |int i=>obtain⟨t,q⟩:=(show ∃t,u=Value.int i t from rx);cases q;exact Ve PySem.W.kitx_int I.kIn True.intro e (λz=>nomatch z) h
 |str y=>obtain⟨t,q⟩:=(show ∃t,u=Value.str y t from rx);cases q;exact Ve PySem.W.kitx_str I.kIn True.intro e (λz=>nomatch z) h
 |flt y=>obtain⟨t,q⟩:=(show ∃t,u=Value.float y t from rx);cases q;exact Ve PySem.W.kitx_float I.kIn True.intro e (λz=>nomatch z) h
 |@lst a xs ea=>
  cases (show u=Value.ref a from rx);obtain⟨_,_,n,_,h1⟩:=(show bf X.prog X.w H s.heap a (.lst xs) from I.hok a _ ea);exact Ve Vh I.kIn ⟨_,h1,rfl⟩ e (λz=>nomatch z) h
 |@frz a ob xs ea=>
  cases (show u=Value.ref a from rx);obtain⟨_,_,_,n,_,h1⟩:=(show bf X.prog X.w H s.heap a (.frz ob (.lst xs)) from I.hok a _ ea);exact Ve Vh I.kIn ⟨_,h1,rfl⟩ e (λz=>nomatch z) h
 |@tup a xs ea=>
  cases (show u=Value.ref a from rx);obtain⟨_,_,_,p⟩:=(show bf X.prog X.w H s.heap a (.tup xs) from I.hok a _ ea);obtain⟨o,h1,h2,_⟩:=p;exact Ve PySem.W.kitx_tuple I.kIn ⟨o,h1,h2⟩ e (λz=>nomatch z) h
 |@dK a kvs ea=>
  cases (show u=Value.ref a from rx);obtain⟨_,_,vs,_,p⟩:=(show bf X.prog X.w H s.heap a (.dK kvs) from I.hok a _ ea);obtain⟨o,es,ep,h1,h2,_⟩:=p;exact Ve Vg I.kIn ⟨o,h1,h2.1⟩ e (λz=>nomatch z) h
 |@dT a kvs ea=>
  cases (show u=Value.ref a from rx);obtain⟨_,_,xs,_,o,es,ep,h1,h2,_⟩:=(show bf X.prog X.w H s.heap a (.dT kvs) from I.hok a _ ea);exact Ve Vg I.kIn ⟨o,h1,h2.1⟩ e (λz=>nomatch z) h
 |@ins a C dx fs ea cl ha hn htk hm=>
  cases (show u=Value.ref a from rx);obtain⟨mA,O,_⟩:=BP I.hok ea;obtain⟨od,J,_⟩:=O.look;exact Ve (PySem.W.kitx_own (cl.get _) cl.hd ha hn htk hm) I.kIn J e (λz=>nomatch z) h
end
structure Room(k:Nat)(A:Around):Prop where
 hd:A.handled=none
 dp:A.depth+3 * k+5 < recursionLimit
 un:A.units+16 * k+200 < cLine
 gd:A.guards=some []
theorem Room.deeper{k:Nat}(r:Room (k+1) A)(env:Env):Room k (A.deeper env):=
 ⟨r.hd,by have:=r.dp;show A.depth+1+3 * k+5 < _;lia,by have:=r.un;show A.units+3+16 * k+200 < _;lia,r.gd⟩
theorem Room.depth{k:Nat}(r:Room k A):A.depth < recursionLimit:=by have:=r.dp;lia
theorem Room.units{k:Nat}(r:Room k A):A.units+64 < cLine:=by have:=r.un;lia
def iw:TA:=λ_ H Q=>Q [] H
def bW(ta:TE)(tr:TA):TA:=λσ H Q=>ta σ H λx H1=>tr σ H1 λxs H2=>Q (x::xs) H2
section
variable {X:Cx} {e:Expr} {es:List Expr} {te:TE} {t:TA} {pos:Pos}
theorem xK:PA X [] iw:=λ_ _ _ _ H Q I h=>Calls.spliced_nil ⟨[],H,I,.nil,h⟩
theorem BQ(ha:PE X e te)(hr:PA X es t)(hs:V6 (e::es) X.env=(false,eval e X.env)::V6 es X.env:=by rfl):PA X (e::es) (bW te t):=by
 intro pos pins s σ H Q I h;rw[hs];show wpAny _ _ (spliced ((false,eval e X.env)::backTo pos (V6 es X.env))) _ _ s;refine Calls.spliced_cons (thn (ha pins s σ H _ I h) λu s1 ⟨x,H1,I1,r1,q1⟩=>?_);exact thn (hr pos pins s1 σ H1 _ I1 q1) λus s2 ⟨xs,H2,I2,r2,q2⟩=>⟨x::xs,H2,I2,.cons r1 r2,q2⟩
def LU(t:TA):TE:=λσ H Q=>t σ H λxs H1=>xs.length<=sizeLine/\∀p,H1 p=none->Q (.ref p) (upd H1 p (.tup xs))
def LV(t:TA):TE:=λσ H Q=>t σ H λxs H1=>xs.length<=sizeLine/\∀p,H1 p=none->Q (.ref p) (upd H1 p (.lst xs))
theorem GS{x1}(h:PA X es t):PE X (.Tuple es x1 pos) (LU t):=by
 intro pins s σ H Q I hq;refine wpAny_Tuple_spliced (thn (h pos pins s σ H _ I hq) λus s1 ⟨xs,H1,I1,r,z,q⟩=>⟨by rw[<-r.length];exact z,?_⟩);have hf:H1 s1.heap.objs.size=none:=I1.hok.fresh (Zd _);refine⟨.ref s1.heap.objs.size,upd H1 s1.heap.objs.size (.tup xs),I1.laid (t':=s1.toks) (λb u e=>Zc _ e) (Zd _) ?_,rfl,q _ hf⟩;exact⟨z,us,r,nq.new _ _⟩
theorem GU(h:PA X es t):PE X (.List es pos) (LV t):=by
 intro pins s σ H Q I hq;refine wpAny_List_spliced (thn (h pos pins s σ H _ I hq) λus s1 ⟨xs,H1,I1,r,z,q⟩=>⟨by rw[<-r.length];exact z,?_⟩);have hf:H1 s1.heap.objs.size=none:=I1.hok.fresh (Zd _);refine⟨.ref s1.heap.objs.size,upd H1 s1.heap.objs.size (.lst xs),I1.laid (t':=s1.toks) (λb u e=>Zc _ e) (Zd _) ?_,rfl,q _ hf⟩;exact⟨z,us,0,r,Zx _ rfl⟩
end
@[inline]abbrev Sp:=List V->Hp->VK->XK->Prop
@[inline]abbrev CXT:=List Env->Hp->Shared->XK->Value->Shared->Prop
structure Env0(P:Program)(w:World)(K:W6)(mg:Str->Option Value)(base:Heap)(A:Around)(outer:List Env)(s:Shared)(H:Hp):Prop where
 frames:A.frames=some outer
 mod:Mod K mg base
 bs:∀b o,base.get? b=some o->s.heap.get? b=some o/\H b=none
 bsz:base.objs.size<=s.heap.objs.size
 funs:s.heap.FunFrames base outer
 frf:∀b ∈ frs outer,H b=none
 hok:HOk P w H s.heap
 bare:AllBare s.gens
def CE(outer:List Env)(P:Program)(w:World)(H:Hp)(s:Shared)(Q:VK)(u:Value)(s':Shared):Prop:=
 ∃v H',s'.os=s.os/\AllBare s'.gens/\Un (frs outer) [] H H' s.heap s'.heap/\HOk P w H' s'.heap/\az v u/\Q v H'
def CR(CX:CXT)(outer:List Env)(P:Program)(w:World)(H:Hp)(s:Shared)(Q:VK)(E:XK)(r:Result)(s':Shared):Prop:=
 match r with
 |.ok (.ret u)=>CE outer P w H s Q u s'
 |.ok _=>False
 |.error e=>CX outer H s E e s'
structure FnOk(P:Program)(w:World)(K:W6)(mg:Str->Option Value)(base:Heap)(CX:CXT)(k:Nat)(f:Addr)(fd:WN)(ps:List Str)(sp:Sp):Prop where
 len:∀vs H Q E,sp vs H Q E->vs.length=ps.length
 run:∀ (A:Around) (outer:List Env) (s:Shared) (H:Hp) (args:Args) (us:List Value) (vs:List V) (Q:VK) (E:XK),Room k A->Env0 P w K mg base A outer s H->BindsTo s fd args (ps.zip us)->aH vs us->sp vs H Q E ->
  codeAny (model P w) A (.call (.ref f) args) (CR CX outer P w H s Q E) s
section
variable {X:Cx} {pins:List (Addr × Obj)} {σ:St} {H:Hp} {s s':Shared}
theorem Inv.env0(I:Inv X pins σ H s):Env0 X.prog X.w X.K X.mg X.base X.A X.stack s H:=
 ⟨I.ok.frames,I.ok.mod,I.bs,ZI I.ok.bsz I.sz,I.stack,I.stkFree,I.hok,I.bare⟩
theorem Inv.after(I:Inv X pins σ H s)(h:CE X.stack X.prog X.w H s Q u s'):EP X pins σ Q u s':=by
 obtain⟨v,H',os,bare,un,hok,r,q⟩:=h;obtain⟨hh,g,d,t,os'⟩:=s';obtain rfl:os'=s.os:=os;exact⟨v,H',I.call (h':=hh) (g':=g) (d':=d) (t':=t) (ch:=[]) un hok bare (λb z=>absurd z (by simp)),r,q⟩
end
def Fy(sp:Sp)(dvs:List V)(E:XK)(t:TA):TE:=λσ H Q=>t σ H λvs H1=>sp (vs++dvs) H1 Q E
def ma(K:W6)(fd:WN)(ps:List Str)(ds:List Value):Prop:=
 ∀ (s:Shared) (us:List Value),K.In s.heap->(us++ds).length=ps.length->BindsTo s fd ⟨us,[]⟩ (ps.zip (us++ds))
theorem ma.all{K:W6}{fd:WN}{ps:List Str}(h:∀us:List Value,us.length=ps.length->bindArgs fd ⟨us,[]⟩=pure (ps.zip us)):ma K fd ps []:=λs us _ hl=>by
 rw[Z9] at hl ⊢;exact .of_eq (h us hl)
def rp(CX:CXT)(X:Cx)(E:XK):Prop:=∀ (pins:List (Addr × Obj)) (σ:St) (H:Hp) (s:Shared) (e:Value) (s':Shared),Inv X pins σ H s->CX X.stack H s E e s'->X.xe e s'
section
variable {X:Cx} {CX:CXT} {k:Nat} {f C:Addr} {fd:WN} {ps:List Str} {sp:Sp} {dvs:List V} {ds:List Value} {E:XK} {x m:Str} {p pos apos:Pos} {e o:Expr} {es:List Expr} {ta:TE} {t:TA}
theorem GV(F:FnOk X.prog X.w X.K X.mg X.base CX k f fd ps sp)(hr:Room k X.A)(hb:ma X.K fd ps ds)(hd:aH dvs ds)(hx:rp CX X E)
  (I:Inv X pins σ H s) (r:aH vs us) (h:sp (vs++dvs) H Q E):wpAny (model X.prog X.w) X.A (call (.ref f) us) (EP X pins σ Q) X.xe s:=by
 have r2:aH (vs++dvs) (us++ds):=r.append hd;have hl:(us++ds).length=ps.length:=by rw[<-r2.length];exact F.len _ _ _ _ h
 refine wpAny_call (Vz (F.run X.A X.stack s H ⟨us,[]⟩ (us++ds) (vs++dvs) Q E hr I.env0 (hb s us I.kIn hl) r2 h) λr s' hq=>?_);cases r with
 |error e=>exact hx pins σ H s e s' I hq
 |ok fl=>
  cases fl with
  |ret u=>exact I.after hq
  |next=>exact False.elim hq
  |brk=>exact False.elim hq
  |cont=>exact False.elim hq
theorem BR(F:FnOk X.prog X.w X.K X.mg X.base CX k f fd ps sp)(hr:Room k X.A)(hg:Gl X x)(hm:X.mg x=some (.ref f))(hk:Vc X.K (.ref f)=true)(hb:ma X.K fd ps ds)(hd:aH dvs ds)(hx:rp CX X E)
  (ha:PA X (e::es) t) (hdb:(x == ("__debug__" : Str))=false:=by decide) (he:V6 (e::es) X.env=(false,eval e X.env)::V6 es X.env:=by rfl) (hpl:(backTo pos (V6 es X.env)).any (·.1)=false:=by rfl) :
  PE X (.Call (.Name x p) (e::es) [] pos) (Fy sp dvs E t):=by
 intro pins s σ H Q I h;refine Ue (tJ I hg hm ?_ hdb);refine PySem.W.callWith_K (h₀:=X.base) I.ok.mod.kin hk (thn (ha pos pins s σ H _ I h) λus s1 ⟨vs,H1,I1,r,q⟩=>⟨I1.kIn,?_⟩) he hpl;exact GV F hr hb hd hx I1 r q
end
def PK(X:Cx)(kws:List Keyword)(t:TA):Prop:=
 ∀ (pos:Pos) (pins:List (Addr × Obj)) (s:Shared) (σ:St) (H:Hp) (Q:List V->Hp->Prop),Inv X pins σ H s->t σ H Q->wpAny (model X.prog X.w) X.A (evalAll ((Vp pos (VL kws X.env)).map (·.2))) (AP X pins σ Q) X.xe s
section
variable {X:Cx} {CX:CXT} {k:Nat} {f C:Addr} {fd:WN} {ps ks:List Str} {sp:Sp} {E:XK} {x m:Str} {p pos apos kpos:Pos} {e o:Expr} {es:List Expr} {kws:List Keyword} {te ta:TE} {t tk:TA} {nm:Option Str}
theorem xL:PK X [] iw:=λ_ _ _ _ H Q I h=>wpAny_evalAll_nil ⟨[],H,I,.nil,h⟩
theorem tM(ha:PE X e te)(hr:PK X kws t):PK X (⟨nm,e,kpos⟩::kws) (bW te t):=by
 intro pos pins s σ H Q I h;show wpAny _ _ (evalAll ((do let v <-eval e X.env;standAt pos;pure v)::(Vp pos (VL kws X.env)).map (·.2))) _ _ s;refine wpAny_evalAll_cons (Uf (thn (ha pins s σ H _ I h) λu s1 ⟨x,H1,I1,r1,q1⟩=>Uf (UJ (Ux ?_))));exact thn (hr pos pins s1 σ H1 _ I1 q1) λus s2 ⟨xs,H2,I2,r2,q2⟩=>⟨x::xs,H2,I2,.cons r1 r2,q2⟩
variable {g:List Value->List Value->List Value} {gV:List V->List V->List V}
end
structure FnScope(N P:List Str)(sc:Scope):Prop where
 kind:sc.kind = .function
 co:sc.isCoroutine=false
 gen:sc.isGenerator=false
 nd:N.Nodup
 pre:N.take P.length=P
 par:∀x ∈ P,sc.names.lookup x=some .local\/sc.names.lookup x=some .cell
 nofree:∀y ∈ sc.names,y.2 ≠ .free
theorem md{kindOf:Str->Option WQ}{x:Str}:∀ {binds:List (Str × Value)} {m:Str->Option Value},(∀v,(x,v) ∉ binds)->bindL kindOf binds m x=m x
 |[],_,_=>rfl
 |(n,v)::r,m,h=>by
  unfold bindL;rw[md λw hw=>h w (Zf _ hw)];split
  ·have:x ≠ n:=by rintro rfl;exact h v Zh
   simp[this]
  ·rfl
theorem mf{kindOf:Str->Option WQ}{x:Str}:∀ {binds:List (Str × Value)} {m:Str->Option Value},(∀v,(x,v) ∉ binds)->bindC kindOf binds m x=m x
 |[],_,_=>rfl
 |(n,v)::r,m,h=>by
  unfold bindC;rw[mf λw hw=>h w (Zf _ hw)];split
  ·rfl
  ·have:x ≠ n:=by rintro rfl;exact h v Zh
   simp[this]
theorem mh{kindOf:Str->Option WQ}{x:Str}{v:Value}:∀ {P:List Str} {vs:List Value} {i:Nat} {m:Str->Option Value},P.Nodup->P[i]?=some x->vs[i]?=some v->kindOf x=some .local ->
  bindL kindOf (P.zip vs) m x=some v
 |[],_,_,_,_,h,_,_=>by simp at h
 |_::_,[],_,_,_,_,h,_=>by simp at h
 |p::P,w::vs,0,m,nd,h1,h2,hk=>by
  simp at h1 h2;subst h1;subst h2;show bindL kindOf ((p,w)::P.zip vs) m p=_;unfold bindL;rw[md λv hv=>(Yn.mp nd).1 (Xj hv).1,if_pos hk];simp
 |p::P,w::vs,i+1,m,nd,h1,h2,hk=>by
  show bindL kindOf ((p,w)::P.zip vs) m x=_;unfold bindL;exact mh (i:=i) (Yn.mp nd).2 (by simpa using h1) (by simpa using h2) hk
theorem mi{kindOf:Str->Option WQ}{x:Str}{v:Value}:∀ {P:List Str} {vs:List Value} {i:Nat} {m:Str->Option Value},P.Nodup->P[i]?=some x->vs[i]?=some v->kindOf x ≠ some .local ->
  bindC kindOf (P.zip vs) m x=some v
 |[],_,_,_,_,h,_,_=>by simp at h
 |_::_,[],_,_,_,_,h,_=>by simp at h
 |p::P,w::vs,0,m,nd,h1,h2,hk=>by
  simp at h1 h2;subst h1;subst h2;show bindC kindOf ((p,w)::P.zip vs) m p=_;unfold bindC;rw[mf λv hv=>(Yn.mp nd).1 (Xj hv).1,if_neg hk];simp
 |p::P,w::vs,i+1,m,nd,h1,h2,hk=>by
  show bindC kindOf ((p,w)::P.zip vs) m x=_;unfold bindC;exact mi (i:=i) (Yn.mp nd).2 (by simpa using h1) (by simpa using h2) hk
abbrev f8(N:List Str)(vs:List V):St:=vs.map some++Zu (N.length - vs.length) none
abbrev rq(CX:CXT)(P:Program)(w:World)(K:W6)(mg:Str->Option Value)(base:Heap)(N:List Str)(qual:Str)(scope:Scope)(f:Addr)(cd:Value)(A:Around)(outer:List Env)(s:Shared)(H:Hp)(E:XK):Cx where
 prog:=P
 w:=w
 K:=K
 mg:=mg
 base:=base
 A:=A.deeper (envOfC qual scope s.heap.objs.size f cd)
 N:=N
 s₀:=s
 H₀:=H
 env:=envOfC qual scope s.heap.objs.size f cd
 outer:=outer
 stack:=envOfC qual scope s.heap.objs.size f cd::outer
 ex:=[]
 calm:=true
 fn:=λ_=>true
 pn:=[]
 xe:=λe s'=>wpAny (model P w) (A.deeper (envOfC qual scope s.heap.objs.size f cd)) (leaving (envOfC qual scope s.heap.objs.size f cd) e) (λ_ s''=>CX outer H s E e s'') (λe' s''=>CX outer H s E e' s'') s'
theorem pf{sc:Scope}{n:Nat}{x:Str}(h:sc.names.lookup x=some .cell):∃c,(Vx n sc.names []).lookup x=some c:=by
 have q:=W7 sc.names n [] (.inl h);exact Z0.mp q
theorem vI{CX:CXT}{P:Program}{w:World}{K:W6}{mg:Str->Option Value}{base:Heap}{N ps:List Str}{qual:Str}{scope:Scope}{f:Addr}{cd:Value}{A:Around}{outer:List Env}{s s1:Shared}{H:Hp}{E:XK}{us:List Value}{vs:List V}
  (S:FnScope N ps scope) (hd:A.handled=none) (e0:Env0 P w K mg base A outer s H) (hl:vs.length=ps.length) (r:aH vs us)
  (x:InCallC s s.heap.objs.size (bindL (envOfC qual scope s.heap.objs.size f cd).kindOf (ps.zip us) λ_=>none) (Vx (s.heap.objs.size+1) scope.names []) (bindC (envOfC qual scope s.heap.objs.size f cd).kindOf (ps.zip us) λ_=>none) s1) :
  Inv (rq CX P w K mg base N qual scope f cd A outer s H E) [] (f8 N vs) H s1:=by
 have hpl:ps.length<=N.length:=by have:=congrArg Zj S.pre;rw[Ys] at this;lia
 obtain⟨h1,tk,rfl,hk⟩:=x.done;have noA:∀b:Addr,b ∉ (rq CX P w K mg base N qual scope f cd A outer s H E).ex:=λb z=>absurd (show b ∈ ([]:List Addr) from z) (by simp)
 refine⟨⟨e0.mod,S.kind,rfl,rfl,Zd _,λy z c h1 h2=>?_,λy hy=>?_,λy c _ h=>?_,λ_=>hd,Around.frames_deeper e0.frames,.inr ⟨rfl,rfl⟩,λb z=>absurd z (noA b),e0.bs,e0.bsz,λb _ _=>noA b,λb z=>absurd z (noA b),e0.funs,e0.frf⟩,
  rfl,e0.bare,Un.kept hk,⟨_,x.toInCall.ns,λi y v h1 h2 h3=>?_⟩,λy c h=>⟨_,x.cell y c h⟩,e0.hok.fresh (Zd _),λy c h=>?_,λp hp=>absurd (show p ∈ ([]:List (Addr × Obj)) from hp) (by simp),e0.hok.kept hk,?_⟩
 ·exact name_of_addr x.apart (VO h1) (VO h2)
 ·have hy:scope.names.lookup y=some .cell\/scope.names.lookup y=some .free:=hy;rcases hy with hy |hy
  ·exact pf hy
  ·exact absurd rfl (S.nofree _ (VO hy))
 ·exact Y2 (x.above y c (VO h))
 ·have hi:i < vs.length:=by
   unfold f8 at h2;by_cases hi:i < vs.length
   ·exact hi
   ·rw[Zo (by simpa using hi)] at h2;rw[Yt] at h2;split at h2 <;> cases h2
  have ha:vs[i]?=some v:=by
   unfold f8 at h2;rw[Zt (by simpa using hi),Zs] at h2;cases e:vs[i]? with
   |none=>rw[e] at h2;cases h2
   |some a=>rw[e] at h2;cases h2;rfl
  obtain⟨u,hu,rv⟩:=r.get ha
  have hp:ps[i]?=some y:=by
   rw[<-S.pre,List.getElem?_take_of_lt (by lia)];exact h1
  have ndP:ps.Nodup:=by rw[<-S.pre];exact S.nd.sublist (List.take_sublist _ _)
  refine⟨u,rv,?_⟩;rcases S.par y (Zi hp) with k |k
  ·exact .inl ⟨k,mh ndP hp hu k⟩
  ·obtain⟨c,e⟩:=pf (n:=s.heap.objs.size+1) k;refine .inr ⟨.inl k,c,e,?_⟩;have q:=x.cell y c e;rw[mi ndP hp hu (by show scope.names.lookup y ≠ _;rw[k];decide)] at q;exact q
 ·exact e0.hok.fresh (Y2 (x.above y c (VO h)))
 ·unfold f8;show _=N.length;rw[Zg,Za,Xm]
  lia
theorem LW{CX:CXT}{P:Program}{w:World}{K:W6}{mg:Str->Option Value}{base:Heap}{k:Nat}{f:Addr}{name qual:Str}{params:Arguments}{body:List Stmt}{scope:Scope}{dV kV doc pm cdv ct oc:Value}{an od:Option Addr}
  {osl:Array (Option Value)} {N ps:List Str} {sp:Sp} (lk:K.lookup f=some ⟨oc,od,.func (Va name qual params body scope dV kV doc pm an cdv ct),osl⟩) (hcd:W8 K cdv qual=true) (S:FnScope N ps scope)
  (len:∀vs H Q E,sp vs H Q E->vs.length=ps.length)
  (hbody:∀ (A:Around) (outer:List Env) (s:Shared) (H:Hp) (vs:List V) (Q:VK) (E:XK),Room k (A.deeper (envOfC qual scope s.heap.objs.size f cdv))->sp vs H Q E ->
   ∃t,PSs (rq CX P w K mg base N qual scope f cdv A outer s H E) body t/\t { nx:=λ_ H'=>Q .non H',rt:=Q } (f8 N vs) H) :
  FnOk P w K mg base CX (k+1) f (Va name qual params body scope dV kV doc pm an cdv ct) ps sp:=by
 refine⟨len,λA outer s H args us vs Q E hr e0 hb r hsp=>?_⟩;have hl:=len _ _ _ _ hsp;have KX:K.In s.heap:=e0.mod.kin.keeps λb o e=>(e0.bs b o e).1;have lim:s.heap.NoLimit:=e0.mod.nolimit.keeps λb o e=>(e0.bs b o e).1
 have hkind:∀y ∈ ps.zip us,scope.names.lookup y.1=some .local\/(scope.names.lookup y.1=some .cell/\((Vx (s.heap.objs.size+1) scope.names []).lookup y.1).isSome=true):=λ⟨n,v⟩ hy=>by
  rcases S.par n (Xj hy).1 with q |q
  ·exact .inl q
  ·exact .inr ⟨q,W7 _ _ _ (.inl q)⟩
 refine codeAny_call_function hr.depth (KX _ _ lk) rfl S.co S.gen rfl (PySem.W.codeRec_of KX hcd) (hb _ _ _ _ ?_);refine wpAny_newFunctionEnv_cells S.kind hkind λenv he s1 x=>?_;subst he;refine⟨lim.keeps x.toInCall.keep,codeAny_func ?_⟩;obtain⟨t,ht,hq⟩:=hbody A outer s H vs Q E (hr.deeper _) hsp;have I:Inv (rq CX P w K mg base N qual scope f cdv A outer s H E) [] (f8 N vs) H s1:=vI S hr.hd e0 hl r x;refine Ut (ht [] s1 (f8 N vs) H _ I hq) (λfl s' hs=>?_) λe s' hs=>hs
 have fin:∀ {σ':St} {H':Hp} {v:V} {u:Value},Inv (rq CX P w K mg base N qual scope f cdv A outer s H E) [] σ' H' s'->az v u->Q v H'->CE outer P w H s Q u s':=
  λ{σ' H' v u} J rv q=>⟨v,H',J.os,J.bare,J.base,J.hok,rv,q⟩
 cases fl with
 |ret u=>
  obtain⟨v,σ',H',J,rv,q⟩:=hs;exact fin J rv q
 |next=>
  obtain⟨σ',H',J,q⟩:=hs;exact fin (v:=V.non) (u:=Value.none) J rfl q
 |brk=>
  obtain⟨_,_,_,q⟩:=hs;exact False.elim q
 |cont=>
  obtain⟨_,_,_,q⟩:=hs;exact False.elim q
section
variable {X:Cx} {x:Str} {p pos:Pos} {e:Expr} {es:List Expr} {t:TA} {id T:String} {r:List V->Hp->VK->Prop}
def tCB(r:List V->Hp->VK->Prop)(t:TA):TE:=λσ H Q=>t σ H λvs H1=>r vs H1 Q
theorem gW(hc:aR X (.builtin id) r)(hg:Gl X x)(hm:X.mg x=none)(hv:Vt x=some (.builtin id))(ha:PA X (e::es) t)(hn:x ≠ "__name__" := by decide)(hdb:(x == ("__debug__" : Str))=false:=by decide)
  (he:V6 (e::es) X.env=(false,eval e X.env)::V6 es X.env:=by rfl) (hpl:(backTo pos (V6 es X.env)).any (·.1)=false:=by rfl):PE X (.Call (.Name x p) (e::es) [] pos) (tCB r t):=by
 intro pins s σ H Q I h;refine Ue (cV I hg hm hv ?_ hn hdb);exact PyProof.Rows.callWith_builtin1 (thn (ha pos pins s σ H _ I h) λus s1 ⟨vs,H1,I1,r1,q1⟩=>hc pins s1 σ H1 vs us Q I1 r1 q1) he hpl
theorem iy(hc:aR X (.type T) r)(hg:Gl X x)(hm:X.mg x=none)(hv:Vt x=some (.type T))(ha:PA X (e::es) t)(hn:x ≠ "__name__" := by decide)(hdb:(x == ("__debug__" : Str))=false:=by decide)
  (he:V6 (e::es) X.env=(false,eval e X.env)::V6 es X.env:=by rfl) (hpl:(backTo pos (V6 es X.env)).any (·.1)=false:=by rfl):PE X (.Call (.Name x p) (e::es) [] pos) (tCB r t):=by
 intro pins s σ H Q I h;refine Ue (cV I hg hm hv ?_ hn hdb);exact Wp (thn (ha pos pins s σ H _ I h) λus s1 ⟨vs,H1,I1,r1,q1⟩=>hc pins s1 σ H1 vs us Q I1 r1 q1) he hpl
end
end L2
namespace HT
open PySem PyProof.Rows
abbrev bX:List Int->List Int->Bool
 |[],[]=>false
 |[],_::_=>true
 |_::_,[]=>false
 |x::xs,y::ys=>if x=y then bX xs ys else decide (x < y)
theorem gm(x y:Int)(xs ys:List Int):bX (x::xs) (y::ys)=if x=y then bX xs ys else decide (x < y):=rfl
theorem lB:bX [] []=false:=rfl
theorem jQ(y:Int)(ys:List Int):bX [] (y::ys)=true:=rfl
theorem jR(x:Int)(xs:List Int):bX (x::xs) []=false:=rfl
theorem pq(A:Around)(s:Shared)(a:Int)(t:Tok)(c:Int)(u:Tok):∃e,WY A s (.int a t) (.int c u) e/\(e=true ↔ a=c):=
 ⟨(a == c),SeqAt.EqAt.int_int a t c u,by simp⟩
theorem pA(A:Around)(s:Shared)(a:Int)(t:Tok)(c:Int)(u:Tok)(prog:Program)(w:World)(E:Value->Shared->Prop)(Q:Value->Shared->Prop)(h:Q (.bool (decide (a < c))) s) :
  wpAny (model prog w) A (VY .Lt (.int a t) (.int c u)) Q E s:=
 (PyProof.Rows.lt_int h:wpAny (model prog w) A (VA .Lt (.int a t) (.int c u)) Q E s)
section
open PySem.SeqAt
open PySem.AutoSeq1 (wpAny_loadPart')
open PySem.MeetsSeq PySem.MeetsSeq2 PySem.MeetsSeq3
theorem lH(l b:Addr)(items items2:Array Value)(n n2:Nat)(dd dd2:Option Addr)(sl sl2:Array (Option Value))(ns ms:List Int)(hi:IntsAre items.toList ns)(hj:IntsAre items2.toList ms) :
  Meets (Builtin.«tuple.__lt__» ⟨[.ref l,.ref b],[]⟩)
   (λ_ R s=>s.heap.get? l=some { cls:=.type "tuple", dict:=dd,data:=.seq items n,slots:=sl }/\s.heap.get? b=some { cls:=.type "tuple", dict:=dd2,data:=.seq items2 n2,slots:=sl2 } ∧
    R (.ok (.ret (.bool (bX ns ms)))) s):=
 .of_wp λprog w A R s h=>by
  obtain⟨hp,g,d,tk,os⟩:=s;obtain⟨hl,hb,h⟩:=h;have f2:=AutoSeq1.sub_tuple_tuple;have z1:items.size=ns.length:=by rw[<-hi.length];simp
  have z2:items2.size=ms.length:=by rw[<-hj.length];simp
  wp_walk using Us hl,Us hb,Um _ (λrest b s'=>b.1=none/\s'=⟨hp,g,d,tk,os⟩/\∃ (vs ws:List Value) (ns' ms':List Int),rest=vs.zip ws ∧
   IntsAre vs ns'/\IntsAre ws ms'/\ns'.length+items2.size=ms'.length+items.size/\R (.ok (.ret (.bool (bX ns' ms')))) ⟨hp,g,d,tk,os⟩) _
  case turn=>
   rintro⟨y,x⟩ rest b s' ⟨hb',rfl,vs,ws,ns',ms',hz,hvi,hwi,hlen,hR⟩;cases hvi with
   |nil=>rw[List.zip_nil_left] at hz;cases hz
   |cons a t hvi'=>
    cases hwi with
    |nil=>rw[List.zip_nil_right] at hz;cases hz
    |cons c u hwi'=>
     rw[Z2] at hz;injection hz with hyx hrest;injection hyx with hy hx;subst hy hx;rw[gm] at hR;simp only[Zr] at hlen;obtain⟨e,he,hiff⟩:=pq A.in1 ⟨hp,g,d,tk,os⟩ a t c u;refine Uf (he prog w _ _ ?_);cases e with
     |true=>
      rw[if_pos (hiff.mp rfl)] at hR
      wp_walk
      exact⟨rfl,rfl,_,_,_,_,hrest,hvi',hwi',by lia,hR⟩
     |false=>
      rw[if_neg (λq=>absurd (hiff.mpr q) Ze)] at hR;have hri:=pA A.in1 ⟨hp,g,d,tk,os⟩ a t c u prog w
      wp_walk using hri
      exact⟨_,rfl,by simpa using hR⟩
  case fin=>
   rintro⟨b1,b2⟩ s' ⟨hb',rfl,vs,ws,ns',ms',hz,hvi,hwi,hlen,hR⟩;simp only at hb';subst hb'
   have hv:bX ns' ms'=decide (items.size < items2.size):=by
    cases hvi with
    |nil=>
     cases hwi with
     |nil=>
      simp only[Z1] at hlen;rw[lB];exact(decide_eq_false (by lia)).symm
     |cons c u hw=>
      simp only[Z1,Zr] at hlen;rw[jQ];exact(decide_eq_true (by lia)).symm
    |cons a t hv=>
     cases hwi with
     |nil=>
      simp only[Z1,Zr] at hlen;rw[jR];exact(decide_eq_false (by lia)).symm
     |cons c u hw=>
      rw[Z2] at hz;cases hz
   rw[hv] at hR
   wp_walk
   exact⟨_,rfl,by simpa[Builtin.Tuple.tupleCompareSizes] using hR⟩
  case h=>
   exact⟨rfl,rfl,items.toList,items2.toList,ns,ms,rfl,hi,hj,by lia,h⟩
end
section
variable {prog:Program} {w:World} {A:Around} {E:Value->Shared->Prop} {s:Shared}
theorem rA(hl:IsTup s.heap l items)(hb:IsTup s.heap b items2)(hi:IntsAre items.toList ns)(hj:IntsAre items2.toList ms)
  (hu:A.units < cLine) (h:Q (.bool (bX ns ms)) s):wpAny (model prog w) A (VA .Lt (.ref l) (.ref b)) Q E s:=by
 obtain⟨⟨cls,dd,data,sl⟩,ho,hc,n,hd⟩:=id hl;obtain⟨⟨cls2,dd2,data2,sl2⟩,ho2,hc2,n2,hd2⟩:=id hb;simp only at hc hd hc2 hd2;subst hc hd hc2 hd2
 exact VZ (op:=.Lt) ⟨_,ho,rfl⟩ ⟨_,ho2,rfl⟩ WL WB (Ww _ _) (lH l b items items2 n n2 dd dd2 sl sl2 ns ms hi hj)
  ⟨ho,ho2,show Value.bool (bX ns ms) ≠ Value.notImplemented/\Q (.bool (bX ns ms)) s from ⟨(λx=>nomatch x),h⟩⟩ hu
theorem BS(ht:IsTup s.heap t vs.toArray)(hb:IsTup s.heap b ws.toArray)(hv:vs ≠ [])
  (h1:ws=[]->Q (.ref t) s) (h2:ws ≠ []->Q (.ref s.heap.objs.size) { s with heap:=s.heap.push { cls:=.type "tuple", data:=.seq (vs++ws).toArray } })
  (hsz:vs.length+ws.length<=sizeLine):wpAny (model prog w) A (Vr .Add (.ref t) (.ref b)) Q E s:=by
 obtain⟨⟨cls,dd,data,sl⟩,ho,hc,n,hd⟩:=id ht;obtain⟨⟨cls2,dd2,data2,sl2⟩,ho2,hc2,n2,hd2⟩:=id hb;simp only at hc hd hc2 hd2;subst hc hd hc2 hd2;have e:vs.toArray++ws.toArray=(vs++ws).toArray:=by simp
 by_cases hw:ws=[]
 ·exact VB ⟨_,ho,rfl⟩ ⟨_,ho2,rfl⟩ VQ V3 WI Wz (Wu _ _)
   (tuple_addW1 t b vs.toArray ws.toArray n n2 dd dd2 sl sl2 (by simpa using hv) (by simp[hw])) ⟨ho,ho2,h1 hw⟩
 ·refine VB ⟨_,ho,rfl⟩ ⟨_,ho2,rfl⟩ VQ V3 WI Wz (Wu _ _)
   (tuple_addW2 t b vs.toArray ws.toArray n n2 dd dd2 sl sl2 (by simpa using hv) (by simpa using hw) (by rw[Zk,Zk];exact hsz)) ⟨ho,ho2,?_⟩
  rw[e];exact h2 hw
abbrev sIx(n d:Nat):Option Int->Nat
 |none=>d
 |some v=>if v < 0 then (v+(n:Int)).toNat else min v.toNat n
theorem xM(n d:Nat):sIx n d none=d:=rfl
theorem GW(n d:Nat)(hd:d<=n)(o:Option Int):sIx n d o<=n:=by
 cases o with
 |none=>exact hd
 |some v=>
  show(if v < 0 then (v+(n:Int)).toNat else min v.toNat n)<=n;by_cases hv:v < 0
  ·rw[if_pos hv];lia
  ·rw[if_neg hv];exact Nat.min_le_right _ _
theorem tN(v:Int)(n d:Nat):(if v < 0 then max (v+(n:Int)) 0 else min v (n:Int))=((sIx n d (some v):Nat):Int):=by
 show(if v < 0 then max (v+(n:Int)) 0 else min v (n:Int))=(((if v < 0 then (v+(n:Int)).toNat else min v.toNat n):Nat):Int);by_cases hv:v < 0
 ·simp only[if_pos hv];lia
 ·simp only[if_neg hv];lia
theorem rB(lo hi:Option Int)(n:Nat):Builtin.Slice.sliceAdjust lo hi 1 (n:Int)=(((sIx n 0 lo:Nat):Int),((sIx n n hi:Nat):Int)):=by
 have h1:¬ ((1:Int) < 0):=by lia
 unfold Builtin.Slice.sliceAdjust;simp only[h1,if_false];refine Prod.ext ?_ ?_
 ·cases lo with
  |none=>rfl
  |some v=>exact tN v n 0
 ·cases hi with
  |none=>rfl
  |some v=>exact tN v n n
theorem rC(i j:Nat):Builtin.Slice.slicePlaces (i:Int) (j:Int) 1=j - i:=by
 unfold Builtin.Slice.slicePlaces;have h1:(1:Int) > 0:=by lia
 simp only[h1,if_true,We];split <;> lia
theorem jS(p:IsPart v o)(h:Q o s):wpAny (model prog w) A (Builtin.Slice.slicePartIndex v) Q E s:=by
 cases p with
 |none=>exact slicePart_none h
 |int i t=>exact slicePart_int h
theorem dj{sl:Addr}{vl vu:Value}{lo hi:Option Int}{n:Nat}{Q:Int × Int × Nat->Shared->Prop}(hs:s.heap.IsSliceOf sl vl vu .none)(pl:IsPart vl lo)(pu:IsPart vu hi)
  (h:Q (((sIx n 0 lo:Nat):Int),1,sIx n n hi - sIx n 0 lo) s):wpAny (model prog w) A (Builtin.Slice.sliceApplied (.ref sl) (pure (n:Int))) Q E s:=by
 obtain⟨os,hos,hcs,hds⟩:=id hs;unfold Builtin.Slice.sliceApplied Builtin.Slice.sliceFields;refine Uf (Uf (Ul hos hds (x:=vl) rfl (Uf (Ul hos hds (x:=vu) rfl (Uf (Ul hos hds (x:=.none) rfl (Ux ?_)))))));refine Uf (slicePart_none ?_);show wpAny _ _ (if ((1:Int) == 0)=true then _ else _) _ _ s;rw[if_neg (by decide)];refine Uf (jS pl (Uf (jS pu (Uf (Ux ?_)))));show wpAny _ _ (match Builtin.Slice.sliceAdjust lo hi 1 (n:Int) with |(lo,hi)=>pure (lo,(1:Int),Builtin.Slice.slicePlaces lo hi 1)) _ _ s;rw[rB lo hi n];show wpAny _ _ (pure (((sIx n 0 lo:Nat):Int),(1:Int),Builtin.Slice.slicePlaces ((sIx n 0 lo:Nat):Int) ((sIx n n hi:Nat):Int) 1)) _ _ s;rw[rC];exact Ux h
theorem xN(xs:Array Value)(i k:Nat):((Zl k).filterMap λ(m:Nat)=>xs[((i:Int)+(m:Int) * 1).toNat]?).toArray=((xs.toList.drop i).take k).toArray:=by
 have e:(λ(m:Nat)=>xs[((i:Int)+(m:Int) * 1).toNat]?)=λm=>xs[i+m]?:=by
  funext m
  have:((i:Int)+(m:Int) * 1).toNat=i+m:=by lia
  rw[this]
 rw[e];have:=pick_run xs i k;rw[XD] at this;have e2:((λx=>xs[x]?) ∘ λx=>i+x)=λm=>xs[i+m]?:=rfl;rw[e2] at this;rw[this]
theorem gX{t sl:Addr}{items:Array Value}{vl vu:Value}{lo hi:Option Int}{Q:Value->Shared->Prop}(ht:IsTup s.heap t items)(hs:s.heap.IsSliceOf sl vl vu .none)(pl:IsPart vl lo)(pu:IsPart vu hi)
  (hw:¬ (sIx items.size 0 lo=0/\sIx items.size items.size hi=items.size))
  (h:Q (.ref s.heap.objs.size) { s with heap:=s.heap.push { cls:=.type "tuple", data:=.seq ((items.toList.drop (sIx items.size 0 lo)).take (sIx items.size items.size hi - sIx items.size 0 lo)).toArray } })
  (hsz:items.size<=sizeLine):wpAny (model prog w) A (getItem (.ref t) (.ref sl)) Q E s:=by
 have htake:sizeOk (.seq ((items.toList.drop (sIx items.size 0 lo)).take (sIx items.size items.size hi - sIx items.size 0 lo)).toArray):=by
  show((items.toList.drop (sIx items.size 0 lo)).take (sIx items.size items.size hi - sIx items.size 0 lo)).toArray.size<=sizeLine;rw[Zk,Ys,YT,Zw]
  lia
 have hj:sIx items.size items.size hi<=items.size:=GW _ _ (Zd _) hi;obtain⟨os,hos,hcs,hds⟩:=id hs;have hTs:s.TypeIs (.ref sl) "slice" := ⟨os,hos,hcs⟩;unfold getItem
 try with_reducible refine Up ?_
 first |refine Uf (Ux ?_) |skip
 refine Uf (UH ht.typeIs (by decide) ?_)
 refine Uf (wpAny_callSpecial?_slot (name:=Str.ofString "__getitem__") ht.typeIs Wq
  (Uh Wq ht.typeIs entry_tuple_getitem ?_ (args_tuple_getitem _ _)))
 show wpAny _ _ (Builtin.Tuple.tupleItemsOf (.ref t) >>= _) _ _ s;refine Uf (tupleItemsOf_ ht ?_);refine Uf (UM hTs ?_);rw[if_pos (by decide)];refine Uf (dj hs pl pu ?_)
 have hno:¬ ((((sIx items.size 0 lo:Nat):Int) == 0 && (1:Int) == 1 && (sIx items.size items.size hi - sIx items.size 0 lo) == items.size)=true):=by
  intro q;rw[bAE,bAE] at q;have q1:((sIx items.size 0 lo:Nat):Int)=0:=eq_of_beq q.1.1;have q2:sIx items.size items.size hi - sIx items.size 0 lo=items.size:=eq_of_beq q.2;exact hw ⟨by lia,by lia⟩
 show wpAny _ _ (if (((sIx items.size 0 lo:Nat):Int) == 0 && (1:Int) == 1 && (sIx items.size items.size hi - sIx items.size 0 lo) == items.size)=true then _ else _) _ _ s;rw[if_neg hno,xN]
 first
  |exact Uf (m:=Builtin.Tuple.tupleExact _) (Uu (Ux ⟨_,rfl,Ux h⟩) htake)
  |exact Uf (m:=Builtin.Tuple.tupleExact _) (Uu (Uf (Ux (Ux ⟨_,rfl,Ux h⟩))) htake)
  |exact Uf (Uf (m:=Builtin.Tuple.tupleExact _) (Uu (Ux (Ux ⟨_,rfl,Ux h⟩)) htake))
  |exact Uf (Uf (m:=Builtin.Tuple.tupleExact _) (Uu (Ux ⟨_,rfl,Ux h⟩) htake))
end
end HT
namespace L2
open PySem PySem.Spec PyProof.Rows
@[inline]abbrev TO:=St->Hp->(Option Int->Hp->Prop)->Prop
def PO(X:Cx)(e:Option Expr)(t:TO):Prop:=
 ∀ (pins:List (Addr × Obj)) (s:Shared) (σ:St) (H:Hp) (Q:Option Int->Hp->Prop),Inv X pins σ H s->t σ H Q ->
  wpAny (model X.prog X.w) X.A (evalPart e X.env) (λu s'=>∃o H',Inv X pins σ H' s'/\IsPart u o/\Q o H') X.xe s
def tO:TO:=λ_ H Q=>Q none H
def Fz(t:TE):TO:=λσ H Q=>t σ H λx H1=>∃i,x = .int i/\Q (some i) H1
section
variable {X:Cx} {e:Expr} {te:TE} {lo hi:Option Expr} {tl th:TO} {pos p2:Pos}
theorem BU:PO X none tO:=by
 intro pins s σ H Q I h;rw[VF];exact Ux ⟨none,H,I,.none,h⟩
theorem tP(h:PE X e te):PO X (some e) (Fz te):=by
 intro pins s σ H Q I hw;rw[evalPart_some];refine thn (h pins s σ H _ I hw) λu s1 ⟨x,H1,I1,r1,q1⟩=>?_;obtain⟨i,rfl,q⟩:=q1;obtain⟨t,rfl⟩:=r1;exact⟨some i,H1,I1,.int i t,q⟩
def SlR(X:Cx)(r:V->Option Int->Option Int->Hp->VK->Prop):Prop:=
 ∀ (pins:List (Addr × Obj)) (s:Shared) (σ:St) (H:Hp) (x:V) (v vl vu:Value) (lo hi:Option Int) (sl:Addr) (Q:VK),Inv X pins σ H s->az x v->s.heap.IsSliceOf sl vl vu .none->IsPart vl lo->IsPart vu hi->r x lo hi H Q ->
  ∃T id,typeLookup (.type T) "__getitem__" = pure (some (.builtin id))/\s.TypeIs v T/\wpAny (model X.prog X.w) X.A (getItem v (.ref sl)) (EP X pins σ Q) X.xe s
theorem SlR.or{r r':V->Option Int->Option Int->Hp->VK->Prop}(h:SlR X r)(h':SlR X r'):SlR X (λx lo hi H Q=>r x lo hi H Q\/r' x lo hi H Q):=by
 intro pins s σ H x v vl vu lo hi sl Q I rx hs pl pu q;rcases q with q |q
 ·exact h pins s σ H x v vl vu lo hi sl Q I rx hs pl pu q
 ·exact h' pins s σ H x v vl vu lo hi sl Q I rx hs pl pu q
def tSl(r:V->Option Int->Option Int->Hp->VK->Prop)(te:TE)(tl th:TO):TE:=λσ H Q=>te σ H λx H1=>tl σ H1 λl H2=>th σ H2 λu H3=>r x l u H3 Q
theorem xO(hr:SlR X r)(he:PE X e te)(hl:PO X lo tl)(hu:PO X hi th):PE X (.Subscript e (.Slice lo hi none p2) pos) (tSl r te tl th):=by
 intro pins s σ H Q I h;refine Subscript_ (thn (he pins s σ H _ I h) λv s1 ⟨x,H1,I1,r1,q1⟩=>?_);refine wpAny_Slice (thn (hl pins s1 σ H1 _ I1 q1) λvl s2 ⟨l,H2,I2,pl,q2⟩=>thn (hu pins s2 σ H2 _ I2 q2) λvu s3 ⟨u,H3,I3,pu,q3⟩=>?_);rw[VF];refine Ux ?_;have I4:Inv X pins σ H3 { s3 with heap:=s3.heap.push { cls:=.type "slice", data:=.fields #[vl,vu,.none] } }:=I3.kept (t':=s3.toks) λb ob q=>Zc _ q;obtain⟨T,id,hT,ht,hg⟩:=hr pins { s3 with heap:=s3.heap.push { cls:=.type "slice", data:=.fields #[vl,vu,.none] } } σ H3 x v vl vu l u s3.heap.objs.size Q I4 r1 (Heap.IsSliceOf.new ..) pl pu q3;show wpAny (model X.prog X.w) X.A (subscriptTail e (.Slice lo hi none p2) v (.ref s3.heap.objs.size)) (EP X pins σ Q) X.xe { s3 with heap:=s3.heap.push { cls:=.type "slice", data:=.fields #[vl,vu,.none] } };exact tail_any (ops:=[.ref s3.heap.objs.size,v]) ht hT hg (by with_unfolding_all rfl)
abbrev jT(xs:List V)(lo hi:Option Int):List V:=(xs.drop (HT.sIx xs.length 0 lo)).take (HT.sIx xs.length xs.length hi - HT.sIx xs.length 0 lo)
theorem iZ(xs:List V)(lo hi:Option Int):(jT xs lo hi).length<=xs.length:=by
 unfold jT;rw[Ys,YT]
 lia
def OG(K:W6):V->Option Int->Option Int->Hp->VK->Prop:=λx lo hi H Q=>∃a xs,x = .ref a/\SqT K H a xs ∧
 ¬ (HT.sIx xs.length 0 lo=0/\HT.sIx xs.length xs.length hi=xs.length)/\∀p,H p=none->Q (.ref p) (upd H p (.tup (jT xs lo hi)))
theorem GY:SlR X (OG X.K):=by
 intro pins s σ H x v vl vu lo hi sl Q I rx hs pl pu h;obtain⟨a,xs,rfl,hx,hw,q⟩:=h;cases rx;obtain⟨its,r,ht,hz⟩:=I.tuple hx;have hlen:its.toArray.size=xs.length:=by rw[Zk];exact r.length.symm
 refine⟨"tuple", _,PyProof.Rows.slot_tuple_getitem.lookup,ht.typeIs,?_⟩;refine HT.gX ht hs pl pu (by rw[hlen];exact hw) ?_ (by rw[hlen];exact hz);rw[hlen];refine⟨.ref s.heap.objs.size,_,I.laid (t':=s.toks) (o:=.tup (jT xs lo hi)) (λb ob q=>Zc _ q) (Zd _) ?_,rfl,q _ (I.hok.fresh (Zd _))⟩;exact⟨ZI (iZ xs lo hi) hz,_,(r.drop (HT.sIx xs.length 0 lo)).take (HT.sIx xs.length xs.length hi - HT.sIx xs.length 0 lo),nq.new _ _⟩
def LX(K:W6):R2:=λx y H Q=>∃a b xs ys,x = .ref a/\y = .ref b/\SqT K H a xs/\SqT K H b ys/\xs ≠ []/\xs.length+ys.length<=sizeLine ∧
 (ys=[]->Q (.ref a) H)/\(ys ≠ []->∀p,H p=none->Q (.ref p) (upd H p (.tup (xs++ys))))
theorem aH.nil_iff(r:aH xs us):us=[] ↔ xs=[]:=by
 cases r with
 |nil=>simp
 |cons _ _=>simp
theorem BV:OpR X (Vr .Add) (LX X.K):=by
 intro pins s σ H x y v u Q I rx ry h;obtain⟨a,b,xs,ys,rfl,rfl,ha,hb,hx,hz,q1,q2⟩:=h;cases rx;cases ry;obtain⟨its,r1,p1,_⟩:=I.tuple ha;obtain⟨its2,r2,p2,_⟩:=I.tuple hb;refine HT.BS p1 p2 (λz=>hx (r1.nil_iff.mp z)) (λz=>⟨.ref a,H,I,rfl,q1 (r2.nil_iff.mp z)⟩) (λz=>?_) (by rw[<-r1.length,<-r2.length];exact hz);refine⟨.ref s.heap.objs.size,_,I.laid (t':=s.toks) (o:=.tup (xs++ys)) (λb ob q=>Zc _ q) (Zd _) ?_,rfl,q2 (λw=>z (r2.nil_iff.mpr w)) _ (I.hok.fresh (Zd _))⟩;exact⟨by rw[Zg];exact hz,_,r1.append r2,nq.new _ _⟩
end
abbrev ixN(n:Nat)(i:Int):Option Nat:=if 0<=i then (if i < n then some i.toNat else none) else if -(n:Int)<=i then some (i+n).toNat else none
abbrev atI{α:Type}(xs:List α)(i:Int):Option α:=(ixN xs.length i).bind λj=>xs[j]?
theorem nv{n:Nat}{i:Int}{j:Nat}(h:ixN n i=some j):seqIndex? i n=some j/\j < n/\-(n:Int)<=i/\i < n:=by
 unfold ixN at h;by_cases h0:0<=i
 ·rw[if_pos h0] at h;by_cases h1:i < n
  ·rw[if_pos h1] at h;have e:i.toNat=j:=Option.some.inj h;exact⟨by rw[V1 h0 h1,e],by lia,by lia,h1⟩
  ·rw[if_neg h1] at h;cases h
 ·rw[if_neg h0] at h;by_cases h1:-(n:Int)<=i
  ·rw[if_pos h1] at h;have e:(i+n).toNat=j:=Option.some.inj h;exact⟨by rw[V0 (by lia) h1,e],by lia,h1,by lia⟩
  ·rw[if_neg h1] at h;cases h
theorem ny{α:Type}{xs:List α}{i:Int}{v:α}(h:atI xs i=some v):∃j,seqIndex? i xs.length=some j/\xs[j]?=some v/\j < xs.length/\-(xs.length:Int)<=i/\i < xs.length:=by
 unfold atI at h;cases e:ixN xs.length i with
 |none=>rw[e] at h;cases h
 |some j=>
  rw[e] at h;obtain⟨h1,h2,h3,h4⟩:=nv e;exact⟨j,h1,h,h2,h3,h4⟩
theorem tQ{α:Type}{xs:List α}{j:Nat}{v:α}(h:xs[j]?=some v):atI xs (j:Int)=some v:=by
 have hj:j < xs.length:=(Zb.mp h).1
 have e:ixN xs.length (j:Int)=some j:=by
  unfold ixN;rw[if_pos (by lia),if_pos (by lia)];simp
 unfold atI;rw[e];exact h
def tR(b:Expr):Prop:=∀o i,subscripted b false o i=operate [o,i] (getItem o i)
def IxR(X:Cx)(r:R2):Prop:=
 ∀ (value slice:Expr) (pins:List (Addr × Obj)) (s:Shared) (σ:St) (H:Hp) (x y:V) (v u:Value) (Q:VK),Inv X pins σ H s->az x v->az y u->r x y H Q ->
  subscripted slice false v u=operate [v,u] (getItem v u)->wpAny (model X.prog X.w) X.A (subscriptTail value slice v u) (EP X pins σ Q) X.xe s
def MtR(X:Cx)(id:String)(r:V->List V->Hp->VK->Prop):Prop:=
 ∀ (pins:List (Addr × Obj)) (s:Shared) (σ:St) (H:Hp) (x:V) (xs:List V) (v:Value) (us:List Value) (Q:VK),Inv X pins σ H s->az x v->aH xs us->r x xs H Q ->
  wpAny (model X.prog X.w) X.A (call (.builtin id) (v::us)) (EP X pins σ Q) X.xe s
section
variable {X:Cx} {a b:Expr} {ta tb:TE} {pos:Pos}
theorem IxR.or{r r':R2}(h:IxR X r)(h':IxR X r'):IxR X (λx y H Q=>r x y H Q\/r' x y H Q):=by
 intro value slice pins s σ H x y v u Q I rx ry q hs;rcases q with q |q
 ·exact h value slice pins s σ H x y v u Q I rx ry q hs
 ·exact h' value slice pins s σ H x y v u Q I rx ry q hs
theorem FA(hr:IxR X r)(ha:PE X a ta)(hb:PE X b tb)(hs:tR b):PE X (.Subscript a b pos) (tOp r ta tb):=by
 intro pins s σ H Q I h;exact Subscript_ (GK ha hb I h λv u s2 x y H2 I2 rx ry q=>hr a b pins s2 σ H2 x y v u Q I2 rx ry q (hs _ _))
def LY(K:W6):R2:=λx y H Q=>∃p xs i v,x = .ref p/\y = .int i/\SqL K H p xs/\atI xs i=some v/\Q v H
def LZ(K:W6):R2:=λx y H Q=>∃p xs i v,x = .ref p/\y = .int i/\SqT K H p xs/\atI xs i=some v/\Q v H
def L0:R2:=λx y H Q=>∃z i c,x = .str z/\y = .int i/\z.length<=sizeLine/\atI z.cps.toList i=some c/\Q (.str ⟨#[c]⟩) H
theorem Oz:IxR X (LY X.K):=by
 intro value slice pins s σ H x y v u Q I rx ry h hs;obtain⟨p,xs,i,z,rfl,rfl,hq,he,q⟩:=h;cases rx;obtain⟨t,rfl⟩:=ry;obtain⟨its,r,pl,hz⟩:=I.list hq;obtain⟨j,h1,h2,h3,h4,h5⟩:=ny he;obtain⟨w,ew,rw'⟩:=r.get h2;have hl:=r.length;have hn:=iu;have fin:EP X pins σ Q w s:=⟨z,H,I,rw',q⟩;by_cases h0:0<=i
 ·have hj:i.toNat=j:=by
   rw[V1 h0 h5] at h1;exact Option.some.inj h1
  exact item_listR pl.isList h0 (by lia) (by rw[hj];simpa using ew) fin hs
 ·have hj:(i+(its.toArray.size:Int)).toNat=j:=by
   rw[V0 (by lia) h4] at h1;rw[Zk,<-hl];exact Option.some.inj h1
  exact subscriptTail_builtinR (x:=w) pl.isList.typeIs slot_list_getitem.lookup
   (wpAny_getItem_list_neg (Q:=λr s'=>r=w/\EP X pins σ Q r s') pl.isList (by lia) (by rw[Zk] <;> lia) (by lia) (by rw[hj];simpa using ew) ⟨rfl,fin⟩) hs
theorem xP:IxR X (LZ X.K):=by
 intro value slice pins s σ H x y v u Q I rx ry h hs;obtain⟨p,xs,i,z,rfl,rfl,hq,he,q⟩:=h;cases rx;obtain⟨t,rfl⟩:=ry;obtain⟨its,r,pl,hz⟩:=I.tuple hq;obtain⟨j,h1,h2,h3,h4,h5⟩:=ny he;obtain⟨w,ew,rw'⟩:=r.get h2;have hl:=r.length;have hn:=iu;have fin:EP X pins σ Q w s:=⟨z,H,I,rw',q⟩
 exact subscriptTail_builtinR (x:=w) pl.typeIs slot_tuple_getitem.lookup
  (getItem_tuple (j:=j) (Q:=λr s'=>r=w/\EP X pins σ Q r s') pl (by lia) (by lia) (by rw[Zk,<-hl];exact h1) (by simpa using ew) ⟨rfl,fin⟩) hs
theorem GZ:IxR X L0:=by
 intro value slice pins s σ H x y v u Q I rx ry h hs;obtain⟨z,i,c,rfl,rfl,hz,he,q⟩:=h;obtain⟨t,rfl⟩:=rx;obtain⟨t',rfl⟩:=ry;obtain⟨j,h1,h2,h3,h4,h5⟩:=ny he;have hl:z.cps.toList.length=z.length:=by simp[Str.length]
 rw[hl] at h1 h4 h5;have hn:=iu
 exact tail_any (typeIs_str s z t) slot_str_getitem.lookup (getItem_str (c:=c) (by
  have e1:decide (i < -(2 ^ 63:Int))=false:=decide_eq_false (by lia);have e2:decide (i ≥ 2 ^ 63)=false:=decide_eq_false (by lia);rw[e1,e2,Wa]) (by rw[h1];simpa using h2) ⟨.str ⟨#[c]⟩,H,I.tok _,⟨_,rfl⟩,q⟩) hs
def rIx(K:W6):R2:=λx y H Q=>LY K x y H Q\/LZ K x y H Q\/L0 x y H Q
theorem xQ:IxR X (rIx X.K):=Oz.or (xP.or GZ)
theorem rD(its:List Value)(n j:Nat)(u:Value):Obj.mapSeq (·.setIfInBounds j u) { cls:=.type "list", data:=.seq its.toArray n }={ cls:=.type "list", data:=.seq (its.set j u).toArray n }:=by
 simp[Obj.mapSeq]
theorem Inv.lst{pins:List (Addr × Obj)}{σ:St}{H:Hp}{s:Shared}{p:Addr}{xs:List V}(I:Inv X pins σ H s)(h:H p=some (.lst xs)) :
  ∃ (its:List Value) (n:Nat),aH xs its/\s.heap.get? p=some { cls:=.type "list", data:=.seq its.toArray n }/\xs.length<=sizeLine:=by
 obtain⟨z,its,n,r,e⟩:=I.hok p _ h;exact⟨its,n,r,e,z⟩
theorem Inv.lstUpd{pins:List (Addr × Obj)}{σ:St}{H:Hp}{s:Shared}{p:Addr}{xs ys:List V}{its its':List Value}{n n':Nat}{f:Obj->Obj}(I:Inv X pins σ H s)(h:H p=some (.lst xs))
  (ho:s.heap.get? p=some { cls:=.type "list", data:=.seq its.toArray n }) (hf:f { cls:=.type "list", data:=.seq its.toArray n }={ cls:=.type "list", data:=.seq its'.toArray n' }) (r:aH ys its') (hz:ys.length<=sizeLine) (t:Nat) :
  Inv X pins σ (upd H p (.lst ys)) { s with heap:=s.heap.update p f,toks:=t }:=by
 have e:(s.heap.update p f).get? p=some { cls:=.type "list", data:=.seq its'.toArray n' }:=by
  rw[Yc f ho (by rw[hf] <;> rfl),hf]
 refine I.write (x:=p) (e:=p) (by rw[h];trivial) (.inl rfl) (λb u hb q=>(ZH _ _ (Ne.symm hb)).trans q) ⟨_,e⟩ ?_;exact⟨hz,its',n',r,e⟩
def L1:V->V->V->Hp->(Hp->Prop)->Prop:=λo i v H Q=>∃p xs k j,o = .ref p/\i = .int k/\H p=some (.lst xs)/\ixN xs.length k=some j/\Q (upd H p (.lst (xs.set j v)))
theorem xR:GC X L1:=by
 intro pins s σ H o i v ov iv u Q I ro ri rv h;obtain⟨p,xs,k,j,rfl,rfl,hp,hj,q⟩:=h;cases ro;obtain⟨t,rfl⟩:=ri;obtain⟨its,n,r,ho,hz⟩:=I.lst hp;obtain⟨h1,h2,h3,h4⟩:=nv hj;have hl:=r.length;have hn:=iu
 have I':Inv X pins σ (upd H p (.lst (xs.set j v))) { s with heap:=s.heap.update p (Obj.mapSeq (·.setIfInBounds j u)) }:=
  I.lstUpd hp ho (rD its n j u) (r.set rv j) (by rw[ZX];exact hz) s.toks
 by_cases h0:0<=k
 ·have hk:k.toNat=j:=by
   rw[V1 h0 h4] at h1;exact Option.some.inj h1
  exact PySem.W.ki_setAt ho h0 (by lia) (by rw[Zk,<-hl];exact h4) (by rw[hk];exact⟨_,I',q⟩)
 ·have hk:(k+(its.toArray.size:Int)).toNat=j:=by
   rw[V0 (by lia) h3] at h1;rw[Zk,<-hl];exact Option.some.inj h1
  exact PySem.W.ki_setBack ho (by lia) (by rw[Zk,<-hl];exact h3) (by lia) (by rw[hk];exact⟨_,I',q⟩)
theorem nA(lo hi:Option Int)(n:Nat):(V5 lo hi none n).1=((HT.sIx n 0 lo:Nat):Int)/\(V5 lo hi none n).2.1=((HT.sIx n n hi:Nat):Int)/\(V5 lo hi none n).2.2=1:=by
 refine⟨?_,?_,rfl⟩
 ·cases lo with
  |none=>simp[V5,HT.sIx]
  |some i=>
   simp only[V5,HT.sIx,XM,show(1:Int) > 0 by decide,if_true];by_cases h:i < 0
   ·simp only[h,if_true] <;> lia
   ·simp only[h,if_false] <;> lia
 ·cases hi with
  |none=>simp[V5,HT.sIx]
  |some i=>
   simp only[V5,HT.sIx,XM,show(1:Int) > 0 by decide,if_true];by_cases h:i < 0
   ·simp only[h,if_true] <;> lia
   ·simp only[h,if_false] <;> lia
theorem lJ(its:List Value)(lo hi:Option Int):slicePick its.toArray lo hi none=((its.drop (HT.sIx its.length 0 lo)).take (HT.sIx its.length its.length hi - HT.sIx its.length 0 lo)).toArray:=by
 obtain⟨h1,h2,h3⟩:=nA lo hi its.toArray.size;unfold slicePick;rw[h1,h2,h3];simp only[sliceRange_one,pick_run,Zk] <;> rfl
def OH(K:W6):V->Option Int->Option Int->Hp->VK->Prop:=λx lo hi H Q=>∃a xs,x = .ref a/\SqL K H a xs/\∀p,H p=none->Q (.ref p) (upd H p (.lst (jT xs lo hi)))
theorem BW:SlR X (OH X.K):=by
 intro pins s σ H x v vl vu lo hi sl Q I rx hs pl pu h;obtain⟨a,xs,rfl,hx,q⟩:=h;cases rx;obtain⟨its,r,ht,hz⟩:=I.list hx;have hlen:=r.length;refine⟨"list", _,slot_list_getitem.lookup,ht.isList.typeIs,?_⟩;refine Uo ht.isList hs pl pu .none (by simp) ?_ (by rw[Zk] <;> lia);rw[lJ,<-hlen];refine⟨.ref s.heap.objs.size,_,I.laid (t':=s.toks) (o:=.lst (jT xs lo hi)) (λb ob q=>Zc _ q) (Zd _) ?_,rfl,q _ (I.hok.fresh (Zd _))⟩;exact⟨ZI (iZ xs lo hi) hz,_,0,(r.drop (HT.sIx xs.length 0 lo)).take (HT.sIx xs.length xs.length hi - HT.sIx xs.length 0 lo),Zx _ rfl⟩
abbrev dk:V->Bool
 |.non=>true
 |.bl _=>true
 |.int _=>true
 |.str _=>true
 |_=>false
abbrev eqV:V->V->Bool
 |.non,.non=>true
 |.bl a,.bl b=>a == b
 |.bl a,.int b=>(if a then 1 else 0) == b
 |.int a,.bl b=>a == (if b then 1 else 0)
 |.int a,.int b=>a == b
 |.str a,.str b=>a == b
 |_,_=>false
theorem G0(ry:az y u)(rx:az x v)(fy:dk y=true)(fx:dk x=true):WY A s u v (eqV y x):=by
 cases y with
 |non=>
  cases ry;cases x with
  |non=>cases rx;exact SeqAt.EqAt.same _
  |bl b=>cases rx;exact SeqAt.EqAt.none_bool b
  |int b=>obtain⟨t,rfl⟩:=rx;exact SeqAt.EqAt.none_int b t
  |str b=>obtain⟨t,rfl⟩:=rx;exact SeqAt.EqAt.none_str b t
  |_=>exact absurd (show false=true from fx) Ze
 |bl a=>
  cases ry;cases x with
  |non=>cases rx;exact SeqAt.EqAt.bool_none a
  |bl b=>cases rx;exact SeqAt.EqAt.bool_bool a b
  |int b=>obtain⟨t,rfl⟩:=rx;exact SeqAt.EqAt.bool_int a b t
  |str b=>obtain⟨t,rfl⟩:=rx;exact SeqAt.EqAt.bool_str a b t
  |_=>exact absurd (show false=true from fx) Ze
 |int a=>
  obtain⟨t',rfl⟩:=ry;cases x with
  |non=>cases rx;exact SeqAt.EqAt.int_none a t'
  |bl b=>cases rx;exact SeqAt.EqAt.int_bool a t' b
  |int b=>obtain⟨t,rfl⟩:=rx;exact SeqAt.EqAt.int_int a t' b t
  |str b=>obtain⟨t,rfl⟩:=rx;exact SeqAt.EqAt.int_str a t' b t
  |_=>exact absurd (show false=true from fx) Ze
 |str a=>
  obtain⟨t',rfl⟩:=ry;cases x with
  |non=>cases rx;exact SeqAt.EqAt.str_none a t'
  |bl b=>cases rx;exact SeqAt.EqAt.str_bool a t' b
  |int b=>obtain⟨t,rfl⟩:=rx;exact SeqAt.EqAt.str_int a t' b t
  |str b=>obtain⟨t,rfl⟩:=rx;exact SeqAt.EqAt.str_str a t' b t
  |_=>exact absurd (show false=true from fx) Ze
 |_=>exact absurd (show false=true from fy) Ze
abbrev eqU(x:V)(u:Value):Bool:=match u with
 |.none=>eqV .non x
 |.bool b=>eqV (.bl b) x
 |.int i _=>eqV (.int i) x
 |.str z _=>eqV (.str z) x
 |_=>false
theorem rE(r:az y u)(f:dk y=true):eqU x u=eqV y x:=by
 cases y with
 |non=>cases r;rfl
 |bl b=>cases r;rfl
 |int i=>obtain⟨t,rfl⟩:=r;rfl
 |str z=>obtain⟨t,rfl⟩:=r;rfl
 |_=>exact absurd (show false=true from f) Ze
theorem gY:∀ {xs:List V} {us:List Value},aH xs us->xs.all dk=true->us.any (eqU x)=xs.any λy=>eqV y x
 |_,_,.nil,_=>rfl
 |y::xs,u::us,.cons r t,f=>by
  rw[Yh,bAE] at f;rw[YA,YA,rE r f.1,gY t f.2]
theorem dm(rx:az x v)(fx:dk x=true):∀ {xs:List V} {us:List Value},aH xs us->xs.all dk=true->∀u ∈ us,WY A s u v (eqU x u)
 |_,_,.nil,_=>λu hu=>by cases hu
 |y::xs,u::us,.cons r t,f=>λu' hu=>by
  rw[Yh,bAE] at f;rcases Zn.mp hu with rfl |hu
  ·rw[rE r f.1];exact G0 r rx f.1 fx
  ·exact dm rx fx t f.2 u' hu
abbrev inV(x:V)(xs:List V):Bool:=xs.any λy=>eqV y x
def rIn(K:W6)(neg:Bool):R2:=λx y H Q=>∃p xs,y = .ref p/\(SqL K H p xs\/SqT K H p xs)/\dk x=true/\xs.all dk=true/\Q (.bl (if neg then !inV x xs else inV x xs)) H
theorem vJ:OpR X (VA .In) (rIn X.K false):=by
 intro pins s σ H x y v u Q I rx ry h;obtain⟨p,xs,rfl,hq,fx,fs,q⟩:=h;cases ry;rcases hq with hq |hq
 ·obtain⟨its,r,pl,hz⟩:=I.list hq;refine W1 (eqU x) pl.isList (λw hw=>dm rx fx r fs w (by simpa using hw)) ⟨.bl _,H,I,rfl,?_⟩;rw[show its.toArray.any (eqU x)=its.any (eqU x) by simp,gY r fs];exact q
 ·obtain⟨its,r,pl,hz⟩:=I.tuple hq;refine W2 (eqU x) pl (λw hw=>dm rx fx r fs w (by simpa using hw)) ⟨.bl _,H,I,rfl,?_⟩;rw[show its.toArray.any (eqU x)=its.any (eqU x) by simp,gY r fs];exact q
theorem nB:OpR X (VA .NotIn) (rIn X.K true):=by
 intro pins s σ H x y v u Q I rx ry h;obtain⟨p,xs,rfl,hq,fx,fs,q⟩:=h;cases ry;rcases hq with hq |hq
 ·obtain⟨its,r,pl,hz⟩:=I.list hq;refine W3 (eqU x) pl.isList (λw hw=>dm rx fx r fs w (by simpa using hw)) ⟨.bl _,H,I,rfl,?_⟩;rw[show its.toArray.any (eqU x)=its.any (eqU x) by simp,gY r fs];exact q
 ·obtain⟨its,r,pl,hz⟩:=I.tuple hq;refine W4 (eqU x) pl (λw hw=>dm rx fx r fs w (by simpa using hw)) ⟨.bl _,H,I,rfl,?_⟩;rw[show its.toArray.any (eqU x)=its.any (eqU x) by simp,gY r fs];exact q
theorem nD:aR X (.builtin "len") (λxs H Q=>∃p ys,xs=[.ref p]/\(SqL X.K H p ys\/SqT X.K H p ys)/\Q (.int ys.length) H):=by
 intro pins s σ H xs us Q I r h;obtain⟨p,ys,rfl,hq,q⟩:=h;obtain⟨u,rfl,rx⟩:=ce r;cases rx;have hn:=iu;rcases hq with hq |hq
 ·obtain⟨its,r',pl,hz⟩:=I.list hq;have hlen:=r'.length;exact Calls.call_len_list pl.isList (by simp only[Zk] <;> lia) ⟨.int ys.length,H,I.tok _,⟨s.toks+1,by rw[Zk,hlen]⟩,q⟩
 ·obtain⟨its,r',pl,hz⟩:=I.tuple hq;have hlen:=r'.length;exact len_tuple pl (by simp only[Zk] <;> lia) ⟨.int ys.length,H,I.tok _,⟨s.toks+1,by rw[Zk,hlen]⟩,q⟩
theorem lK:aR X (.type "tuple") (λxs H Q=>∃p ys,xs=[.ref p]/\((SqL X.K H p ys/\∀l,H l=none->Q (.ref l) (upd H l (.tup ys)))\/(SqT X.K H p ys/\Q (.ref p) H))):=by
 intro pins s σ H xs us Q I r h;obtain⟨p,ys,rfl,h⟩:=h;obtain⟨u,rfl,rx⟩:=ce r;cases rx;rcases h with ⟨hq,q⟩ |⟨hq,q⟩
 ·obtain⟨its,r',pl,hz⟩:=I.list hq;have hlen:=r'.length;refine call_tuple_list pl.isList (λh' kp=>?_) (by simp only[Zk] <;> lia);have I1:Inv X pins σ H { s with heap:=h' }:=I.kept (t':=s.toks) kp
  have I2:Inv X pins σ (upd H h'.objs.size (.tup ys)) { s with heap:=h'.push { cls:=.type "tuple", data:=.seq its.toArray } }:=
   I1.laid (t':=s.toks) (λb o e=>Zc _ e) (Zd _) (show bf X.prog X.w _ _ _ (.tup ys) from ⟨hz,its,r',nq.new _ _⟩)
  exact⟨.ref h'.objs.size,_,I2,rfl,q _ (I1.hok.fresh (Zd _))⟩
 ·obtain⟨its,r',pl,hz⟩:=I.tuple hq;exact call_tuple_same pl ⟨.ref p,H,I,rfl,q⟩
def tyV(K:W6)(T:String)(x:V)(H:Hp):Prop:=match x with
 |.str _=>T = "str"
 |.int _=>T = "int"
 |.ref p=>(T = "list"/\∃xs,SqL K H p xs)\/(T = "tuple"/\((∃o,K.lookup p=some o/\o.cls = .type "tuple"/\o.dict=none)\/∃xs,H p=some (.tup xs))) ∨
   (T = "dict"/\((∃kvs,H p=some (.dK kvs))\/∃kvs,H p=some (.dT kvs)))\/(T = "set"/\∃S n,H p=some (.set S n))
 |_=>False
theorem xS(I:Inv X pins σ H s)(r:az x v)(ty:tyV X.K T x H) :
  s.TypeIs v T/\∀a,v = .ref a->∃ob,s.heap.get? a=some ob/\ob.dict=none:=by
 cases x with
 |str z=>
  obtain⟨t,rfl⟩:=r;cases (show T = "str" from ty);exact⟨typeIs_str s z t,λ_ e=>nomatch e⟩
 |int i=>
  obtain⟨t,rfl⟩:=r;cases (show T = "int" from ty);exact⟨typeIs_int s i t,λ_ e=>nomatch e⟩
 |ref p=>
  cases r;rcases ty with ⟨rfl,xs,hq⟩ |⟨rfl,⟨o,hk,hc,hd⟩ |⟨xs,hk⟩⟩ |⟨rfl,hk⟩ |⟨rfl,S,n,hk⟩
  ·obtain⟨its,_,pl,_⟩:=I.list hq;refine⟨pl.isList.typeIs,λa e=>?_⟩;cases e;obtain⟨o,n,e,c,hd,_⟩:=pl;exact⟨o,e,hd⟩
  ·refine⟨⟨o,I.kIn p o hk,hc⟩,λa e=>?_⟩;cases e;exact⟨o,I.kIn _ o hk,hd⟩
  ·obtain⟨_,its,_,o,e,hc,_,_,hd⟩:=I.hok p _ hk;refine⟨⟨o,e,hc⟩,λa e2=>?_⟩;cases e2;exact⟨o,e,hd⟩
  ·have z:∃o,s.heap.get? p=some o/\o.ExactDict:=by
    rcases hk with ⟨kvs,hk⟩ |⟨kvs,hk⟩
    ·obtain⟨_,_,_,_,o,_,_,e,ex,_⟩:=I.hok p _ hk;exact⟨o,e,ex⟩
    ·obtain⟨_,_,_,_,o,_,_,e,ex,_⟩:=I.hok p _ hk;exact⟨o,e,ex⟩
   obtain⟨o,e,ex⟩:=z;refine⟨⟨o,e,ex.1⟩,λa e2=>?_⟩;cases e2;exact⟨o,e,ex.2.1⟩
  ·obtain⟨o,_,_,_,e,ex,_⟩:=I.hok p _ hk;refine⟨⟨o,e,ex.1⟩,λa e2=>?_⟩;cases e2;exact⟨o,e,ex.2.1⟩
 |_=>exact False.elim ty
def L3(K:W6)(T:String)(r:V->List V->Hp->VK->Prop)(to:TE):TE:=λσ H Q=>to σ H λx H1=>tyV K T x H1/\r x [] H1 Q
def tBM(K:W6)(T:String)(r:V->List V->Hp->VK->Prop)(to:TE)(t:TA):TE:=λσ H Q=>to σ H λx H1=>tyV K T x H1/\t σ H1 λxs H2=>r x xs H2 Q
variable {o e:Expr} {es:List Expr} {to:TE} {t:TA} {name:Str} {apos cpos:Pos} {T id:String} {r:V->List V->Hp->VK->Prop}
theorem G1(pa:PlainAttrs T)(slot:Slot T name id)(hty:typeOf (.builtin id)=pure (.type "method_descriptor"))(hm:MtR X id r)(ho:PE X o to)
  (hbase:Vo o name X.env (eval o X.env)=eval o X.env:=by rfl) (hline:(apos.endLine == cpos.line)=true:=by rfl):PE X (.Call (.Attribute o name apos) [] [] cpos) (L3 X.K T r to):=by
 intro pins s σ H Q I h;refine wpAny_Call_method0_late hbase hline (thn (ho pins s σ H _ I h) λv s1 ⟨x,H1,I1,r1,ty,q1⟩=>?_);obtain⟨h1,h2⟩:=xS I1 r1 ty;exact⟨T,id,pa,slot,hty,h1,h2,Ws rfl (PySem.evalArgs_none (hm pins s1 σ H1 x [] v [] Q I1 r1 .nil q1))⟩
theorem xT(pa:PlainAttrs T)(slot:Slot T name id)(hty:typeOf (.builtin id)=pure (.type "method_descriptor"))(hm:MtR X id r)(ho:PE X o to)(ha:PA X (e::es) t)
  (hbase:Vo o name X.env (eval o X.env)=eval o X.env:=by rfl)
  (hfew:((backTo cpos (V6 (e::es) X.env)).all (λx=>!x.1) && (Vp cpos (VL [] X.env)).all (λx=>x.1.isSome)
   && decide ((e::es).length+([]:List Keyword).length+(if ([]:List Keyword).isEmpty then 0 else 1) < 30))=true:=by rfl)
  (hline:(apos.endLine == cpos.line)=true:=by rfl) (hs:V6 (e::es) X.env=(false,eval e X.env)::V6 es X.env:=by rfl) (hplain:(backTo cpos (V6 es X.env)).any (·.1)=false:=by rfl) :
  PE X (.Call (.Attribute o name apos) (e::es) [] cpos) (tBM X.K T r to t):=by
 intro pins s σ H Q I h;refine wpAny_Call_method_late hbase hfew hline rfl (thn (ho pins s σ H _ I h) λv s1 ⟨x,H1,I1,r1,ty,q1⟩=>?_);obtain⟨h1,h2⟩:=xS I1 r1 ty;refine⟨T,id,pa,slot,hty,h1,h2,?_⟩;have hA:=ha cpos pins s1 σ H1 _ I1 q1;rw[hs] at hA ⊢;refine Ws (by show(false || (backTo cpos (V6 es X.env)).any (·.1))=false;rw[hplain] <;> rfl) (Calls.evalArgs_plain ?_);exact thn hA λus s2 ⟨vs,H2,I2,r2,q2⟩=>hm pins s2 σ H2 x vs v us Q I2 r1 r2 q2
end
def MtM(X:Cx)(id:String)(r:V->List V->Hp->VK->Prop):Prop:=
 ∀ (pins:List (Addr × Obj)) (s:Shared) (σ:St) (H:Hp) (x:V) (xs:List V) (v:Value) (us:List Value) (Q:VK),Inv X pins σ H s->az x v->aH xs us->r x xs H Q ->
  wpAny (model X.prog X.w) X.A (call (.builtin id) (v::us)) (EP X pins σ Q) X.xe s
theorem aH.one:∀ {x:V} {us:List Value},aH [x] us->∃u,us=[u]/\az x u
 |_,_,.cons r .nil=>⟨_,rfl,r⟩
theorem aH.zero:∀ {us:List Value},aH [] us->us=[]
 |_,.nil=>rfl
theorem aH.dropLast{xs:List V}{us:List Value}(h:aH xs us):aH xs.dropLast us.dropLast:=by
 induction h with
 |nil=>exact .nil
 |cons r t ih=>
  cases t with
  |nil=>exact .nil
  |cons q t'=>exact .cons r ih
theorem aH.eraseIdx:∀ {xs:List V} {us:List Value} (i:Nat),aH xs us->aH (xs.eraseIdx i) (us.eraseIdx i)
 |_,_,_,.nil=>.nil
 |_,_,0,.cons _ t=>t
 |_,_,i+1,.cons r t=>.cons r (aH.eraseIdx i t)
theorem aH.rep(h:aH xs us):∀k:Nat,aH (Zu k xs).flatten (Zu k us).flatten
 |0=>.nil
 |k+1=>by
  rw[Z8,Z8,Yo,Yo];exact aH.append h (aH.rep h k)
theorem gq{α:Type}(l:List α):l.eraseIdx (l.length - 1)=l.dropLast:=by
 induction l with
 |nil=>rfl
 |cons a r ih=>
  cases r with
  |nil=>rfl
  |cons b r=>
   have e:(a::b::r).length - 1=((b::r).length - 1)+1:=by
    have h1:(a::b::r).length=r.length+2:=rfl;have h2:(b::r).length=r.length+1:=rfl
    lia
   rw[e,Yu,ih]
   all_goals rfl
theorem mj{α:Type}:∀ (l:List α) (i:Nat),(l.eraseIdx i).length<=l.length
 |[],_=>Zd _
 |_::_,0=>Yp _
 |_::r,i+1=>XN (mj r i)
theorem mo(its:List Value):∀ (k:Nat) (acc:List Value),
  X7 (λx1 x2=>x1++x2) acc.toArray (Zu k its.toArray)=(acc++(Zu k its).flatten).toArray
 |0,acc=>by simp
 |k+1,acc=>by
  have e:acc.toArray++its.toArray=(acc++its).toArray:=by simp
  have e2:(acc++its)++(Zu k its).flatten=acc++(Zu (k+1) its).flatten:=by
   rw[Z8,Yo,Z4]
  rw[<-e2,<-mo its k (acc++its),<-e,Z8,Y0]
section
variable {X:Cx} {pins:List (Addr × Obj)} {σ:St} {H:Hp} {s:Shared} {l b:Addr} {xs ys zs:List V}
theorem Inv.lset{its its':List Value}{n:Nat}{f:Array Value->Array Value}{t':Nat}(I:Inv X pins σ H s)(hH:H l=some (.lst xs))
  (e:s.heap.get? l=some { cls:=.type "list", data:=.seq its.toArray n }) (hf:f its.toArray=its'.toArray) (hv:aH ys its') (hz:ys.length<=sizeLine) :
  Inv X pins σ (upd H l (.lst ys)) { s with heap:=s.heap.update l (Obj.mapSeq f),toks:=t' }:=by
 have q:=PySem.IsL.update e f;rw[hf] at q;refine I.write (x:=l) (e:=l) (by rw[hH];exact trivial) (.inl rfl) (λb' u hb hu=>(ZH s.heap (Obj.mapSeq f) (Ne.symm hb)).trans hu) ⟨_,q⟩ ?_;exact⟨hz,its',_,hv,q⟩
theorem Inv.lnew{t':Nat}(I:Inv X pins σ H s)(hv:aH ys its)(hz:ys.length<=sizeLine) :
  Inv X pins σ (upd H s.heap.objs.size (.lst ys)) { s with heap:=s.heap.push { cls:=.type "list", data:=.seq its.toArray },toks:=t' }:=
 I.laid (λ_ _ q=>Zc _ q) (Zd _) ⟨hz,its,0,hv,Zx _ rfl⟩
theorem Inv.fresh(I:Inv X pins σ H s):H s.heap.objs.size=none:=I.hok.fresh (Zd _)
theorem Inv.lstM(I:Inv X pins σ H s)(hH:H l=some (.lst xs)):xs.length<=sizeLine/\∃ (its:List Value) (n:Nat),aH xs its/\xs.length=its.length/\s.heap.get? l=some { cls:=.type "list", data:=.seq its.toArray n }:=by
 obtain⟨z,its,n,r,e⟩:=I.hok l _ hH;exact⟨z,its,n,r,r.length,e⟩
theorem xU{n:Nat}(h:n<=sizeLine):Builtin.List.listTooLong n=false:=by
 unfold Builtin.List.listTooLong;exact decide_eq_false (by lia)
end
section
variable {X:Cx}
def BX:V->List V->Hp->VK->Prop:=λx vs H Q=>∃l xs y,x = .ref l/\vs=[y]/\H l=some (.lst xs)/\xs.length < sizeLine/\Q .non (upd H l (.lst (xs++[y])))
theorem mq:MtM X "list.append" BX:=by
 intro pins s σ H x vs v us Q I rx rv h;obtain⟨l,xs,y,rfl,rfl,hH,hz,q⟩:=h;cases rx;obtain⟨u,rfl,ru⟩:=rv.one;obtain⟨z,its,n,r,hl,e⟩:=I.lstM hH;refine Vw WG ⟨_,e,rfl⟩ F.entry_list_append (F.args_list_append_2 _ _) (PySem.list_append l its.toArray n u (by rw[Zk];lia)) ⟨e,?_⟩;refine⟨.non,_,I.lset (its':=its++[u]) hH e (by simp) (r.append (.cons ru .nil)) ?_,rfl,q⟩;rw[Zg,Zm]
 lia
def OI:V->List V->Hp->VK->Prop:=λx vs H Q=>∃l xs y,x = .ref l/\vs=[]/\H l=some (.lst xs)/\xs[xs.length - 1]?=some y/\Q y (upd H l (.lst xs.dropLast))
theorem G2:MtM X "list.pop" OI:=by
 intro pins s σ H x vs v us Q I rx rv h;obtain⟨l,xs,y,rfl,rfl,hH,hy,q⟩:=h;cases rx;have hus:=rv.zero;subst hus;obtain⟨z,its,n,r,hl,e⟩:=I.lstM hH;obtain⟨u,hu,ru⟩:=r.get hy
 have hy':its.toArray[its.toArray.size - 1]?=some u:=by
  show its.toArray[its.length - 1]?=some u;rw[<-Xn,<-hl];exact hu
 refine Vw WH ⟨_,e,rfl⟩ F.entry_list_pop (F.args_list_pop_1 _) (MeetsSeq.list_pop_last l its.toArray n u hy' (by rw[Zk];lia)) ⟨e,?_⟩;refine⟨y,_,I.lset (its':=its.dropLast) hH e ?_ r.dropLast ?_,ru,q⟩
 ·show its.toArray.eraseIdxIfInBounds (its.toArray.size - 1)=its.dropLast.toArray;rw[Zk,YO,gq]
 ·rw[List.length_dropLast]
  lia
def G3:V->List V->Hp->VK->Prop:=λx vs H Q=>∃l xs i k y,x = .ref l/\vs=[.int i]/\H l=some (.lst xs)/\-(2 ^ 63)<=i/\i < 2 ^ 63/\seqIndex? i xs.length=some k/\xs[k]?=some y/\Q y (upd H l (.lst (xs.eraseIdx k)))
theorem xV:MtM X "list.pop" G3:=by
 intro pins s σ H x vs v us Q I rx rv h;obtain⟨l,xs,i,k,y,rfl,rfl,hH,h1,h2,hk,hy,q⟩:=h;cases rx;obtain⟨u,rfl,ru⟩:=rv.one;obtain⟨t,rfl⟩:=ru;obtain⟨z,its,n,r,hl,e⟩:=I.lstM hH;obtain⟨w,hw,rw'⟩:=r.get hy
 refine Vw WH ⟨_,e,rfl⟩ F.entry_list_pop (F.args_list_pop_2 _ _)
  (MeetsSeq.list_pop_at l its.toArray n i t k w (fitsIndex_both h1 h2) (by rw[Zk,<-hl];exact hk) (by rw[<-Xn];exact hw) (by rw[Zk];lia)) ⟨e,?_⟩
 refine⟨y,_,I.lset (its':=its.eraseIdx k) hH e ?_ (r.eraseIdx k) ?_,rw',q⟩
 ·show its.toArray.eraseIdxIfInBounds k=(its.eraseIdx k).toArray;rw[YO]
 ·have:=mj xs k
  lia
def OJ:R2:=λx y H Q=>∃l b xs zs,x = .ref l/\y = .ref b/\H l=some (.lst xs)/\H b=some (.lst zs)/\xs.length+zs.length<=sizeLine/\∀p,H p=none->Q (.ref p) (upd H p (.lst (xs++zs)))
theorem G4:OpR X (Vr .Add) OJ:=by
 intro pins s σ H x y v u Q I rx ry h;obtain⟨l,b,xs,zs,rfl,rfl,hH,hB,hz,q⟩:=h;cases rx;cases ry;obtain⟨z,its,n,r,hl,e⟩:=I.lstM hH;obtain⟨z2,its2,n2,r2,hl2,e2⟩:=I.lstM hB;refine PySem.P.add_list e e2 ?_ (by rw[Zk,Zk];lia);have ea:its.toArray++its2.toArray=(its++its2).toArray:=by simp
 rw[ea];exact⟨.ref _,_,I.lnew (t':=s.toks) (r.append r2) (by rw[Zg];lia),rfl,q _ I.fresh⟩
def OK:R2:=λx y H Q=>∃l k xs,x = .ref l/\y = .int k/\H l=some (.lst xs)/\-(2 ^ 63)<=k/\k < 2 ^ 63/\xs.length * k.toNat<=sizeLine ∧
 ∀p,H p=none->Q (.ref p) (upd H p (.lst (Zu k.toNat xs).flatten))
theorem BZ{α:Type}(xs:List α)(k:Nat):(Zu k xs).flatten.length=k * xs.length:=by
 induction k with
 |zero=>simp
 |succ k ih=>rw[Z8,Yo,Zg,ih,Y3,Nat.add_comm]
theorem G5:OpR X (Vr .Mult) OK:=by
 intro pins s σ H x y v u Q I rx ry h;obtain⟨l,k,xs,rfl,rfl,hH,h1,h2,hz,q⟩:=h;cases rx;obtain⟨t,rfl⟩:=ry;obtain⟨z,its,n,r,hl,e⟩:=I.lstM hH;have hlen:its.toArray.size * k.toNat<=sizeLine:=by rw[Zk,<-hl];exact hz
 have hcap:¬ its.toArray.size * k.toNat > (2 ^ 63 - 1) / 8:=by
  have:(sizeLine:Nat)<=(2 ^ 63 - 1) / 8:=by decide
  lia
 have hfit:¬ (!Builtin.List.listFitsIndex k)=true:=by
  rw[fitsIndex_both h1 h2];exact Ze
 have hlong:¬ Builtin.List.listTooLong (its.toArray.size * k.toNat)=true:=by
  rw[xU hlen];exact Ze
 have hnew:X7 (λx1 x2=>x1++x2) #[] (Zu (if its.toArray.isEmpty=true then 0 else k.toNat) its.toArray)=(Zu k.toNat its).flatten.toArray:=by
  have f0:∀m:Nat,X7 (λx1 x2=>x1++x2) #[] (Zu m its.toArray)=(Zu m its).flatten.toArray:=λm=>by
   have:=mo its m [];rw[Xk] at this;exact this
  rw[f0];cases its with
  |nil=>simp
  |cons a r'=>rw[if_neg (by simp)]
 refine wpAny_binaryOp_repeat_ref (T := "list") (U := "int") (by decide) ⟨_,e,rfl⟩ (λs'=>typeIs_int s' k t) noFill_list_mul F.fills_int_mul F.slot_int_rmul repeat_list F.slot_int_index.lookup
  (Vw F.slot_int_rmul (typeIs_int s k t) F.entry_int_rmul (F.args_int_rmul_2 _ _) (int___rmul___int_list k t l its.toArray n)
   ⟨e,rfl,⟨_,e,rfl⟩,Vw F.slot_list_mul ⟨_,e,rfl⟩ F.entry_list_mul (F.args_list_mul_2 _ _) (AutoListH.list___mul___list_int_3 l its.toArray n k t hfit hcap hlong) ⟨e,?_⟩⟩)
 rw[hnew];exact⟨.ref _,_,I.lnew (t':=s.toks) (r.rep k.toNat) (by rw[BZ,Nat.mul_comm];exact hz),rfl,q _ I.fresh⟩
end
end L2
namespace Att
open PySem PySem.W PySem.Calls PyProof.Rows
theorem jm:∀ (ns:List Int) (vs:List Value),WellAll P h vs (ns.map WData.int)->IntsAre vs ns:=by
 intro ns
 induction ns with
 |nil=>
  intro vs w;rw[Ye] at w;cases w;exact .nil
 |cons n ns ih=>
  intro vs w;rw[Zz] at w;cases w with
  |cons a b=>
   cases a;exact .cons _ _ (ih _ b)
theorem vK{l:OpenLaw}{n:Nat}(hn:l.most=some n){P:Params}{h:Heap}{args:List WData}{vals:List Value}
  (hpre:l.row.toRowW.claim.pre args=true) (hwl:WellAll P h vals args) :
  ∃a vs ns,vals=[Value.ref a]/\args=[WData.list (ns.map WData.int)]/\h.get? a=some { cls:=.type "list", data:=.seq vs.toArray }/\IntsAre vs ns/\ns.length<=n:=by
 have hsh:WShape.hasAll [] args [.list .int]=true:=(pre_splitW hpre).1;have hc:l.pre.holds [] { args:=args }=true:=(pre_splitW hpre).2;obtain⟨d,r,rfl,h1,h2⟩:=hasAllW_cons hsh;obtain rfl:=hasAllW_nil h2;obtain⟨xs,rfl,h3⟩:=hasW_list h1;obtain⟨ns,rfl⟩:=items_int h3
 have hlen:ns.length<=n:=by
  unfold OpenLaw.pre at hc
  have h4:(WTm.not (.lt (.lit (.int (n:Int))) (.len (.arg 0)))).holds [] { args:=[.list (ns.map .int)] }=true:=by
   have h4:=(holds_andW hc).1;rw[hn] at h4;exact h4
  have h5:=condW_of h4 (w_not (w_lt w_lit (w_len_list (w_arg rfl))));rw[Za] at h5;refine Nat.le_of_not_lt λq=>?_;have q':(n:Int) < ((ns.length:Nat):Int):=by lia
  first
   |(rw[decide_eq_true q'] at h5;exact absurd h5 (by decide))
   |(simp at h5;lia)
 cases hwl with
 |cons w1 w2=>
  cases w2;cases w1 with
  |list ho hall=>exact⟨_,_,ns,rfl,rfl,ho,jm ns _ hall,hlen⟩
theorem vL(l:OpenLaw)(args:List WData):l.row.toRowW.claim.post args (.bool true) args=true:=
 postW_of (r:=l.row.toRowW) (X:=(true == true))
  (show WShape.has [] (.bool true) .bool=true by first |rfl |decide |simp[WShape.has,WShape.arms,WShape.armsAll])
  (show(WTm.eq .res (.lit (.bool true))).value [] { args:=args,res:=some (.bool true),after:=args }=some (.bool (true == true)) from w_eq_bool (w_res rfl) w_lit) rfl
theorem attach_call{l:OpenLaw}{n:Nat}{q:Program}{loose:List Str}{XP:(Str->Option Value)->Heap->Prop}{YP:World->Heap->Prop}{d:DefRec}
  (hn:l.most=some n) (hdf:d.params.defaults=[])
  (call:∀ (w:World) (s₀ s₁:Shared) (mg mb:Str->Option Value) (fa:Addr) (o:Obj) (pm cd doc:Value) (a:Addr) (vs:List Value) (ns:List Int),
   Ground q loose [] XP w s₀ mg mb s₁.heap->YP w s₁.heap ->
   s₁.heap.get? fa=some o->o.data = .func (docDef d.name d.params d.body d.scope pm cd doc)->s₁.heap.CodeRec cd d.name->mg d.name=some (.ref fa) ->
   s₁.heap.get? a=some { cls:=.type "list", data:=.seq vs.toArray }->IntsAre vs ns->ns.length<=n->s₁.gens=#[] ->
   codeAny (model l.prog w) callerA (.call (.ref fa) ⟨[.ref a],[]⟩) (λr s'=>r = .ok (.ret (.bool true))/\OldK s₁.heap s'.heap/\s'.os=s₁.os/\AllBare s'.gens) s₁) :
  WalkO q loose XP YP l.row.toRowW d [] (λf vs=>PySem.call f vs):=by
 intro w s₀ s₁ mg mb G Y fa o pm cd doc dV kV ho hd hcd hD hmg hg args vals as hpre hlay hrd hwl hlo;obtain rfl:dV = .none:=Dflts.none hD hdf;obtain rfl:kV = .none:=Dflts.noKw hD;obtain⟨a,vs,ns,rfl,rfl,hobj,hints,hlen⟩:=vK hn hpre hwl;refine enter_call (Vz (call w s₀ s₁ mg mb fa o pm cd doc a vs ns G Y ho (fd_plain hd) hcd hmg hobj hints hlen hg) λr s' hq=>?_);obtain⟨rfl,h2,h3,h4⟩:=hq;exact⟨.inl ⟨.bool true,.bool true,[],rfl,λ_=>rfl,.bool true,vL l _,λ_=>⟨List.Pairwise.nil,λ_ hm=>(nomatch hm)⟩⟩,h2,h3,h4⟩
end Att
namespace L2
open PySem PySem.Spec PyProof.Rows
theorem iz:∀ {vs:List Value} {ns:List Int},IntsAre vs ns->aH (ns.map V.int) vs
 |_,_,.nil=>.nil
 |_,_,.cons n t h=>.cons ⟨t,rfl⟩ (iz h)
def L4(H:Hp):Prop:=∀b,H b=none\/∃o xs,H b=some (.frz o (.lst xs))
theorem xW{P:Program}{w:World}{K:W6}{mg mb:Str->Option Value}{CX:CXT}{k:Nat}{fa a:Addr}{fd:WN}{x:Str}{sp:Sp}{s₁:Shared}{vs:List Value}{ns:List Int}
  (KX:K.In s₁.heap) (hns:s₁.heap.Ns VN mg) (hb:s₁.heap.Ns Vu mb) (hbb:∀x:Str,x ≠ "__name__"->mb x=Vt x) (hlim:s₁.heap.NoLimit) (hg:s₁.gens=#[])
  (ha:s₁.heap.get? a=some { cls:=.type "list", data:=.seq vs.toArray }) (hi:IntsAre vs ns) (hl:ns.length<=sizeLine) (hr:Room k callerA)
  (F:∀base:Heap,K.In base->base.Ns VN mg->FnOk P w K mg base CX k fa fd [x] sp) (hbind:∀ (s:Shared) (u:Value),BindsTo s fd ⟨[u],[]⟩ [(x,u)])
  (hsp:∀H:Hp,L4 H->SqL K H a (ns.map V.int)->sp [.ref a] H (λv _=>v = .bl true) λ_ _ _=>False)
  (hCX:∀H e s',CX [] H s₁ (λ_ _ _=>False) e s'->False) :
  codeAny (model P w) callerA (.call (.ref fa) ⟨[.ref a],[]⟩) (λr s'=>r = .ok (.ret (.bool true))/\OldK s₁.heap s'.heap/\s'.os=s₁.os/\AllBare s'.gens) s₁:=by
 have rv:=iz hi;have lenV:=hi.length
 have core:∀H:Hp,L4 H->SqL K H a (ns.map V.int)->HOk P w H s₁.heap->(∀b,H b ≠ none->b=a)->(H a ≠ none->K.lookup a=none) ->
   codeAny (model P w) callerA (.call (.ref fa) ⟨[.ref a],[]⟩) (λr s'=>r = .ok (.ret (.bool true))/\OldK s₁.heap s'.heap/\s'.os=s₁.os/\AllBare s'.gens) s₁:=by
  intro H hO hS hok hA hK;have base_of:∀ {b:Addr} {o:Obj},s₁.heap.get? b=some o->H b=none->(nt s₁.heap H).get? b=some o:=λe n=>xl e n
  have noA:∀ {b:Addr} {o:Obj} {es:Array DictEntry} {ep:Nat},s₁.heap.get? b=some o->o.data = .dict es ep->H b=none:=λ{b o es ep} e d=>by
   cases q:H b with
   |none=>rfl
   |some u=>
    have e':b=a:=hA b (by rw[q];simp);subst e';rw[ha] at e;cases e;have d':Data.seq vs.toArray _=Data.dict es ep:=d;cases d'
  have nsK:∀ {b:Addr} {m:Str->Option Value},s₁.heap.Ns b m->(nt s₁.heap H).Ns b m:=λ{b m} ⟨o,es,ep,e,d,r⟩=>⟨o,es,ep,base_of e (noA e d),d,r⟩
  have hKb:K.In (nt s₁.heap H):=λb o e=>base_of (KX b o e) (by
   cases q:H b with
   |none=>rfl
   |some u=>
    have e':b=a:=hA b (by rw[q];simp);subst e';rw[hK (by rw[q];simp)] at e;cases e)
  have hM:Mod K mg (nt s₁.heap H):=⟨hKb,nsK hns,⟨mb,nsK hb,hbb⟩,let ⟨mc,h1,h2⟩:=hlim;⟨mc,nsK h1,h2⟩⟩;have e0:Env0 P w K mg (nt s₁.heap H) callerA [] s₁ H:=⟨rfl,hM,λb o e=>BC e,Nat.le_of_eq (vt _ _),trivial,λb hb=>absurd (show b ∈ ([]:List Addr) from hb) (by simp),hok,.of_eq hg⟩;refine Vz ((F _ hKb (nsK hns)).run callerA [] s₁ H ⟨[.ref a],[]⟩ [.ref a] [.ref a] _ _ hr e0 (hbind s₁ (.ref a)) (.cons rfl .nil) (hsp H hO hS)) λr s' h=>?_;cases r with
  |error e=>exact(hCX H e s' h).elim
  |ok fl=>
   cases fl with
   |next=>exact False.elim h
   |brk=>exact False.elim h
   |cont=>exact False.elim h
   |ret u=>
    obtain⟨v,H',os,bare,un,hok',r',q⟩:=h;have q':v = .bl true:=q;subst q';obtain rfl:u=Value.bool true:=r';refine⟨rfl,OldK.of_keep λb o e=>?_,os,bare⟩;cases q:H b with
    |none=>exact un.keep b o e q (by intro z;exact absurd (show b ∈ ([]:List Addr) from z) (by simp)) (by simp)
    |some u=>
     rcases hO b with z |⟨ob,xs,z⟩
     ·rw[q] at z;cases z
     ·have z2:=un.frzs b ob _ z;obtain⟨e1,_⟩:=hok b _ z;obtain⟨e2,_⟩:=hok' b _ z2;rw[e] at e1;cases e1;exact e2
 cases hk:K.lookup a with
 |some o=>
  have e:=KX a o hk;rw[ha] at e;cases e;refine core (λ_=>none) (λ_=>.inl rfl) (.inr ⟨_,vs.toArray,_,hk,rfl,rfl,rfl,by rw[Zk,lenV];exact hl,by simpa using rv⟩) (λb u z=>by have z':(none:Option HO)=some u:=z;cases z') (λb z=>absurd rfl z) λz=>absurd rfl z
 |none=>
  refine core (λb=>if b=a then some (.frz { cls:=.type "list", data:=.seq vs.toArray } (.lst (ns.map V.int))) else none) (λb=>?_) (.inl (.inr ⟨{ cls:=.type "list", data:=.seq vs.toArray },if_pos rfl⟩)) (λb u z=>?_) (λb z=>?_) λ_=>hk
  ·by_cases hb:b=a
   ·exact .inr ⟨_,_,if_pos hb⟩
   ·exact .inl (if_neg hb)
  ·by_cases hb:b=a
   ·have z':=(if_pos hb).symm.trans z;cases z';subst hb;exact⟨ha,by rw[Za];exact hl,vs,_,rv,ha⟩
   ·have z':=(if_neg hb).symm.trans z;cases z'
  ·by_cases hb:b=a
   ·exact hb
   ·exact absurd (if_neg hb) z
abbrev dE(s:Stmt):Arguments:=match s with
 |.FunctionDef _ a _ _ _ _ _ _ _ _=>a
 |_=>{ posonlyargs:=[],args:=[],vararg:=none,kwonlyargs:=[],kw_defaults:=[],kwarg:=none,defaults:=[] }
abbrev b9(s:Stmt):List Stmt:=match s with
 |.FunctionDef _ _ b _ _ _ _ _ _ _=>b
 |_=>[]
abbrev a8(s:Stmt):Scope:=match s with
 |.FunctionDef _ _ _ _ _ _ sc _ _ _=>sc
 |_=>{ kind:=.function,names:=[],isGenerator:=false,isCoroutine:=false }
@[inline]abbrev CX0:CXT:=λ_ _ _ _ _ _=>False
@[inline]abbrev E0:XK:=λ_ _ _=>False
theorem L5:rp CX0 X E0:=λ_ _ _ _ _ _ _ h=>h.elim
structure Fun(K:W6)(x qual:Str)(st:Stmt)(f:Addr)(fd:WN):Prop where
 ex:∃ (oc:Value) (od:Option Addr) (kV doc pm:Value) (an:Option Addr) (cdv ct:Value) (osl:Array (Option Value)),
  fd=Va x qual (dE st) (b9 st) (a8 st) .none kV doc pm an cdv ct/\K.lookup f=some ⟨oc,od,.func fd,osl⟩/\W8 K cdv qual=true
 kp:Vc K (.ref f)=true
section
variable {P:Program} {w:World} {K:W6} {mg:Str->Option Value} {base:Heap}
theorem Fun.ok{x qual:Str}{st:Stmt}{f:Addr}{fd:WN}{N ps:List Str}{k:Nat}{sp:Sp}(F:Fun K x qual st f fd)(S:FnScope N ps (a8 st))(len:∀vs H Q E,sp vs H Q E->vs.length=ps.length)
  (hbody:∀ (cdv:Value) (A:Around) (outer:List Env) (s:Shared) (H:Hp) (vs:List V) (Q:VK) (E:XK),Room k (A.deeper (envOfC qual (a8 st) s.heap.objs.size f cdv))->sp vs H Q E ->
   ∃t,PSs (rq CX0 P w K mg base N qual (a8 st) f cdv A outer s H E).nox (b9 st) t/\t { nx:=λ_ H'=>Q .non H',rt:=Q } (f8 N vs) H):FnOk P w K mg base CX0 (k+1) f fd ps sp:=by
 obtain⟨oc,od,kV,doc,pm,an,cdv,ct,osl,rfl,lk,hcd⟩:=F.ex;refine LW lk hcd S len λA outer s H vs Q E hr hsp=>?_;obtain⟨t,h,q⟩:=hbody cdv A outer s H vs Q E hr hsp;exact⟨t,h.nox,q⟩
theorem Fun.binds{x qual:Str}{st:Stmt}{f:Addr}{fd:WN}{ps:List Str}(F:Fun K x qual st f fd)
  (h:∀ (kV doc pm:Value) (an:Option Addr) (cdv ct:Value) (us:List Value),us.length=ps.length->bindArgs (Va x qual (dE st) (b9 st) (a8 st) .none kV doc pm an cdv ct) ⟨us,[]⟩=pure (ps.zip us)):ma K fd ps []:=by
 obtain⟨oc,od,kV,doc,pm,an,cdv,ct,osl,rfl,lk,hcd⟩:=F.ex;exact .all (h kV doc pm an cdv ct)
theorem G6{x qual:Str}{st:Stmt}{f:Addr}{oc:Value}{od an:Option Addr}{osl:Array (Option Value)}{kV doc pm cdv ct:Value}(l:K.lookup f=some ⟨oc,od,.func (Va x qual (dE st) (b9 st) (a8 st) .none kV doc pm an cdv ct),osl⟩)
  (c:W8 K cdv qual=true) (k:Vc K (.ref f)=true):Fun K x qual st f (Va x qual (dE st) (b9 st) (a8 st) .none kV doc pm an cdv ct):=⟨⟨oc,od,kV,doc,pm,an,cdv,ct,osl,rfl,l,c⟩,k⟩
end
theorem vM{n:Nat}(h:n<=1000):n < sizeLine:=Nat.lt_of_le_of_lt h (by decide)
abbrev nF(ifs:List Expr)(env:Env):Sem Bool:=
 forIn ifs true λc r=>if r=true then do let ok <-isTrue c env (eval c env);pure (ForInStep.yield ok) else pure (ForInStep.yield r)
theorem B0{d:Nat}
  (hg:gens[d]?=some ⟨tg,iter,ifs,0⟩)
  (h:wpAny M A (pyNext it) (λr s1=>match r with
   |none=>Q (.done .next) s1
   | some v=>wpAny M A (VM tg it v) (λ_ s2=>wpAny M A (assign tg env v) (λ_ s3=>wpAny M A (nF ifs env) (λok s4=>if ok=true then (match gens[d+1]? with
     |none=>wpAny M A (eval elt env) (λx s5=>wpAny M A (call (.builtin "list.append") [acc,x]) (λ_ s6=>Q (.again (.compLoop (.ListComp elt gens scope pos) d it acc env)) s6) E s5) E s4
     | some g'=>g'.is_async=0/\wpAny M A (eval g'.iter env) (λx s5=>wpAny M A (VG g'.iter env x) (λx' s6=>wpAny M A (pyIter x') (λit' s7=>
       wpAny M A (runOwn (.compStart (.ListComp elt gens scope pos) (d+1) it' acc env) env) (λ_ s8=>Q (.again (.compLoop (.ListComp elt gens scope pos) d it acc env)) s8) E s7) E s6) E s5) E s4)
    else Q (.again (.compLoop (.ListComp elt gens scope pos) d it acc env)) s4) E s3) E s2) E s1) E s) :
  wpAny M A (compTurn (.ListComp elt gens scope pos) d it acc env) Q E s:=by
 unfold compTurn;simp only[hg];refine Uf (UJ ?_);show wpAny M A (pyNext it >>= _) Q E s;refine Uf (Ut h (λr s1 h1=>?_) λ_ _ x=>x);cases r with
 |none=>exact Ux h1
 |some v=>
  refine Uf (Ut h1 (λ_ s2 h2=>?_) λ_ _ x=>x);refine Uf (Ut h2 (λ_ s3 h3=>?_) λ_ _ x=>x);refine Uf (Ut h3 (λok s4 h4=>?_) λ_ _ x=>x);cases ok with
  |false=>exact Ux h4
  |true=>
   simp only[if_true] at h4 ⊢;cases hn:gens[d+1]? with
   |none=>
    rw[hn] at h4;refine Uf (Uf (Ut h4 (λx s5 h5=>?_) λ_ _ x=>x));exact Uf (Ut h5 (λ_ s6 h6=>Ux (Ux h6)) λ_ _ x=>x)
   |some g'=>
    rw[hn] at h4;obtain⟨ha,h4⟩:=h4;refine Uf (Ut h4 (λx s5 h5=>Uf (UJ ?_)) λ_ _ x=>x);rw[ha];show wpAny M A (VG g'.iter env x >>= _) Q E s5;refine Uf (Ut h5 (λx' s6 h6=>?_) λ_ _ x=>x);refine Uf (Up (Ut h6 (λit' s7 h7=>?_) λ_ _ x=>x));exact Uf (Ut h7 (λ_ s8 h8=>Ux h8) λ_ _ x=>x)
abbrev bR(cells:List (Str × Addr)):List (Str × WQ)->List (Str × Addr)->List (Str × Addr)
 |[],acc=>acc
 |(n,k)::r,acc=>if k == .free then bR cells r ((n,(cells.lookup n).getD 0)::acc) else bR cells r acc
theorem gr:∀ (names:List (Str × WQ)) (acc:List (Str × Addr)),(∀y ∈ names,y.2 = .free->∃c,env.cells.lookup y.1=some c) ->
  (forIn names acc λ(x:Str × WQ) (cs:List (Str × Addr))=>(match x with |(name,kind)=>if kind == .free then (do let a <-cellOf env name;pure (ForInStep.yield ((name,a)::cs))) else pure (ForInStep.yield cs):Sem (ForInStep (List (Str × Addr)))))
   = (pure (bR env.cells names acc):Sem (List (Str × Addr)))
 |[],acc,_=>by rw[Y8];rfl
 |(n,k)::r,acc,h=>by
  rw[X1];have hr:∀y ∈ r,y.2 = .free->∃c,env.cells.lookup y.1=some c:=λy hy=>h y (Zf _ hy);cases hk:(k == NameKind.free) with
  |true=>
   obtain⟨c,hc⟩:=h (n,k) Zh (by simpa using hk);have e:cellOf env n=pure c:=by unfold cellOf;rw[show env.cells.lookup n=some c from hc]
   simp only[hk,if_true,e,pure_bind];rw[gr r _ hr]
   conv=>rhs;rw[bR]
   simp only[hk,if_true];rw[show env.cells.lookup n=some c from hc];rfl
  |false=>
   simp only[hk,ZN,if_false,pure_bind];rw[gr r _ hr]
   conv=>rhs;rw[bR]
   simp only[hk,ZN,if_false]
theorem tS(h:∀y ∈ scope.names,y.2 = .free->∃c,env.cells.lookup y.1=some c):closureFor scope env=pure (bR env.cells scope.names []):=by
 have e:=gr (env:=env) scope.names [] h;unfold closureFor;refine Eq.trans ?_ e
 first
  |rfl
  |(rw[bind_pure])
  |(simp only[bind_pure])
theorem iA:∀ {names:List (Str × WQ)} {acc:List (Str × Addr)} {x:Str} {c:Addr},(x,c) ∈ bR cells names acc->(x,c) ∈ acc\/((x,NameKind.free) ∈ names/\c=(cells.lookup x).getD 0)
 |[],_,_,_,h=>.inl h
 |(n,k)::r,acc,x,c,h=>by
  unfold bR at h;split at h
  ·rename_i hk;have hk':k = .free:=by simpa using hk
   rcases iA h with e |⟨e,q⟩
   ·rcases Zn.mp e with e |e
    ·cases e;exact .inr ⟨by rw[hk'];exact Zh,rfl⟩
    ·exact .inl e
   ·exact .inr ⟨Zf _ e,q⟩
  ·rcases iA h with e |⟨e,q⟩
   ·exact .inl e
   ·exact .inr ⟨Zf _ e,q⟩
theorem eV:∀ {l:List (Str × Addr)},(∃c,(x,c) ∈ l)->∃c,l.lookup x=some c
 |[],⟨_,h⟩=>nomatch h
 |(n,c)::r,⟨c',h⟩=>by
  rw[Yv];cases hb:x == n with
  |true=>exact⟨c,rfl⟩
  |false=>
   rcases Zn.mp h with e |e
   ·cases e;simp at hb
   ·exact eV ⟨c',e⟩
theorem fK:∀ {names:List (Str × WQ)} {acc:List (Str × Addr)},(x,NameKind.free) ∈ names\/(∃c,(x,c) ∈ acc)->∃c,(x,c) ∈ bR cells names acc
 |[],_,h=>h.elim (λe=>nomatch e) id
 |(n,k)::r,acc,h=>by
  unfold bR;split
  ·rename_i hk;refine fK ?_;rcases h with h |⟨c,h⟩
   ·rcases Zn.mp h with e |e
    ·cases e;exact .inr ⟨_,Zh⟩
    ·exact .inl e
   ·exact .inr ⟨c,Zf _ h⟩
  ·rename_i hk;refine fK ?_;rcases h with h |⟨c,h⟩
   ·rcases Zn.mp h with e |e
    ·cases e;exact absurd rfl hk
    ·exact .inl e
   ·exact .inr ⟨c,h⟩
theorem ca:∀ (names:List (Str × WQ)) (n:Nat) (acc:List (Str × Addr)),Vx n names acc=Vx n names []++acc
 |[],_,_=>rfl
 |(y,k)::r,n,acc=>by
  unfold Vx;split
  ·rw[ca r (n+1) ((y,n)::acc),ca r (n+1) [(y,n)],Z4];rfl
  ·exact ca r n acc
theorem cW:∀ (names:List (Str × WQ)) (n:Nat) (acc:List (Str × Addr)) (x:Str) (c:Addr),(x,c) ∈ Vx n names acc->(x,c) ∈ acc\/(x,NameKind.cell) ∈ names
 |[],_,_,_,_,h=>.inl h
 |(y,k)::r,n,acc,x,c,h=>by
  unfold Vx at h;split at h
  ·rename_i hk;have hk':k = .cell:=by simpa using hk
   rcases cW r _ _ x c h with e |e
   ·rcases Zn.mp e with e |e
    ·cases e;exact .inr (by rw[hk'];exact Zh)
    ·exact .inl e
   ·exact .inr (Zf _ e)
  ·rcases cW r _ _ x c h with e |e
   ·exact .inl e
   ·exact .inr (Zf _ e)
abbrev lP(sc:Scope)(n:Str)(k:WQ):WQ:=if (k == .free && sc.kind == .function && sc.names.lookup n == some .cell) then .cell else k
abbrev eW(scope sc:Scope):Scope:={ scope with names:=scope.names.map λy=>(y.1,lP sc y.1 y.2) }
theorem B1(scope:Scope)(env:Env):relabel scope env=eW scope env.scope:=by
 unfold relabel eW
 congr 1
 refine Y1 λy _=>?_;obtain⟨n,k⟩:=y;unfold lP;dsimp only;show(if (k == NameKind.free && env.scope.kind == ScopeKind.function && List.lookup n env.scope.names == some NameKind.cell)=true then (n,NameKind.cell) else (n,k))=_;split <;> rfl
theorem eX(sc:Scope)(x:Str):∀names:List (Str × WQ),(names.map λy=>(y.1,lP sc y.1 y.2)).lookup x=(names.lookup x).map (lP sc x)
 |[]=>rfl
 |(n,k)::r=>by
  rw[Zz,Yv,Yv];dsimp only;cases hb:x == n with
  |true=>
   have q:x=n:=by simpa using hb
   subst q;rfl
  |false=>exact eX sc x r
abbrev rF(scope:Scope)(C:Addr)(env:Env):Env:=
 { scope:=eW scope env.scope,locals:=C,globals:=env.globals,cells:=Vx (C+1) scope.names (bR env.cells scope.names []),qual:=env.qual,func:=none,code:=env.code,frame:=env.frame,builtins:=env.builtins }
theorem vN
  (h:Q { scope:=scope,locals:=s.heap.objs.size,globals:=env.globals,cells:=Vx (s.heap.objs.size+1) scope.names cl,qual:=env.qual,func:=none,code:=env.code,frame:=env.frame,builtins:=env.builtins }
   { s with heap:=VW (s.heap.push { cls:=.type "dict", data:=.dict #[] }) scope.names }) :
  wpAny M A (VP scope env.globals cl [] env.qual none .none (some env)) Q E s:=by
 simp only[VP,XF,if_true];refine Uf (wpAny_alloc ?_);refine Uf (wpAny_layCells _ (λname kind cells=>by cases hkc:kind == NameKind.cell <;> simp[hkc]) _ _ _ _ ?_);rw[show({ s with heap:=s.heap.push { cls:=.type "dict", data:=.dict #[] } }:Shared).heap.objs.size=s.heap.objs.size+1 from Ym ..];simp only[Y8]
 first
  |exact Uf (Ux (Ux h))
  |exact Ux h
abbrev xX(i:Nat):Str:=⟨#[i]⟩
abbrev cB:List Nat->List Str->List Str
 |[],N=>N
 |i::hs,N=>cB hs (N.set i (xX i))
theorem iB:∀ (hs:List Nat) (N:List Str),(cB hs N).length=N.length
 |[],_=>rfl
 |i::hs,N=>by rw[cB,iB hs,ZX]
theorem mv:∀ (hs:List Nat) (N:List Str) {i:Nat} {x:Str},(cB hs N)[i]?=some x->N[i]?=some x\/∃j ∈ hs,x=xX j
 |[],_,_,_,h=>.inl h
 |k::hs,N,i,x,h=>by
  rw[cB] at h;rcases mv hs (N.set k (xX k)) h with e |⟨j,hj,e⟩
  ·rw[Yq] at e;split at e
   ·split at e
    ·exact .inr ⟨k,Zh,(Option.some.inj e).symm⟩
    ·cases e
   ·exact .inl e
  ·exact .inr ⟨j,Zf _ hj,e⟩
structure CmScope(own:List Str)(hs:List Nat)(N:List Str)(scope sc:Scope):Prop where
 kind:scope.kind = .function
 nd:(cB hs N++own).Nodup
 uniq:(scope.names.map (·.1)).Nodup
 dis:∀x ∈ cB hs N,scope.names.lookup x ≠ some .local/\scope.names.lookup x ≠ some .cell
 fr:∀y ∈ scope.names,y.2 = .free->sc.names.lookup y.1=some .cell\/sc.names.lookup y.1=some .free
 hd:∀i ∈ hs,scope.names.lookup (xX i)=none
theorem cx:∀ {l:List (Str × WQ)} {x:Str} {k:WQ},(l.map (·.1)).Nodup->(x,k) ∈ l->l.lookup x=some k
 |(n,k')::r,x,k,nd,h=>by
  rw[Zz,Yn] at nd;rw[Yv];rcases Zn.mp h with e |e
  ·cases e;simp
  ·have ne:(x == n)=false:=by
    cases hb:x == n with
    |false=>rfl
    |true=>
     have q:x=n:=by simpa using hb
     subst q;exact absurd (ZL.mpr ⟨(x,k),e,rfl⟩) nd.1
   rw[ne];exact cx nd.2 e
abbrev cxC(X:Cx)(own:List Str)(hs:List Nat)(scope:Scope)(C:Addr)(ex:List Addr)(s:Shared)(H:Hp):Cx where
 prog:=X.prog
 w:=X.w
 K:=X.K
 mg:=X.mg
 base:=X.base
 A:=X.A
 N:=cB hs X.N++own
 s₀:=s
 H₀:=H
 env:=rF scope C X.env
 outer:=X.stack
 stack:=X.stack
 ex:=ex
 fn:=λx=>scope.names.lookup x == some .cell
 calm:=X.calm
 pn:=[]
 xe:=λ_ _=>False
section
variable {X:Cx} {pins:List (Addr × Obj)} {σ:St} {H:Hp} {s:Shared} {own:List Str} {hs:List Nat} {scope:Scope} {fp:List Addr}
theorem Inv.compStart(I:Inv X pins σ H s)(S:CmScope own hs X.N scope X.env.scope)(hf:∀b ∈ fp,fU X pins H b)(hfo:∀b ∈ fp,b < s.heap.objs.size) :
  Inv (cxC X own hs scope s.heap.objs.size fp s H) [] (σ++Zu own.length none) H { s with heap:=VW (s.heap.push { cls:=.type "dict", data:=.dict #[] }) scope.names }:=by
 have keep:∀b o,s.heap.get? b=some o->(VW (s.heap.push { cls:=.type "dict", data:=.dict #[] }) scope.names).get? b=some o:=λb o e=>VX _ _ b o (Zc _ e);have ok:=cellsFrom_ok scope.names (s.heap.push { cls:=.type "dict", data:=.dict #[] }) (s.heap.objs.size+1) [] ⟨λ_ _ hm=>(nomatch hm),List.Pairwise.nil⟩ (by rw[Ym];exact Zd _);rw[Ym] at ok;have cells:(rF scope s.heap.objs.size X.env).cells=Vx (s.heap.objs.size+1) scope.names []++bR X.env.cells scope.names []:=ca _ _ _;have hasX:∀x,(x,NameKind.free) ∈ scope.names->∃c,X.env.cells.lookup x=some c:=λx h=>I.ok.has x (S.fr (x,.free) h rfl)
 have old:∀x c,(x,c) ∈ bR X.env.cells scope.names []->X.env.cells.lookup x=some c/\(x,NameKind.free) ∈ scope.names:=λx c h=>by
  rcases iA h with e |⟨e,q⟩
  ·exact nomatch e
  ·obtain⟨c',hc⟩:=hasX x e;rw[hc] at q;exact⟨by rw[hc,q];rfl,e⟩
 have oldlt:∀x c,X.env.cells.lookup x=some c->c < s.heap.objs.size:=λx c h=>let ⟨_,z⟩:=I.cell x c h;z.lt
 have which:∀x c,(rF scope s.heap.objs.size X.env).cells.lookup x=some c->((x,c) ∈ Vx (s.heap.objs.size+1) scope.names [])\/(X.env.cells.lookup x=some c/\(x,NameKind.free) ∈ scope.names):=λx c h=>by
  have m:=VO h;rw[cells] at m;rcases ZO.mp m with e |e
  ·exact .inl e
  ·exact .inr (old x c e)
 have neu:∀x c,(x,c) ∈ Vx (s.heap.objs.size+1) scope.names []->s.heap.objs.size+1<=c:=λx c h=>(ok.empty x c h).2
 have noFs:∀b ∈ fp,b ∉ frs X.stack:=λb hb z=>by
  rcases Zn.mp (I.stkSub b z) with e |e
  ·exact(hf b hb).2.1 e
  ·exact(hf b hb).2.2.1 e
 have xok:(cxC X own hs scope s.heap.objs.size fp s H).Ok:=by
  refine⟨I.ok.mod,S.kind,I.ok.glob,I.ok.blt,Zd _,?_,?_,?_,I.ok.hd,I.ok.frames,.inl rfl,?_,I.bs,ZI I.ok.bsz I.sz,?_,noFs,I.stack,I.stkFree⟩
  ·intro x y c h1 h2;rcases which x c h1 with a |⟨a,_⟩ <;> rcases which y c h2 with b |⟨b,_⟩
   ·exact name_of_addr ok.apart a b
   ·exact absurd (ZB (oldlt y c b) (Y9 (neu x c a))) (ZM _)
   ·exact absurd (ZB (oldlt x c a) (Y9 (neu y c b))) (ZM _)
   ·exact I.ok.inj x y c a b
  ·intro x hx;have hx':(eW scope X.env.scope).names.lookup x=some .cell\/(eW scope X.env.scope).names.lookup x=some .free:=hx;have e:=eX X.env.scope x scope.names
   have key:(x,NameKind.cell) ∈ scope.names\/(x,NameKind.free) ∈ scope.names:=by
    cases hl:scope.names.lookup x with
    |none=>rw[hl] at e;rcases hx' with z |z <;> (rw[show(eW scope X.env.scope).names.lookup x=none from e] at z;cases z)
    |some k=>
     have m:=VO hl;rw[hl] at e;cases k with
     |cell=>exact .inl m
     |free=>exact .inr m
     |_=>rcases hx' with z |z <;> (rw[show(eW scope X.env.scope).names.lookup x=_ from e] at z;simp[lP] at z)
   rcases key with h |h
   ·have q:=W7 scope.names (s.heap.objs.size+1) (bR X.env.cells scope.names []) (x:=x) (.inl (cx S.uniq h));exact Z0.mp q
   ·obtain⟨c,hc⟩:=fK (cells:=X.env.cells) (acc:=[]) (.inl h);have q:∃c,(x,c) ∈ (rF scope s.heap.objs.size X.env).cells:=⟨c,by rw[cells];exact ZG _ hc⟩;exact eV q
  ·intro x c hfn hl
   have hfn':scope.names.lookup x=some .cell:=by
    have z:(scope.names.lookup x == some NameKind.cell)=true:=hfn
    simpa using z
   rcases which x c hl with a |⟨_,b⟩
   ·exact ZI (Yp _) (neu x c a)
   ·rw[cx S.uniq b] at hfn';cases hfn'
  ·intro b hb;refine⟨ZE (hfo b hb),λx c h z=>?_⟩;rcases which x c h with a |⟨a,_⟩
   ·exact absurd (ZB (z ▸ hfo b hb) (Y9 (neu x c a))) (ZM _)
   ·exact(hf b hb).2.2.2.2.1 x c a z
  ·intro b o e hb;rcases (hf b hb).2.2.2.1 with z |z
   ·exact I.ok.noex b o e z
   ·have h1:=Zq e;exact absurd (ZB h1 (ZI I.ok.bsz z)) (ZM _)
 have m0:(VW (s.heap.push { cls:=.type "dict", data:=.dict #[] }) scope.names).Ns s.heap.objs.size (λ_=>none):=(Heap.Ns.new s.heap (.type "dict")).keeps (VX _ _);refine⟨xok,rfl,I.bare,Un.kept keep,⟨_,m0,?_⟩,?_,I.hok.fresh (Zd _),?_,λp hp=>absurd (show p ∈ ([]:List (Addr × Obj)) from hp) (by simp),I.hok.kept keep,?_⟩
 ·intro i x v h1 h2 h3
  have hi:i < σ.length:=by
   by_cases hi:i < σ.length
   ·exact hi
   ·rw[Zo (by lia),Yt] at h2;split at h2 <;> cases h2
  rw[Zt hi] at h2;have hN:i < X.N.length:=by rw[<-I.len];exact hi
  have h1h:(cB hs X.N)[i]?=some x:=by
   have h1:(cB hs X.N++own)[i]?=some x:=h1
   rwa [Zt (by rw[iB];exact hN)] at h1
  have dx:=S.dis x (Zi h1h);have e:=eX X.env.scope x scope.names;have h3':(eW scope X.env.scope).names.lookup x=some .local\/(eW scope X.env.scope).names.lookup x=some .cell\/(eW scope X.env.scope).names.lookup x=some .free:=h3
  have hfree:scope.names.lookup x=some .free:=by
   cases hl:scope.names.lookup x with
   |none=>rw[hl] at e;rcases h3' with z |z |z <;> (rw[show(eW scope X.env.scope).names.lookup x=none from e] at z;cases z)
   |some k=>
    rw[hl] at e dx;cases k with
    |free=>rfl
    |«local»=>exact absurd rfl dx.1
    |cell=>exact absurd rfl dx.2
    |_=>rcases h3' with z |z |z <;> (rw[show(eW scope X.env.scope).names.lookup x=_ from e] at z;simp[lP] at z)
  have h1':X.N[i]?=some x:=by
   rcases mv hs X.N h1h with z |⟨j,hj,z⟩
   ·exact z
   ·rw[z,S.hd j hj] at hfree;cases hfree
  have mfree:=VO hfree;have kX:=S.fr (x,.free) mfree rfl;obtain⟨m,hn,hl⟩:=I.loc;obtain⟨u,r,l⟩:=hl i x v h1' h2 (kX.elim (λz=>.inr (.inl z)) λz=>.inr (.inr z));refine⟨u,r,.inr ⟨?_,?_⟩⟩
  ·have k3:(eW scope X.env.scope).names.lookup x=some (lP X.env.scope x .free):=by rw[hfree] at e;exact e
   have k4:lP X.env.scope x .free = .cell\/lP X.env.scope x .free = .free:=by unfold lP;split <;> simp
   rcases k4 with z |z
   ·exact .inl (by show(eW scope X.env.scope).names.lookup x=_;rw[k3,z])
   ·exact .inr (by show(eW scope X.env.scope).names.lookup x=_;rw[k3,z])
  ·rcases l with ⟨lk,_⟩ |⟨_,c,hc,z⟩
   ·have lk':X.env.scope.names.lookup x=some .local:=lk;rcases kX with q |q <;> (rw[q] at lk';cases lk')
   ·refine⟨c,?_,z.keeps keep⟩;obtain⟨c',hc'⟩:=fK (cells:=X.env.cells) (acc:=[]) (.inl mfree);obtain⟨c2,hl2⟩:=eV (l:=(rF scope s.heap.objs.size X.env).cells) ⟨c',by rw[cells];exact ZG _ hc'⟩;rcases which x c2 hl2 with a |⟨a,_⟩
    ·rcases cW _ _ _ _ _ a with q |q
     ·exact nomatch q
     ·rw[cx S.uniq q] at hfree;cases hfree
    ·rw[hc] at a;cases a;exact hl2
 ·intro x c h;rcases which x c h with a |⟨a,_⟩
  ·exact⟨_,(ok.empty x c a).1⟩
  ·obtain⟨v,z⟩:=I.cell x c a;exact⟨v,z.keeps keep⟩
 ·intro x c h;rcases which x c h with a |⟨a,_⟩
  ·exact I.hok.fresh (ZI (Yp _) (neu x c a))
  ·exact I.freeC x c a
 ·show(σ++Zu own.length none).length=(cB hs X.N++own).length;rw[Zg,Zg,Xm,iB,I.len]
end
def pB(J:It)(g:TG)(tb:TS)(D:Ends)(σ:St)(H:Hp):Prop:=∃W:Nat->Nat->St->Hp->Prop,(∃m,W 0 m σ H)/\∀i m σ H,W i m σ H ->
 (J.stop i H/\D.nx σ H)\/(J.go i H/\∃N:St->Hp->Prop,(∀σ' H',N σ' H'->∃m',m' < m/\W (i+1) m' σ' H')/\∀x H',J.yld i H x H'->g x σ H' λσ2 H2=>tb { D with nx:=N,ct:=N,bk:=D.nx } σ2 H2)
def PTs(Y:Cx)(ifs:List Expr)(t:TT):Prop:=
 ∀ (pins:List (Addr × Obj)) (s:Shared) (σ:St) (H:Hp) (Q:Bool->Hp->Prop),Inv Y pins σ H s->t σ H Q->wpAny (model Y.prog Y.w) Y.A (nF ifs Y.env) (TP Y pins σ Q) Y.xe s
def B2:TT:=λ_ H Q=>Q true H
theorem B3:PTs Y [] B2:=λ_ _ _ H _ I h=>by
 unfold nF;rw[Y8];exact Ux ⟨H,I,h⟩
theorem B4(hc:PT Y c t):PTs Y [c] t:=λpins s σ H Q I h=>by
 unfold nF;rw[X1];simp only[if_true,Y8];refine Uf (Uf (thn (hc pins s σ H Q I h) λb s1 q=>Ux ?_));exact Ux q
def PTl(Y:Cx)(elt:Expr)(gens:List Wt)(scope:Scope)(pos:Pos)(acc:Addr)(d:Nat)(t:TS):Prop:=
 ∀ (pins:List (Addr × Obj)) (s:Shared) (σ:St) (H:Hp) (D:Ends),Inv Y pins σ H s->t D σ H ->
  match gens[d+1]? with
  |none=>wpAny (model Y.prog Y.w) Y.A (eval elt Y.env) (λx s5=>wpAny (model Y.prog Y.w) Y.A (call (.builtin "list.append") [.ref acc,x]) (λ_ s6=>∃σ' H',Inv Y pins σ' H' s6/\D.nx σ' H') (λ_ _=>False) s5) (λ_ _=>False) s
  | some g'=>g'.is_async=0/\wpAny (model Y.prog Y.w) Y.A (eval g'.iter Y.env) (λx s5=>wpAny (model Y.prog Y.w) Y.A (VG g'.iter Y.env x) (λx' s6=>wpAny (model Y.prog Y.w) Y.A (pyIter x') (λit' s7=>
    wpAny (model Y.prog Y.w) Y.A (runOwn (.compStart (.ListComp elt gens scope pos) (d+1) it' (.ref acc) Y.env) Y.env) (λ_ s8=>∃σ' H',Inv Y pins σ' H' s8/\D.nx σ' H') (λ_ _=>False) s7) (λ_ _=>False) s6) (λ_ _=>False) s5) (λ_ _=>False) s
def eJ(ti:TT)(t:TS):TS:=λD σ H=>ti σ H λc H'=>if c=true then t D σ H' else D.nx σ H'
def FB(acc:Addr)(te:TE):TS:=λD σ H=>te σ H λx H1=>∃xs,H1 acc=some (.lst xs)/\xs.length < sizeLine/\D.nx σ (upd H1 acc (.lst (xs++[x])))
section
variable {Y:Cx} {elt:Expr} {gens:List Wt} {scope:Scope} {pos:Pos} {acc:Addr} {d:Nat}
theorem xY(hx:Y.xe=λ_ _=>False)(hn:gens[d+1]?=none)(he:PE Y elt te):PTl Y elt gens scope pos acc d (FB acc te):=by
 intro pins s σ H D I h;rw[hn];have hE:=he pins s σ H _ I h;rw[hx] at hE;refine thn hE λx s5 ⟨v,H5,I5,r5,xs,h1,h2,q⟩=>?_;have z:=mq pins s5 σ H5 (.ref acc) [v] (.ref acc) [x] (λy H'=>y = .non/\D.nx σ H') I5 rfl (.cons r5 .nil) ⟨acc,xs,v,rfl,rfl,h1,h2,rfl,q⟩;rw[hx] at z;exact thn z λy s6 ⟨v6,H6,I6,r6,e6,q6⟩=>⟨σ,H6,I6,q6⟩
theorem jU{A:Around}{R:Result->Shared->Prop}{prog:Program}{w:World}{s:Shared}{tg iter:Expr}{ifs:List Expr}{it acc:Value}{env:Env}(hg:gens[d]?=some ⟨tg,iter,ifs,0⟩)
  (h0:codeAny (model prog w) A (.compLoop (.ListComp elt gens scope pos) d it acc env) R s)
  (h:wpAny (model prog w) A (pyIter it) (λit' s'=>codeAny (model prog w) A (.compLoop (.ListComp elt gens scope pos) d it' acc env) R s') (notedBy (model prog w) A env λx s'=>R (.error x) s') s) :
  codeAny (model prog w) A (.compStart (.ListComp elt gens scope pos) d it acc env) R s:=by
 refine codeAny_of_tree ?_;show wpAny _ _ ((compStart (.ListComp elt gens scope pos) d it acc env).onRaise (λx=>do noteFrame x env;standAt theWindowsPlace)) _ _ s;refine wpAny_notedAt ?_;unfold compStart;have hcl:(clausesOf (.ListComp elt gens scope pos))[d]?=some ⟨tg,iter,ifs,0⟩:=hg;simp only[hcl,Option.elim];show wpAny _ _ (ask >>= _) _ _ s;refine Uf (wpAny_askSetting (wpAny_ite ?_));split
 ·first
   |exact Uf (Ux (Ux (And.intro rfl h0)))
   |exact Ux (And.intro rfl h0)
 ·first
   |exact Uf (UF (Uf (UJ (Uf (Ut h (λit' s' h'=>Ux (And.intro rfl h')) λ_ _ x=>x)))))
   |(refine Uf (UF ?_);show wpAny _ _ (standAt iter.pos >>= _) _ _ s;exact Uf (UJ (Uf (Ut h (λit' s' h'=>Ux (And.intro rfl h')) λ_ _ x=>x))))
theorem mw
  (hx:Y.xe=λ_ _=>False) (hc:Y.calm=true) (hg:gens[d]?=some ⟨tg,iter,ifs,0⟩) (T:Turn Y.prog Y.w Y.K tg J fp it tn) (I2:Inv Y pins σ H s) (st2:tn 0 s.heap) (f2:∀b ∈ fp,fU Y pins H b)
  (hgt:PG Y tg g) (hts:PTs Y ifs ti) (htl:PTl Y elt gens scope pos acc d t) (hW:pB J g (eJ ti t) D σ H) :
  codeAny (model Y.prog Y.w) Y.A (.compLoop (.ListComp elt gens scope pos) d (.ref it) (.ref acc) Y.env) (λr s'=>r = .ok .next/\∃σ' H',Inv Y pins σ' H' s'/\D.nx σ' H') s:=by
 obtain⟨W,⟨m0,w0⟩,turn⟩:=hW;have stat:∀ {H':Hp},(∀b ∈ fp,H' b=none)->∀b ∈ fp,fU Y pins H' b:=λhn b hb=>⟨hn b hb,(f2 b hb).2⟩;refine codeAny_loop rfl (λn s'=>∃i σ' H',Inv Y pins σ' H' s'/\tn i s'.heap/\(∀b ∈ fp,H' b=none)/\W i n σ' H') (λn s3 hI=>?_) m0 ⟨0,σ,H,I2,st2,λb hb=>(f2 b hb).1,w0⟩;obtain⟨i,σ3,H3,I3,st3,fr3,w3⟩:=hI;show wpAny _ _ ((compTurn (.ListComp elt gens scope pos) d (.ref it) (.ref acc) Y.env).onRaise (λx=>do noteFrame x Y.env;theTreesLotGoes x)) _ _ s3;refine wpAny_noted (Ut (E:=λ_ _=>False) ?_ (λ_ _ q=>q) λ_ _ z=>z.elim);refine B0 hg ?_;rcases turn i n σ3 H3 w3 with ⟨stop,qn⟩ |⟨go,N,hN,step⟩
 ·refine thn (T.done Y rfl rfl rfl hc i pins s3 σ3 H3 _ I3 (stat fr3) st3 stop) λr s4 ⟨hr,I4⟩=>?_;subst hr;exact⟨rfl,σ3,H3,I4,qn⟩
 ·refine thn (T.item Y rfl rfl rfl hc i pins s3 σ3 H3 _ I3 (stat fr3) st3 go) λr s4 ⟨u,hr,h4⟩=>?_;subst hr;refine thn h4 λ_ s5 ⟨x,H5,I5,r5,y5,st5,fr5⟩=>?_;have I5':=I5.pinned (stat fr5) (T.obj _ _ st5)
  have again:∀ {σ7:St} {H7:Hp} {s7:Shared},Inv Y (pins++jO fp s5.heap) σ7 H7 s7->N σ7 H7->∃m,m < n/\∃i σ' H',Inv Y pins σ' H' s7/\tn i s7.heap/\(∀b ∈ fp,H' b=none)/\W i m σ' H':=λ{σ7 H7 s7} I7 n7=>by
   obtain⟨m',hm,w7⟩:=hN σ7 H7 n7;refine⟨m',hm,i+1,σ7,H7,I7.unpinned,T.keep _ _ _ st5 λb hb o e=>(I7.pin (b,o) (ZG _ (ZG _ (dD hb e)))).1,λb hb=>?_,w7⟩;obtain⟨o,e,dd⟩:=T.obj _ _ st5 b hb;exact(I7.pin (b,o) (ZG _ (ZG _ (dD hb e)))).2.1
  have hG:=hgt _ s5 σ3 H5 x u _ I5' r5 (step x H5 y5);rw[hx] at hG;refine thn hG λ_ s6 ⟨σ6,H6,I6,q6⟩=>?_;have hT:=hts _ s6 σ6 H6 _ I6 q6;rw[hx] at hT;refine thn hT λok s7 ⟨H7,I7,q7⟩=>?_;cases ok with
  |false=>
   simp only[ZN,if_false] at q7 ⊢;exact⟨by trivial,again I7 q7⟩
  |true=>
   simp only[if_true] at q7 ⊢;have hL:=htl _ s7 σ6 H7 _ I7 q7;cases hn:gens[d+1]? with
   |none=>
    rw[hn] at hL;exact thn hL λx s8 h8=>thn h8 λ_ s9 ⟨σ9,H9,I9,q9⟩=>⟨by trivial,again I9 q9⟩
   |some g'=>
    rw[hn] at hL;obtain⟨ha,hL⟩:=hL;exact⟨ha,thn hL λx s8 h8=>thn h8 λx' s9 h9=>thn h9 λit' s10 h10=>thn h10 λ_ s11 ⟨σ9,H9,I9,q9⟩=>⟨by trivial,again I9 q9⟩⟩
def xZ(wi:TI)(g:TG)(ti:TT)(t:TS):TS:=λD σ H=>wi σ H λJ H1=>pB J g (eJ ti t) D σ H1
theorem B5(hn:gens[d+1]?=some ⟨tg,iter,ifs,0⟩)
  (hi:PI Y tg iter wi) (hgt:PG Y tg g) (hts:PTs Y ifs ti) (htl:PTl Y elt gens scope pos acc (d+1) t) (hx:Y.xe=λ_ _=>False:=by rfl) (hc:Y.calm=true:=by rfl) (hs:∀x,VG iter Y.env x=pure x:=by intro _;rfl) :
  PTl Y elt gens scope pos acc d (xZ wi g ti t):=by
 intro pins s σ H D I h;rw[hn];refine⟨rfl,?_⟩;have hI:=hi pins s σ H _ I h;rw[hx] at hI;refine thn hI λv s5 h5=>Uv (hs v) (thn h5 λitv s6 h6=>?_);obtain⟨it,fp,tn,J,H6,e,I6,T,st6,f6,W⟩:=h6;subst e;have L:=mw (elt:=elt) (gens:=gens) (scope:=scope) (pos:=pos) (acc:=acc) hx hc hn T I6 st6 f6 hgt hts htl W;refine wpAny_runOwn (Vz (jU hn L (T.self _ 0 s6 _ _ st6 L)) λr s8 hr=>?_);obtain⟨rfl,q⟩:=hr;exact q
end
def x5(own:Nat)(wi:TI)(g:TG)(tb:Addr->TS):TE:=λσ H Q=>wi σ H λJ H1=>∀acc,H1 acc=none ->
 pB J g (tb acc) { nx:=λ_ H'=>Q (.ref acc) H',rt:=λ_ _=>False } (σ++Zu own none) (upd H1 acc (.lst []))
section
variable {X:Cx} {elt tg iter:Expr} {ifs:List Expr} {rest:List Wt} {scope:Scope} {pos:Pos} {own:List Str} {hs:List Nat} {wi:TI} {g:TG} {ti:TT} {t:Addr->TS}
theorem jV{pins:List (Addr × Obj)}{σ:St}{Q:VK}{itv:Value}{s2:Shared}{E:Value->Shared->Prop}(hc:X.calm=true)(S:CmScope own hs X.N scope X.env.scope)
  (hgt:∀C ex s H,PG (cxC X own hs scope C ex s H) tg g) (hts:∀C ex s H,PTs (cxC X own hs scope C ex s H) ifs ti)
  (htl:∀C ex s H acc,PTl (cxC X own hs scope C ex s H) elt (⟨tg,iter,ifs,0⟩::rest) scope pos acc 0 (t acc))
  (h2:PIE X pins σ tg (λJ H1=>∀acc,H1 acc=none->pB J g (eJ ti (t acc)) { nx:=λ_ H'=>Q (.ref acc) H',rt:=λ_ _=>False } (σ++Zu own.length none) (upd H1 acc (.lst []))) itv s2)
  {RR:Value->Addr->Result->Shared->Prop} (hRR:∀acc C H' s',Inv X pins σ H' s'->fU X pins H' C->(∃m,s'.heap.Ns C m)->Q (.ref acc) H'->RR (.ref acc) C (.ok .next) s') :
  wpAny (model X.prog X.w) X.A (newList []) (λacc s3=>wpAny (model X.prog X.w) X.A (VP scope X.env.globals (bR X.env.cells scope.names []) [] X.env.qual none .none (some X.env)) (λcenv s4=>
   codeAny (model X.prog X.w) X.A (.compStart (.ListComp elt (⟨tg,iter,ifs,0⟩::rest) scope pos) 0 itv acc { cenv with scope:=relabel scope X.env }) (RR acc cenv.locals) s4) E s3) E s2:=by
 obtain⟨it,fp,tn,J,H2,e,I2,T,st2,f2,R⟩:=h2;subst e;refine Uu ?_;have I3:Inv X pins σ (upd H2 s2.heap.objs.size (.lst [])) { s2 with heap:=s2.heap.push { cls:=.type "list", dict:=none,data:=.seq ([]:List Value).toArray } }:=I2.lnew (its:=[]) (t':=s2.toks) .nil (Xa _);have W:=R s2.heap.objs.size (I2.hok.fresh (Zd _));generalize hs3:({ s2 with heap:=s2.heap.push { cls:=.type "list", dict:=none,data:=.seq ([]:List Value).toArray } }:Shared)=s3 at I3 ⊢;have e3:s3.heap=s2.heap.push { cls:=.type "list", dict:=none,data:=.seq ([]:List Value).toArray }:=by rw[<-hs3]
 have k3:∀b o,s2.heap.get? b=some o->s3.heap.get? b=some o:=λb o e=>by rw[e3];exact Zc _ e
 have st3:tn 0 s3.heap:=T.keep _ _ _ st2 λb _ o e=>k3 b o e;have fne:∀b ∈ fp,b < s2.heap.objs.size:=λb hb=>let ⟨o,e,_⟩:=T.obj _ _ st2 b hb;Zq e;have f3:∀b ∈ fp,fU X pins (upd H2 s2.heap.objs.size (.lst [])) b:=λb hb=>⟨by rw[av (ZE (fne b hb))];exact(f2 b hb).1,(f2 b hb).2⟩;have fo3:∀b ∈ fp,b < s3.heap.objs.size:=λb hb=>let ⟨o,e,_⟩:=T.obj _ _ st3 b hb;Zq e;refine vN ?_;have I4:=I3.compStart S f3 fo3;generalize hH3:upd H2 s2.heap.objs.size (.lst [])=H3 at I3 I4 f3 W
 have eE:({ scope:=relabel scope X.env,locals:=s3.heap.objs.size,globals:=X.env.globals,cells:=Vx (s3.heap.objs.size+1) scope.names (bR X.env.cells scope.names []),qual:=X.env.qual,func:=none,code:=X.env.code,frame:=X.env.frame,builtins:=X.env.builtins }:Env)=rF scope s3.heap.objs.size X.env:=by
  unfold rF;rw[B1]
 generalize hs4:({ s3 with heap:=VW (s3.heap.push { cls:=.type "dict", data:=.dict #[] }) scope.names }:Shared)=s4 at I4 ⊢;have k4:∀b o,s3.heap.get? b=some o->s4.heap.get? b=some o:=λb o e=>by rw[<-hs4];exact VX _ _ b o (Zc _ e)
 have st4:tn 0 s4.heap:=T.keep _ _ _ st3 λb _ o e=>k4 b o e
 have f4:∀b ∈ fp,fU (cxC X own hs scope s3.heap.objs.size fp s3 H3) [] H3 b:=λb hb=>by
  refine⟨(f3 b hb).1,ZE (fo3 b hb),I4.ok.exfs b hb,.inl hb,λx c hl=>(I4.ok.exf b hb).2 x c hl,λp hp=>absurd (show p ∈ ([]:List (Addr × Obj)) from hp) (by simp)⟩
 have L:=mw (Y:=cxC X own hs scope s3.heap.objs.size fp s3 H3) (elt:=elt) (gens:=⟨tg,iter,ifs,0⟩::rest) (d:=0) (scope:=scope) (pos:=pos) (acc:=s2.heap.objs.size) rfl hc rfl T I4 st4 f4 (hgt _ _ _ _) (hts _ _ _ _) (htl _ _ _ _ _) W;have C:=jU (elt:=elt) (gens:=⟨tg,iter,ifs,0⟩::rest) (d:=0) (scope:=scope) (pos:=pos) rfl L (T.self _ 0 s4 _ _ st4 L);show codeAny (model X.prog X.w) X.A (.compStart (.ListComp elt (⟨tg,iter,ifs,0⟩::rest) scope pos) 0 (.ref it) (.ref s2.heap.objs.size) { scope:=relabel scope X.env,locals:=s3.heap.objs.size,globals:=X.env.globals,cells:=Vx (s3.heap.objs.size+1) scope.names (bR X.env.cells scope.names []),qual:=X.env.qual,func:=none,code:=X.env.code,frame:=X.env.frame,builtins:=X.env.builtins }) (RR (.ref s2.heap.objs.size) s3.heap.objs.size) s4;rw[eE];refine Vz C λr s' hr=>?_;obtain⟨rfl,σ',H',I',q⟩:=hr;obtain⟨mC,nC,_⟩:=id I'.loc;have freeC:H' s3.heap.objs.size=none:=I'.free;refine hRR _ _ H' s' ?_ (I3.fpOk (Zd _) freeC) ⟨mC,nC⟩ q;exact I3.call' (ch:=fp) I'.os I'.base I'.hok I'.bare λb hb=>⟨(f3 b hb).2.2.2.1,(f3 b hb).2.1,(f3 b hb).2.2.2.2.1,(f3 b hb).2.2.2.2.2⟩
theorem B6(hc:X.calm=true)(S:CmScope own hs X.N scope X.env.scope)(hi:PI X tg iter wi)
  (hgt:∀C ex s H,PG (cxC X own hs scope C ex s H) tg g) (hts:∀C ex s H,PTs (cxC X own hs scope C ex s H) ifs ti)
  (htl:∀C ex s H acc,PTl (cxC X own hs scope C ex s H) elt (⟨tg,iter,ifs,0⟩::rest) scope pos acc 0 (t acc))
  (hs:∀x,VG iter X.env x=pure x:=by intro _;rfl) :
  PE X (.ListComp elt (⟨tg,iter,ifs,0⟩::rest) scope pos) (x5 own.length wi g λacc=>eJ ti (t acc)):=by
 intro pins s σ H Q I h;rw[eval_ListComp];refine Ui (use:=none) (cl:=bR X.env.cells scope.names []) rfl hs (tS λy hy hk=>I.ok.has y.1 (S.fr y hy hk)) S.kind (λy hy hk=>cx S.uniq (by rw[<-hk];exact hy)) ?_;refine thn (hi pins s σ H _ I h) λv s1 h1=>thn h1 λitv s2 h2=>?_;refine jV hc S hgt hts htl h2 (RR:=λacc C=>compPost (model X.prog X.w) X.A X.xe none (EP X pins σ Q) acc C) λacc C H' s' I' f' m' q=>?_;obtain⟨m,nm⟩:=m';refine⟨m,nm,λh' sb=>⟨.ref acc,H',?_,rfl,q⟩⟩;exact I'.turned (t':=s'.toks) (λb o hb e=>(sb.2 b hb).trans e) f'.1 f'.2.1 f'.2.2.2.1 f'.2.2.2.2.1 f'.2.2.2.2.2
theorem B7{i:Nat}(hc:X.calm=true)(S:CmScope own hs X.N scope X.env.scope)(hN:X.N.Nodup)(hix:X.N[i]?=some x)(hx:X.env.scope.names.lookup x=some .local)(hi:PI X tg iter wi)
  (hgt:∀C ex s H,PG (cxC X own hs scope C ex s H) tg g) (hts:∀C ex s H,PTs (cxC X own hs scope C ex s H) ifs ti)
  (htl:∀C ex s H acc,PTl (cxC X own hs scope C ex s H) elt (⟨tg,iter,ifs,0⟩::rest) scope pos acc 0 (t acc))
  (hsw:V9 (.ListComp elt (⟨tg,iter,ifs,0⟩::rest) scope pos) (some (.Name x pos')) spos.line X.env=pure true:=by rfl)
  (hs:∀x,VG iter X.env x=pure x:=by intro _;rfl) :
  PS X (.Assign [.Name x pos'] (.ListComp elt (⟨tg,iter,ifs,0⟩::rest) scope pos) spos) (xw (x5 own.length wi g λacc=>eJ ti (t acc)) (o9 i)):=by
 intro pins s σ H D I h;rw[exec_Assign_Name_used _ _ _ _ hsw];refine Uf (UJ (Uf ?_));show wpAny _ X.A (do let _ <-comprehension (.ListComp elt (⟨tg,iter,ifs,0⟩::rest) scope pos) scope X.env _ (newList []) false (eval iter X.env) (some (assign (.Name x pos') X.env))) _ _ s
 refine Uf (Ut (Ui (use:=some (assign (.Name x pos') X.env)) (Q:=λ_ s'=>SP X pins D .next s') (cl:=bR X.env.cells scope.names []) rfl hs (tS λy hy hk=>I.ok.has y.1 (S.fr y hy hk)) S.kind (λy hy hk=>cx S.uniq (by rw[<-hk];exact hy))
  ?_) (λ_ s' hq=>Ux (Ux hq)) λ_ _ e=>e)
 refine thn (hi pins s σ H _ I h) λv s1 h1=>thn h1 λitv s2 h2=>?_;refine jV (Q:=λy H'=>o9 i y σ H' D.nx) hc S hgt hts htl h2 (RR:=λacc C=>compPost (model X.prog X.w) X.A X.xe (some (assign (.Name x pos') X.env)) (λ_ s'=>SP X pins D .next s') acc C) λacc C H' s' I' f' m' q=>?_;obtain⟨m,nm⟩:=m';show wpAny _ X.A (assign (.Name x pos') X.env (.ref acc)) _ _ _;refine wpAny_assign_Name (l9 (v:=.ref acc) I' hN hix (.inl hx) rfl (λs'' I'' hch=>?_) (.inr hx));obtain⟨a,sb1,ha⟩:=hch
 have ne:C ≠ a:=by
  rcases ha with e |e
  ·rw[e];exact f'.2.1
  ·exactλz=>f'.2.2.2.2.1 x a e z.symm
 refine⟨m,nm.sameBut sb1 ne,λh' sb=>⟨_,H',?_,q⟩⟩;exact I''.turned (t':=s''.toks) (λb o hb e=>(sb.2 b hb).trans e) f'.1 f'.2.1 f'.2.2.2.1 f'.2.2.2.2.1 f'.2.2.2.2.2
end
end L2
namespace HT
open PySem PyProof.Rows
section
variable {prog:Program} {w:World} {A:Around} {E:Value->Shared->Prop} {s:Shared}
theorem x6{t b:Addr}{ws:List Value}{Q:Value->Shared->Prop}(ht:IsTup s.heap t ([]:List Value).toArray)(hb:IsTup s.heap b ws.toArray)(h:Q (.ref b) s):wpAny (model prog w) A (Vr .Add (.ref t) (.ref b)) Q E s:=by
 obtain⟨⟨cls,dd,data,sl⟩,ho,hc,n,hd⟩:=id ht;obtain⟨⟨cls2,dd2,data2,sl2⟩,ho2,hc2,n2,hd2⟩:=id hb;simp only at hc hd hc2 hd2;subst hc hd hc2 hd2
 exact VB ⟨_,ho,rfl⟩ ⟨_,ho2,rfl⟩ VQ V3 WI Wz (Wu _ _)
   (tuple_addW0 t b _ ws.toArray n n2 dd dd2 sl sl2 (by simp)) ⟨ho,ho2,h⟩
theorem fV{t sl:Addr}{items:Array Value}{vl vu:Value}{lo hi:Option Int}{Q:Value->Shared->Prop}(ht:IsTup s.heap t items)(hs:s.heap.IsSliceOf sl vl vu .none)(pl:IsPart vl lo)(pu:IsPart vu hi)
  (hw:sIx items.size 0 lo=0/\sIx items.size items.size hi=items.size) (h:Q (.ref t) s):wpAny (model prog w) A (getItem (.ref t) (.ref sl)) Q E s:=by
 obtain⟨os,hos,hcs,hds⟩:=id hs;have hTs:s.TypeIs (.ref sl) "slice" := ⟨os,hos,hcs⟩;obtain⟨o,ho,hc,n,hd⟩:=id ht;unfold getItem
 try with_reducible refine Up ?_
 first |refine Uf (Ux ?_) |skip
 refine Uf (UH ht.typeIs (by decide) ?_)
 refine Uf (wpAny_callSpecial?_slot (name:=Str.ofString "__getitem__") ht.typeIs Wq
  (Uh Wq ht.typeIs entry_tuple_getitem ?_ (args_tuple_getitem _ _)))
 show wpAny _ _ (Builtin.Tuple.tupleItemsOf (.ref t) >>= _) _ _ s;refine Uf (tupleItemsOf_ ht ?_);refine Uf (UM hTs ?_);rw[if_pos (by decide)];refine Uf (dj hs pl pu ?_)
 have hyes:((((sIx items.size 0 lo:Nat):Int) == 0 && (1:Int) == 1 && (sIx items.size items.size hi - sIx items.size 0 lo) == items.size)=true):=by
  rw[hw.1,hw.2];simp
 show wpAny _ _ (if (((sIx items.size 0 lo:Nat):Int) == 0 && (1:Int) == 1 && (sIx items.size items.size hi - sIx items.size 0 lo) == items.size)=true then _ else _) _ _ s;rw[if_pos hyes];have hT:s.TypeIs (.ref t) "tuple" := ht.typeIs
 first
  | (refine Uf (m:=Builtin.Tuple.tupleIsExact _) ?_
     unfold Builtin.Tuple.tupleIsExact;refine Uf (UM hT (Ux ?_));rw[if_pos (by decide)];exact Uf (UF (Ux ⟨_,rfl,Ux h⟩)))
end
end HT
namespace L2
open PySem PySem.Spec PyProof.Rows
theorem x8{s:Shared}{h':Heap}{o:Obj}(hk:∀b x,b ∉ [s.heap.objs.size]->(s.heap.push o).get? b=some x->h'.get? b=some x):∀b x,s.heap.get? b=some x->h'.get? b=some x:=
 λb x e=>hk b x (λhm=>by rw[Zy.mp hm] at e;exact ZM _ (Zq e)) (Zc _ e)
section
variable {X:Cx}
def L6(K:W6):R2:=λx y H Q=>∃a b xs ys,x = .ref a/\y = .ref b/\SqT K H a xs/\SqT K H b ys/\xs.length+ys.length<=sizeLine ∧
 (xs=[]->Q (.ref b) H)/\(xs ≠ []->ys=[]->Q (.ref a) H)/\(xs ≠ []->ys ≠ []->∀p,H p=none->Q (.ref p) (upd H p (.tup (xs++ys))))
theorem B8:OpR X (Vr .Add) (L6 X.K):=by
 intro pins s σ H x y v u Q I rx ry h;obtain⟨a,b,xs,ys,rfl,rfl,ha,hb,hz,q0,q1,q2⟩:=h;by_cases hx:xs=[]
 ·subst hx;cases rx;cases ry;obtain⟨its,r1,p1,_⟩:=I.tuple ha;obtain⟨its2,r2,p2,_⟩:=I.tuple hb;cases r1;exact HT.x6 p1 p2 ⟨.ref b,H,I,rfl,q0 rfl⟩
 ·exact BV pins s σ H _ _ v u Q I rx ry ⟨a,b,xs,ys,rfl,rfl,ha,hb,hx,hz,q1 hx,q2 hx⟩
def OL(K:W6):V->Option Int->Option Int->Hp->VK->Prop:=λx lo hi H Q=>∃a xs,x = .ref a/\SqT K H a xs ∧
 ((HT.sIx xs.length 0 lo=0/\HT.sIx xs.length xs.length hi=xs.length)->Q (.ref a) H) ∧
 (¬ (HT.sIx xs.length 0 lo=0/\HT.sIx xs.length xs.length hi=xs.length)->∀p,H p=none->Q (.ref p) (upd H p (.tup (jT xs lo hi))))
theorem B9:SlR X (OL X.K):=by
 intro pins s σ H x v vl vu lo hi sl Q I rx hs pl pu h;obtain⟨a,xs,rfl,hx,q1,q2⟩:=h;by_cases hw:(HT.sIx xs.length 0 lo=0/\HT.sIx xs.length xs.length hi=xs.length)
 ·cases rx;obtain⟨its,r,ht,hz⟩:=I.tuple hx;have hlen:its.toArray.size=xs.length:=by rw[Zk];exact r.length.symm
  refine⟨"tuple", _,PyProof.Rows.slot_tuple_getitem.lookup,ht.typeIs,?_⟩;exact HT.fV ht hs pl pu (by rw[hlen];exact hw) ⟨.ref a,H,I,rfl,q1 hw⟩
 ·exact GY pins s σ H _ v vl vu lo hi sl Q I rx hs pl pu ⟨a,xs,rfl,hx,hw,q2 hw⟩
theorem pC:aR X (.builtin "isinstance") (λxs H Q=>∃x n t b,xs=[x,.ty n]/\TyOf X.K H x t/\Vf X.K t (.type n)=some b/\Q (.bl b) H):=by
 intro pins s σ H xs us Q I r h;obtain⟨x,n,t,b,rfl,ty,e,q⟩:=h;obtain⟨u,w',rfl,rx,ry⟩:=pd r;cases ry;exact vH I rx ty e λtk=>⟨.bl b,H,I.tok tk,rfl,q⟩
theorem jW:∀ {bs:List Bool} {us:List Value},aH (bs.map V.bl) us->us=bs.map Value.bool
 |[],_,.nil=>rfl
 |_::_,_,.cons r t=>by rw[Zz,jW t];cases r;rfl
theorem vO(hc:X.calm=true):aR X (.builtin "all") (λxs H Q=>∃ (l:Addr) (bs:List Bool),xs=[.ref l]/\SqL X.K H l (bs.map V.bl)/\Q (.bl (bs.all id)) H):=by
 intro pins s σ H xs us Q I r h;obtain⟨l,bs,rfl,hl,q⟩:=h;obtain⟨u,rfl,ru⟩:=ce r;cases ru;obtain⟨its,rv,p,hz⟩:=I.list hl;have e:=jW rv;subst e;have hL:=p.isList;have hlt:l < s.heap.objs.size:=by obtain⟨_,e,_⟩:=hL;exact Zq e
 refine call_all_walk (Uz hL ?_)
 refine⟨s.heap.objs.size,[s.heap.objs.size,l],[s.heap.objs.size],_,_,_,λi=>(bs[i]?).getD true,rfl,Walks.list (A:=X.A.in1) (I.ok.hd hc) _ l (ZE hlt) _,
  ⟨⟨_,Zx _ rfl,rfl,rfl⟩,hL.push _⟩,λi v s' Q' E' hP hQ=>?_,λh' tk hk=>?_⟩
 ·have hP':(bs.map Value.bool)[i]?=some v:=by simpa using hP
  rw[Zs] at hP';cases hb:bs[i]? with
  |none=>rw[hb] at hP';cases hP'
  |some b=>
   rw[hb] at hP';have ev:Value.bool b=v:=Option.some.inj hP';subst ev;simp only[hb,ZY] at hQ;exact UK hQ
 ·have e:((Zl (bs.map Value.bool).toArray.size).all λi=>(bs[i]?).getD true)=bs.all id:=by
   rw[Zk,Za,YZ];simp only[Yi,ZV,id];constructor
   ·intro h b hb;obtain⟨i,hi,rfl⟩:=List.mem_iff_getElem.mp hb;have:=h i hi
    rwa [gEG hi,ZY] at this
   ·intro h i hi;rw[gEG hi,ZY];exact h _ (ZQ hi)
  rw[e];exact⟨.bl (bs.all id),H,I.kept (t':=tk) (x8 hk),rfl,q⟩
theorem G7:OpR X (VA .Is) (λx y H Q=>∃b c,x = .bl b/\y = .bl c/\Q (.bl (b == c)) H):=by
 intro pins s σ H x y v u Q I rx ry h;obtain⟨b,c,rfl,rfl,q⟩:=h;cases rx;cases ry;exact is_bool ⟨.bl _,H,I,rfl,q⟩
theorem vP:OpR X (VA .IsNot) (λx y H Q=>∃b c,x = .bl b/\y = .bl c/\Q (.bl (b != c)) H):=by
 intro pins s σ H x y v u Q I rx ry h;obtain⟨b,c,rfl,rfl,q⟩:=h;cases rx;cases ry;exact isnot_bool ⟨.bl _,H,I,rfl,q⟩
theorem jX(hc:X.calm=true):∀ {pins:List (Addr × Obj)} {s:Shared} {σ:St} {H:Hp} {Q:VK} {r:Addr} {n:Nat} {t u v:Tok},Inv X pins σ H s->IsRange s.heap r 0 n 1 t u v->n<=1000->(∀l,H l=none->Q (.ref l) (upd H l (.lst ((Zl n).map λ(i:Nat)=>V.int i)))) ->
  wpAny (model X.prog X.w) X.A (call (.type "list") [.ref r]) (EP X pins σ Q) X.xe s:=by
 intro pins s σ H Q r n t u v I hr hn q;have hsm:Builtin.Range.small 0 n 1=true:=small_one (by lia) (by lia) (by lia) (by lia);refine call_list_range (n:=n) (I.ok.hd hc) hr hsm (by rw[rangeSize_one];split <;> lia) (by lia) λh' tk acc' c' hk hS' hacc=>?_;refine⟨.ref s.heap.objs.size,_,I.laid (t':=tk) (o:=.lst ((Zl n).map λ(i:Nat)=>V.int i)) hk (Zd _) ?_,rfl,q _ (I.hok.fresh (Zd _))⟩;have hsz:acc'.size=n:=hacc.1;refine⟨by rw[Za,ZC];exact Y2 (vM hn),acc'.toList,c',?_,by simpa using hS'⟩
 have go:∀ (m:Nat) (k:Nat) (l:List Value),l.length=m->(∀j x,l[j]?=some x->∃tk,x=Value.int (((k+j:Nat):Nat):Int) tk)->aH ((List.range' k m).map λ(i:Nat)=>V.int i) l:=by
  intro m
  induction m with
  |zero=>intro k l hl _;cases l with |nil=>exact .nil |cons _ _=>cases hl
  |succ m ih=>
   intro k l hl hx;cases l with
   |nil=>cases hl
   |cons x l=>
    rw[List.range'_succ,Zz];obtain⟨t,e⟩:=hx 0 x rfl;refine .cons ⟨t,by simpa using e⟩ (ih (k+1) l (by simpa using hl) λj y hy=>?_);obtain⟨t',e'⟩:=hx (j+1) y (by simpa using hy);exact⟨t',by rw[e',show((k+(j+1):Nat):Int)=((k+1+j:Nat):Int) from by lia]⟩
 rw[List.range_eq_range'];refine go n 0 acc'.toList (by simpa using hsz) λj x hx=>?_;obtain⟨tk',e⟩:=hacc.2 j x (by simpa using hx);exact⟨tk',by rw[e,show(0:Int)+(j:Nat) * 1=((0+j:Nat):Int) from by lia]⟩
end
section
variable {κ:Type} [DecidableEq κ]
abbrev iC(kvs:List (κ × V))(k:κ):Option V:=(kvs.find? λkv=>decide (kv.1=k)).map (·.2)
abbrev jY(kvs:List (κ × V))(k:κ)(v:V):List (κ × V):=
 if (kvs.any λkv=>decide (kv.1=k))=true then kvs.map (λkv=>if kv.1=k then (kv.1,v) else kv) else kvs++[(k,v)]
theorem gZ{p:κ × V}{r:List (κ × V)}{k:κ}(e:p.1=k):iC (p::r) k=some p.2:=by simp[iC,Yz,e]
theorem eY{p:κ × V}{r:List (κ × V)}{k:κ}(e:¬ p.1=k):iC (p::r) k=iC r k:=by simp[iC,Yz,e]
theorem jZ(k:κ):∀kvs:List (κ × V),(kvs.any λkv=>decide (kv.1=k))=(iC kvs k).isSome
 |[]=>rfl
 |p::r=>by
  rw[YA];by_cases e:p.1=k
  ·simp only[gZ e,decide_eq_true e,Bool.true_or,XF]
  ·rw[eY e,decide_eq_false e,Wb];exact jZ k r
theorem i6(kvs:List (κ × V))(k:κ)(v:V):(jY kvs k v).length<=kvs.length+1:=by
 unfold jY;split
 ·rw[Za];omega
 ·rw[Zg,Zr,Z1];omega
theorem rd.isSome_eq(r:rd o u):o.isSome=u.isSome:=by
 cases o with
 |none=>cases u with
  |none=>rfl
  |some _=>exact(show False from r).elim
 |some _=>cases u with
  |none=>exact(show False from r).elim
  |some _=>rfl
theorem KV.val{kvs:List (κ × V)}{vs:List (κ × Value)}(r:KV kvs vs)(k:κ):rd (iC kvs k) (valueAt vs k):=by
 unfold KV at r
 induction r with
 |nil=>exact True.intro
 |@cons p q ps qs h t ih=>
  obtain⟨h1,h2⟩:=h;by_cases e:p.1=k
  ·have e':q.1=k:=h1.symm.trans e;have b:valueAt (q::qs) k=some q.2:=by simp[valueAt,Yz,e']
   rw[gZ e,b];exact h2
  ·have e':¬ q.1=k:=λz=>e (h1.trans z);have b:valueAt (q::qs) k=valueAt qs k:=by simp[valueAt,Yz,e']
   rw[eY e,b];exact ih
theorem KV.any{kvs:List (κ × V)}{vs:List (κ × Value)}(r:KV kvs vs)(k:κ):(kvs.any λkv=>decide (kv.1=k))=vs.any λkv=>decide (kv.1=k):=by
 unfold KV at r
 induction r with
 |nil=>rfl
 |cons h t ih=>rw[YA,YA,ih,h.1]
theorem KV.repl(r:KV kvs vs)(k:κ)(ry:az y u) :
  KV (kvs.map λkv=>if kv.1=k then (kv.1,y) else kv) (vs.map λkv=>if kv.1=k then (kv.1,u) else kv):=by
 unfold KV at r ⊢
 induction r with
 |nil=>exact .nil
 |@cons p q ps qs h t ih=>
  rw[Zz,Zz];refine .cons ?_ ih;obtain⟨h1,h2⟩:=h;by_cases e:p.1=k
  ·rw[if_pos e,if_pos (h1.symm.trans e)];exact⟨h1,ry⟩
  ·rw[if_neg e,if_neg (λz=>e (h1.trans z))];exact⟨h1,h2⟩
theorem KV.put(r:KV kvs vs)(k:κ)(ry:az y u):KV (jY kvs k y) (stored vs k u):=by
 unfold jY stored;rw[r.any k];by_cases e:(vs.any λkv=>decide (kv.1=k))=true
 ·rw[if_pos e,if_pos e];exact r.repl k ry
 ·rw[if_neg e,if_neg e];exact Paired.snoc r ⟨rfl,ry⟩
theorem KV.length(r:KV kvs vs):kvs.length=vs.length:=Paired.length r
end
theorem my(r:az (kV k) u):(aU P w).is k u=true:=by
 cases k with
 |inl i=>obtain⟨t,e⟩:=(show ∃t,u=Value.int i t from r);subst e;exact o3 P w i t
 |inr x=>obtain⟨t,e⟩:=(show ∃t,u=Value.str x t from r);subst e;exact o4 P w x t
theorem mz:∀ {ks:List Key} {us:List Value},aH (ks.map kV) us->ItemsAre (aU P w) ks us
 |[],_,r=>by rw[Ye] at r;cases r;exact .nil
 |k::ks,_,r=>by
  rw[Zz] at r;cases r with
  |cons h t=>exact .cons (my h) (mz t)
@[inline]abbrev KT(H:Hp):List (List NK × V)->List (List NK × Addr × Value)->Prop:=Paired λp q=>p.1=q.1/\nr H p.1 q.2.1/\az p.2 q.2.2
theorem KT.val{H:Hp}{kvs:List (List NK × V)}{xs:List (List NK × Addr × Value)}(r:KT H kvs xs)(k:List NK):rd (iC kvs k) ((atKey xs k).map (·.2)):=by
 induction r with
 |nil=>exact True.intro
 |@cons p q ps qs h t ih=>
  obtain⟨h1,_,h2⟩:=h;by_cases e:p.1=k
  ·have e':q.1=k:=h1.symm.trans e;have b:atKey (q::qs) k=some q.2:=by simp[atKey,Yz,e']
   rw[gZ e,b];exact h2
  ·have e':¬ q.1=k:=λz=>e (h1.trans z);have b:atKey (q::qs) k=atKey qs k:=by simp[atKey,Yz,e']
   rw[eY e,b];exact ih
theorem KT.repl(r:KT H kvs xs)(k:List NK)(ry:az y u) :
  KT H (kvs.map λkv=>if kv.1=k then (kv.1,y) else kv) (xs.map (putAt k u)):=by
 induction r with
 |nil=>exact .nil
 |@cons p q ps qs h t ih=>
  rw[Zz,Zz];refine .cons ?_ ih;obtain⟨h1,h2,h3⟩:=h;unfold putAt;by_cases e:p.1=k
  ·rw[if_pos e,if_pos (h1.symm.trans e)];exact⟨h1,h2,ry⟩
  ·rw[if_neg e,if_neg (λz=>e (h1.trans z))];exact⟨h1,h2,h3⟩
theorem KT.put(r:KT H kvs xs)(k:List NK)(hb:nr H k b)(ry:az y u) :
  KT H (jY kvs k y) (storedH xs k b u):=by
 have e:(kvs.any λkv=>decide (kv.1=k))=(atKey xs k).isSome:=by
  rw[jZ,(r.val k).isSome_eq,Xb]
 unfold jY storedH;rw[e];by_cases q:(atKey xs k).isSome=true
 ·rw[if_pos q,if_pos q];exact r.repl k ry
 ·rw[if_neg q,if_neg q];exact Paired.snoc r ⟨rfl,hb,ry⟩
theorem KT.keeps(r:KT H kvs xs)(ht:∀b ys,H b=some (.tup ys)->H' b=some (.tup ys)):KT H' kvs xs:=
 Paired.mapP r λ_ _ z=>⟨z.1,z.2.1.mono ht,z.2.2⟩
section
variable {P:Program} {w:World} {H:Hp} {h:Heap} {a:Addr}
theorem FC(ok:HOk P w H h)(e:Rd H a u):bf P w H h a u:=e.ok ok
theorem pD(ok:HOk P w H h)(e:Rd H a (.dK kvs)):kvs.length<=sizeLine/\(a == Ub)=false/\∃vs,KV kvs vs/\h.DictOf (aU P w) a vs:=
 show bf P w H h a (.dK kvs) from FC ok e
theorem L7(ok:HOk P w H h)(e:H a=some (.dK kvs)):kvs.length<=sizeLine/\(a == Ub)=false/\∃vs,KV kvs vs/\h.DictOf (aU P w) a vs:=pD ok (.inl e)
theorem x9(ok:HOk P w H h)(e:H a=some (.tup (ks.map kV))):IsTupleKey (aU P w) h ks a:=by
 obtain⟨_,its,r,o,h1,h2,n,h3,_⟩:=(show bf P w H h a (.tup (ks.map kV)) from ok a _ e);exact⟨o,its.toArray,n,h1,h2,h3,by simpa using mz r⟩
theorem dF{ks:List NK}(ok:HOk P w H h)(e:nr H ks a):(eU P w).is h ks a:=by
 obtain⟨xs,ea,rk⟩:=e;obtain⟨_,its,r,o,h1,h2,n,h3,_⟩:=(show bf P w H h a (.tup xs) from ok a _ ea);refine⟨o,its.toArray,n,h1,h2,h3,?_⟩
 have all:∀ {ks:List NK} {xs:List V} {us:List Value},Paired (vq H) ks xs->aH xs us->Paired (NIs P w h) ks us:=by
  intro ks xs us p
  induction p generalizing us with
  |nil=>intro q;cases q;exact .nil
  |@cons k x ks xs hk _ ih=>
   intro q;cases q with
   |cons q1 q2=>
    refine .cons ?_ (ih q2);cases k with
    |non=>cases hk;exact q1
    |one k=>cases hk;exact my (P:=P) (w:=w) q1
    |tup ks'=>obtain⟨b,rfl,hb⟩:=hk;cases q1;exact⟨b,rfl,x9 ok hb⟩
 simpa using all rk r
theorem pE(ok:HOk P w H h)(e:Rd H a (.dT kvs)):kvs.length<=sizeLine/\(a == Ub)=false ∧
  ∃xs,KT H kvs xs/\h.DictOfH (eU P w) a xs:=by
 obtain⟨z,y,xs,r,o,es,ep,h1,h2,h3,h4,h5⟩:=(show bf P w H h a (.dT kvs) from FC ok e);refine⟨z,y,xs,r,o,es,ep,h1,h2,h3,h4,λx hx=>?_,h5⟩
 have all:∀ {l:List (List NK × V)} {m:List (List NK × Addr × Value)},KT H l m->∀x ∈ m,(eU P w).is h x.1 x.2.1:=by
  intro l m q
  induction q with
  |nil=>intro x hx;exact nomatch hx
  |@cons p q ps qs hq t ih=>
   intro x hx;rcases Zn.mp hx with e |hx
   ·subst e;exact dF ok (by rw[<-hq.1];exact hq.2.1)
   ·exact ih x hx
 exact all r x hx
theorem L8(ok:HOk P w H h)(e:H a=some (.dT kvs)):kvs.length<=sizeLine/\(a == Ub)=false ∧
  ∃xs,KT H kvs xs/\h.DictOfH (eU P w) a xs:=pE ok (.inl e)
end
def ya(H:Hp)(a:Addr)(y:V)(r:Option V):Prop:=
 (∃kvs k,Rd H a (.dK kvs)/\y=kV k/\r=iC kvs k)\/∃kvs k b,Rd H a (.dT kvs)/\y = .ref b/\nr H k b/\r=iC kvs k
def L9(H:Hp)(a:Addr)(y v:V)(H':Hp):Prop:=
 (∃kvs k,H a=some (.dK kvs)/\y=kV k/\kvs.length < sizeLine/\H'=upd H a (.dK (jY kvs k v))) ∨
 ∃kvs k b,H a=some (.dT kvs)/\y = .ref b/\nr H k b/\kvs.length < sizeLine/\H'=upd H a (.dT (jY kvs k v))
section
variable {X:Cx} {pins:List (Addr × Obj)} {σ:St} {H:Hp} {s:Shared} {a:Addr} {y v:V} {u r:Value} {o:Option V} {A:Around} {E:Value->Shared->Prop}
theorem Inv.big(I:Inv X pins σ H s):Ub < s.heap.objs.size:=by
 have h:VN < s.heap.objs.size:=(I.mod.glob.keeps I.bk).lt;exact Nat.lt_trans (by decide) h
theorem vQ(hu:A.units+2 < cLine)(I:Inv X pins σ H s)(g:ya H a y (some v))(ry:az y u)(h:∀w' s',Inv X pins σ H s'->az v w'->Q w' s') :
  wpAny (model X.prog X.w) A (getItem (.ref a) u) Q E s:=by
 rcases g with ⟨kvs,k,e,ey,l⟩ |⟨kvs,k,b,e,ey,eb,l⟩
 ·subst ey;obtain⟨z,hd,vs,rel,dd⟩:=pD I.hok e;obtain⟨w',hw,rw'⟩:=rd.some_of (v:=v) (o:=valueAt vs k) (by rw[l];exact rel.val k);exact wpAny_getItem_of (my ry) dd.mapOf hw (h w' _ (I.tok _) rw')
 ·subst ey;cases (show u=Value.ref b from ry);obtain⟨z,hd,xs,rel,dd⟩:=pE I.hok e;obtain⟨w',hw,rw'⟩:=rd.some_of (v:=v) (o:=(atKey xs k).map (·.2)) (by rw[l];exact rel.val k);obtain⟨p,hp,hp2⟩:=ZK.mp hw;refine wpAny_getItem_heap (show _+1 < _ from hu) (dF I.hok eb) dd hp ?_;rw[hp2];exact h w' _ (I.tok _) rw'
theorem OM(hu:A.units+2 < cLine)(I:Inv X pins σ H s)(g:ya H a y o)(ry:az y u)(h:∀s',Inv X pins σ H s'->Q (.bool o.isSome) s') :
  wpAny (model X.prog X.w) A (VA .In u (.ref a)) Q E s:=by
 rcases g with ⟨kvs,k,e,ey,l⟩ |⟨kvs,k,b,e,ey,eb,l⟩
 ·subst ey;obtain⟨z,hd,vs,rel,dd⟩:=pD I.hok e;refine wpAny_in_of (my ry) hd dd.mapOf ?_;rw[<-(rel.val k).isSome_eq,<-l];exact h _ (I.tok _)
 ·subst ey;cases (show u=Value.ref b from ry);obtain⟨z,hd,xs,rel,dd⟩:=pE I.hok e;refine wpAny_in_heap (show _+1 < _ from hu) (dF I.hok eb) hd dd ?_;have q:=(rel.val k).isSome_eq;rw[Xb] at q;rw[<-q,<-l];exact h _ (I.tok _)
theorem Ca(hu:A.units+2 < cLine)(I:Inv X pins σ H s)(g:ya H a y o)(ry:az y u)(h:∀s',Inv X pins σ H s'->Q (.bool (!o.isSome)) s') :
  wpAny (model X.prog X.w) A (VA .NotIn u (.ref a)) Q E s:=by
 rcases g with ⟨kvs,k,e,ey,l⟩ |⟨kvs,k,b,e,ey,eb,l⟩
 ·subst ey;obtain⟨z,hd,vs,rel,dd⟩:=pD I.hok e;refine wpAny_notIn_of (my ry) hd dd.mapOf ?_;rw[<-(rel.val k).isSome_eq,<-l];exact h _ (I.tok _)
 ·subst ey;cases (show u=Value.ref b from ry);obtain⟨z,hd,xs,rel,dd⟩:=pE I.hok e;refine wpAny_notIn_heap (show _+1 < _ from hu) (dF I.hok eb) hd dd ?_;have q:=(rel.val k).isSome_eq;rw[Xb] at q;rw[<-q,<-l];exact h _ (I.tok _)
theorem tU{t':Nat}(I:Inv X pins σ H s)(mu:Mut (H a))(hs:Heap.SameBut a s.heap h')(he:∃q,h'.get? a=some q)(new:bf X.prog X.w (upd H a ob) h' a ob) :
  Inv X pins σ (upd H a ob) { s with heap:=h',toks:=t' }:=
 I.write (x:=a) (e:=a) mu (.inl rfl) (λb q hb z=>(hs.2 b hb).trans z) he new
theorem G8(z:kvs.length<=sizeLine)(hd:(a == Ub)=false)(rel:KV kvs vs)(dd:h'.DictOf (aU P w) a vs) :
  bf P w H' h' a (.dK kvs):=⟨z,hd,vs,rel,dd⟩
theorem vR(hu:A.units+2 < cLine)(I:Inv X pins σ H s)(g:L9 H a y v H')(ry:az y u)(rv:az v r)(h:∀s',Inv X pins σ H' s'->Q () s') :
  wpAny (model X.prog X.w) A (setItem (.ref a) u r) Q E s:=by
 rcases g with ⟨kvs,k,e,ey,l,eH⟩ |⟨kvs,k,b,e,ey,eb,l,eH⟩
 ·subst ey eH;obtain⟨z,hd,vs,rel,dd⟩:=L7 I.hok e;have hz:vs.length<=sizeLine:=by rw[<-rel.length];exact z
  have hl:(jY kvs k v).length<=sizeLine:=by have:=i6 kvs k v;omega
  refine wpAny_setItem_pairs (hsz:=hz) (my ry) dd λh' dd' hs=>h _ ?_;have he:∃q,h'.get? a=some q:=let ⟨q,_,_,hq,_⟩:=dd';⟨q,hq⟩;exact tU I (by rw[e];exact True.intro) hs he (G8 hl hd (rel.put k rv) dd')
 ·subst ey eH;cases (show u=Value.ref b from ry);obtain⟨z,hd,xs,rel,dd⟩:=L8 I.hok e;have hz:xs.length<=sizeLine:=by rw[<-Paired.length rel];exact z
  have hl:(jY kvs k v).length<=sizeLine:=by have:=i6 kvs k v;omega
  refine wpAny_setItem_heap (hsz:=hz) (show _+1 < _ from hu) (dF I.hok eb) dd λh' dd' hs=>h _ ?_;obtain⟨q,es,ep,hq,h2,h3,h4,_,h5⟩:=dd';refine tU I (by rw[e];exact True.intro) hs ⟨q,hq⟩ ⟨hl,hd,_,(rel.put k eb rv).keeps λc ys ec=>?_,q,es,ep,hq,h2,h3,h4,h5⟩;rw[av (l8 ec e (λz=>nomatch z))];exact ec
end
theorem pF(I:Inv X pins σ H s)(g:ya H a y o):s.TypeIs (.ref a) "dict" := by
 rcases g with ⟨kvs,k,e,_,_⟩ |⟨kvs,k,b,e,_,_,_⟩
 ·obtain⟨_,_,vs,_,dd⟩:=pD I.hok e;exact dd.typeIs
 ·obtain⟨_,_,xs,_,dd⟩:=pE I.hok e;exact dd.typeIs
theorem yb(h:Heap)(hb:Ub < h.objs.size):bf P w H (h.push { cls:=.type "dict", data:=.dict #[] }) h.objs.size (.dT []):=
 ⟨Xa _,beq_eq_false_iff_ne.mpr (Ne.symm (ZE hb)),[],.nil,_,#[],0,Zx _ rfl,⟨rfl,rfl,rfl⟩,rfl,rfl,Xr⟩
def yc:TE:=λ_ H Q=>∀p,H p=none->Q (.ref p) (upd H p (.dT []))
section
variable {X:Cx} {pos:Pos}
theorem yd:PE X (.Dict [] [] pos) yc:=λpins s σ H Q I h=>
 wpAny_Dict_empty ⟨.ref s.heap.objs.size,_,I.laid (a:=s.heap.objs.size) (o:=.dT []) (t':=s.toks) (λ_ _ q=>Zc _ q) (Zd _) (yb s.heap I.big),rfl,h _ (I.hok.fresh (Zd _))⟩
end
end L2
namespace HT
open PySem PyProof.Rows
open AutoSeq1 (wpAny_loadPart')
section
variable {prog:Program} {w:World} {A:Around} {E:Value->Shared->Prop} {s:Shared}
theorem jp{i:Nat}(hit:s.heap.IsTupleIter it t i)(ht:s.heap.IsTuple t items)(hx:items[i]?=some x)
  (hQ:∀h',h'.IsTupleIter it t (i+1)->Heap.SameBut it s.heap h'->Q x { s with heap:=h' }):wpAny (model prog w) A (Builtin.SmallTypes.nextOf (.ref it)) Q E s:=by
 obtain⟨o,ho,hc,hd⟩:=id hit;obtain⟨ol,hol,_,nl,hdl⟩:=ht;unfold Builtin.SmallTypes.nextOf
 refine Uf (wpAny_callSpecial?_slot (name:=Str.ofString "__next__") hit.typeIs WK
  (Uh WK hit.typeIs WA ?_ (Wv _)))
 show wpAny _ _ (field (.ref it) 0 >>= _) _ _ s;refine Uf (Ul ho hd (x:=.ref t) rfl ?_);show wpAny _ _ (if (Value.ref t == Value.none)=true then _ else _) _ _ s;rw[if_neg (show ¬ ((Value.ref t == Value.none)=true) from Ze)];show wpAny _ _ (field (.ref it) 1 >>= _) _ _ s;refine Uf (Ul ho hd (x:=.int i 0) rfl ?_);show wpAny _ _ (V2 (.ref t) >>= _) _ _ s;refine Uf (UG hol hdl ?_);simp only[ZJ,hx];refine Uf (wpAny_setField ho hd (by simp) (Ux ⟨x,rfl,Ux (hQ _ ?_ (Heap.SameBut.update ..))⟩))
 exact⟨_,Yc _ ho (Obj.isFreed_of_fields (Obj.data_mapFields hd _)),(Obj.cls_mapFields ..).trans hc,by
  rw[Obj.data_mapFields hd];simp[rawInt]⟩
theorem j6{i:Nat}(hh:A.handled=none)(hit:s.heap.IsTupleIter it t i)(ht:s.heap.IsTuple t items)(hx:items[i]?=none)
  (hE:∀h' e,Heap.ExtBut it s.heap h'->(∃o,h'.get? e=some o/\o.cls = .type "StopIteration")->E (.ref e) { s with heap:=h' }):wpAny (model prog w) A (Builtin.SmallTypes.nextOf (.ref it)) Q E s:=by
 obtain⟨o,ho,hc,hd⟩:=id hit;obtain⟨ol,hol,_,nl,hdl⟩:=ht;unfold Builtin.SmallTypes.nextOf
 refine Uf (wpAny_callSpecial?_slot (name:=Str.ofString "__next__") hit.typeIs WK
  (Uh WK hit.typeIs WA ?_ (Wv _)))
 show wpAny _ _ (field (.ref it) 0 >>= _) _ _ s;refine Uf (Ul ho hd (x:=.ref t) rfl ?_);show wpAny _ _ (if (Value.ref t == Value.none)=true then _ else _) _ _ s;rw[if_neg (show ¬ ((Value.ref t == Value.none)=true) from Ze)];show wpAny _ _ (field (.ref it) 1 >>= _) _ _ s;refine Uf (Ul ho hd (x:=.int i 0) rfl ?_);show wpAny _ _ (V2 (.ref t) >>= _) _ _ s;refine Uf (UG hol hdl ?_);simp only[ZJ,hx];refine Uf (UF (Uf (wpAny_setField ho hd (by simp) ?_)));show wpAny _ _ (newExc (.type "StopIteration") [] >>= _) _ _ _;refine Uf ?_;simp only[newExc,newTuple];refine Uf (Uu ?_ (by size_fits));refine Uf (m:=firstArgMember _ _) (Uv (a:=Value.none) (by first |rfl |(simp only[firstArgMember];rfl)) ?_);refine Uu ?_ (by size_fits);simp only[raiseNew];refine Uf (wpAny_handled ?_)
 first |rw[show A.in1.handled=none from hh] |rw[hh]
 refine Uf (Ux (wpAny_throw ?_));exact hE _ _ (((Heap.SameBut.update ..).extBut.push _).push _) ⟨_,Zx _ rfl,rfl⟩
end
theorem ye(hh:A.handled=none)(it l:Addr)(hne:l ≠ it)(items:Array Value) :
  Draws prog w A it [it,l] items.size (λi v=>items[i]?=some v) (λi h=>h.IsTupleIter it l i/\h.IsTuple l items) where
 live:=λ_ _ st=>let ⟨o,ho,_⟩:=st.1;⟨o,ho⟩
 frame:=λ_ _ _ st hk=>⟨st.1.at λo e=>hk it (by simp) o e,let ⟨o,e,r⟩:=st.2;⟨o,hk l (by simp) o e,r⟩⟩
 item:=λi s Q E hi st hQ=>by
  refine jp st.1 st.2 (x:=items[i]) (by simp[hi]) λh' hit' hs'=>?_;exact hQ _ h' s.toks (by simp[hi]) ⟨hit',let ⟨o,e,r⟩:=st.2;⟨o,hs'.extBut l o hne e,r⟩⟩ hs'
 done:=λs Q E st hE=>j6 hh st.1 st.2 (by simp) hE
theorem pG(l:Addr)(items:Array Value)(n:Nat)(dct:Option Addr)(sl:Array (Option Value)) :
  Meets (Builtin.«enumerate.__new__» ⟨[.type "enumerate", .ref l],[]⟩) (λ_ R s=>s.heap.get? l=some { cls:=.type "tuple", dict:=dct,data:=.seq items n,slots:=sl } ∧
   R (.ok (.ret (.ref (s.heap.push { cls:=.type "tuple_iterator", data:=.fields #[.ref l,.int 0 0] }).objs.size)))
    { s with heap:=(s.heap.push { cls:=.type "tuple_iterator", data:=.fields #[.ref l,.int 0 0] }).push { cls:=.type "enumerate", data:=.fields #[.none,.bool false,.ref s.heap.objs.size,rawInt 0,.none,.none] } }):=
 .of_wp λprog w A R s h=>by
  obtain⟨hp,g,d,tk,os⟩:=s;obtain⟨hl,h⟩:=h;have hsub:=sub_enumerate;have hL:Heap.IsTuple (Shared.heap ⟨hp,g,d,tk,os⟩) l items:=⟨_,hl,rfl,n,rfl⟩
  wp_walk using Us hl
  refine wpAny_stack_any λst=>Ux ?_;split
  ·rename_i c _ _ _ _ _;cases (c == Value.type "enumerate")
   ·wp_walk using Us hl,UB hL
    exact⟨_,rfl,h⟩
   ·wp_walk using Us hl,UB hL
    exact⟨_,rfl,h⟩
  ·wp_walk using Us hl,UB hL
   exact⟨_,rfl,h⟩
theorem rG(hL:IsTup s.heap l items)
  (h:∀h',IsEnum h' (s.heap.objs.size+1) s.heap.objs.size 0 .none->h'.IsTupleIter s.heap.objs.size l 0->h'.objs.size=s.heap.objs.size+2 ->
   (∀b o,s.heap.get? b=some o->h'.get? b=some o)->Q (.ref (s.heap.objs.size+1)) { s with heap:=h' }) :
  wpAny (model prog w) A (call (.type "enumerate") [.ref l]) Q E s:=by
 obtain⟨⟨c,dct,dt,sl⟩,hl,hc,n,hd⟩:=hL;replace hc:c = .type "tuple" := hc;replace hd:dt = .seq items n:=hd;subst hc hd
 refine callType_new PySem.F.called_enumerate (by decide) (PySem.F.typeCall_enumerate_1 _) (PySem.F.newCall_enumerate_1 _) (λobj=>PySem.F.args_object_init_2 obj _) PySem.F.entry_enumerate_new
  (pG l items n dct sl) ⟨hl,?_⟩
 have hz:(s.heap.push { cls:=.type "tuple_iterator", data:=.fields #[.ref l,.int 0 0] }).objs.size=s.heap.objs.size+1:=Ym ..;show _/\_;rw[hz]
 have he:IsEnum ((s.heap.push { cls:=.type "tuple_iterator", data:=.fields #[.ref l,.int 0 0] }).push
   { cls:=.type "enumerate", data:=.fields #[.none,.bool false,.ref s.heap.objs.size,rawInt 0,.none,.none] }) (s.heap.objs.size+1) s.heap.objs.size 0 .none:=by
  have:=Zx (s.heap.push { cls:=.type "tuple_iterator", data:=.fields #[.ref l,.int 0 0] })
   (o:={ cls:=.type "enumerate", data:=.fields #[.none,.bool false,.ref s.heap.objs.size,rawInt 0,.none,.none] }) rfl
  rw[hz] at this;exact this
 exact⟨⟨_,he,rfl⟩,h _ he ⟨_,Zc _ (Zx _ rfl),rfl,rfl⟩ (by rw[Ym,hz]) λb o x=>Zc _ (Zc _ x)⟩
end HT
namespace L2
open PySem PySem.Spec PyProof.Rows
abbrev Ite(K:W6)(a:Addr)(sq:W6->Hp->Addr->List V->Prop):It:=
 ⟨λi H=>∃xs x,sq K H a xs/\xs[i]?=some x,λi H x H'=>∃T,H T=none/\x = .ref T/\∀xs v,sq K H a xs->xs[i]?=some v->H'=upd H T (.tup [.int i,v]),λi H=>∃xs,sq K H a xs/\xs.length=i⟩
theorem Inv.turnedLaid{X:Cx}{pins:List (Addr × Obj)}{σ:St}{H:Hp}{s:Shared}{h':Heap}{T:Addr}{o:HO}{t':Nat}{ch:List Addr}(I:Inv X pins σ H s)(hf:∀b ∈ ch,fU X pins H b)
  (k:∀b ob,b ∉ ch->s.heap.get? b=some ob->h'.get? b=some ob) (hp:s.heap.objs.size<=T) (new:bf X.prog X.w (upd H T o) h' T o):Inv X pins σ (upd H T o) { s with heap:=h',toks:=t' }:=by
 have fr:=I.hok.fresh hp;have neT:∀b ob,s.heap.get? b=some ob->b ≠ T:=λb ob e=>ZE (ZB (Zq e) hp)
 refine I.step (g':=s.gens) (d':=s.drawn) (ch:=ch) (λb hb=>⟨(hf b hb).2.2.2.1,(hf b hb).2.1,(hf b hb).2.2.2.2.1,(hf b hb).2.2.2.2.2⟩) (λb ob _ _ hc e _=>k b ob hc e) (λb ob _ _ hc e _=>⟨ob.slots,k b ob hc e⟩)
  (λb ob _ e n=>by rw[av (neT b ob e)];exact n) (λb ob hc e=>⟨ob,k b ob hc e⟩) (λb xs q=>by rw[av (aO q fr)];exact q) (λb u xs q=>by rw[av (aO q fr)];exact q)
  (λb ps q=>⟨#[],by rw[av (aO q fr),q];simp⟩) (λm hm=>?_) (λb u q=>?_) I.bare
 ·obtain⟨ob,es,ep,ho',r'⟩:=hm;exact⟨ob,es,ep,k _ ob (λz=>(hf _ z).2.1 rfl) ho',r'⟩
 ·by_cases hb:b=T
  ·subst hb;rw[a7] at q;cases q;exact new
  ·rw[av hb] at q;refine(I.hok b u q).stay (λc v hc q'=>k c v (λz=>?_) q') (λc q=>by rw[av (aO q fr)];exact q) λc xs q=>by rw[av (aO q fr)];exact q
   have n:=(hf c z).1;rcases hc with w |w
   ·rw[w,q] at n;cases n
   ·rw[w] at n;cases n
theorem Inv.turnedAll{X:Cx}{pins:List (Addr × Obj)}{σ:St}{H:Hp}{s:Shared}{h':Heap}{t':Nat}{ch:List Addr}(I:Inv X pins σ H s)(hf:∀b ∈ ch,fU X pins H b)
  (k:∀b ob,b ∉ ch->s.heap.get? b=some ob->h'.get? b=some ob):Inv X pins σ H { s with heap:=h',toks:=t' }:=by
 refine I.step (g':=s.gens) (d':=s.drawn) (ch:=ch) (λb hb=>⟨(hf b hb).2.2.2.1,(hf b hb).2.1,(hf b hb).2.2.2.2.1,(hf b hb).2.2.2.2.2⟩) (λb ob _ _ hc e _=>k b ob hc e) (λb ob _ _ hc e _=>⟨ob.slots,k b ob hc e⟩)
  (λb ob _ e n=>n) (λb ob hc e=>⟨ob,k b ob hc e⟩) (λb xs q=>q) (λb u xs q=>q)
  (λb ps q=>⟨#[],by rw[q];simp⟩) (λm hm=>?_) (λb u q=>?_) I.bare
 ·obtain⟨ob,es,ep,ho',r'⟩:=hm;exact⟨ob,es,ep,k _ ob (λz=>(hf _ z).2.1 rfl) ho',r'⟩
 ·refine(I.hok b u q).stay (λc v hc q'=>k c v (λz=>?_) q') (λc q=>q) λc xs q=>q;have n:=(hf c z).1;rcases hc with w |w
  ·rw[w,q] at n;cases n
  ·rw[w] at n;cases n
theorem rH{P:Program}{w:World}{K:W6}{elts:List Expr}{x1:Nat}{tp:Pos}(a e it:Addr)(hei:e ≠ it) :
  Turn P w K (.Tuple elts x1 tp) (Ite K a SqL) [e,it] e (λi h=>(∃old,IsEnum h e it i old)/\h.IsListIter it a i) where
 mem:=by simp
 obj:=λi h st b hb=>by
  obtain⟨⟨old,he⟩,o,eo,c,d⟩:=st;rcases Zn.mp hb with z |z
  ·subst z;exact⟨_,he,λv z=>by have z':Data.fields _=Data.cell v:=z;cases z'⟩
  ·have z':=Zy.mp z;subst z';exact⟨o,eo,λv z=>by rw[d] at z;cases z⟩
 keep:=λi h h' st k=>⟨let ⟨old,he⟩:=st.1;⟨old,k e (by simp) _ he⟩,st.2.at λo eo=>k it (by simp) o eo⟩
 item:=by
  intro X hP hw hK hc i pins s σ H E I hf st hg;subst hP hw hK;obtain⟨xs,x,hq,hx⟩:=hg;obtain⟨its,rv,p,hz⟩:=I.list hq;obtain⟨u,hu,ru⟩:=rv.get hx;obtain⟨⟨old,he⟩,hit⟩:=st;have hL:s.heap.IsList a its.toArray:=p.isList
  have hae:e ≠ a:=λz=>by
   subst z;obtain⟨o,ho,hc',n,hd'⟩:=id hL;rw[he] at ho;cases ho;have z':Data.fields _=Data.seq its.toArray n:=hd';cases z'
  have hai:a ≠ it:=λz=>by
   subst z;obtain⟨o,ho,hc',n,hd'⟩:=id hL;obtain⟨o',ho',c',d'⟩:=id hit;rw[ho'] at ho;cases ho;rw[d'] at hd';cases hd'
  have hi:i < its.toArray.size:=by
   have:=(Zb.mp hu).1
   simpa using this
  refine UD (Draws.list (A:=X.A.in1) (I.ok.hd hc) it a hai its.toArray) he ⟨hit,hL⟩ hi hei (by simp[hei,hae]) λy h' tk hP ho hs' hT hsz hk=>?_
  have ey:y=u:=by
   have z:its.toArray[i]?=some u:=by simpa using hu
   rw[z] at hP;exact(Option.some.inj hP).symm
  subst ey;refine⟨_,rfl,?_⟩;refine Ur ho λh2 he2 hs2=>?_;have helt:e < s.heap.objs.size:=Zq he;have hilt:it < s.heap.objs.size:=by obtain⟨o,eo,_⟩:=hit;exact Zq eo
  have hT2:h2.get? s.heap.objs.size=some { cls:=.type "tuple", data:=.seq #[.int i tk,y] }:=(hs2.2 _ (XH helt)).trans hT;have fresh:=I.hok.fresh (Zd s.heap.objs.size);refine⟨.ref s.heap.objs.size,upd H s.heap.objs.size (.tup [.int i,x]),?_,rfl,⟨_,fresh,rfl,λys v hy hv=>?_⟩,⟨⟨y,by simpa using he2⟩,hs'.1.at λo eo=>(hs2.2 it (Ne.symm hei)).trans eo⟩,λb hb=>?_⟩
  ·exact I.turnedLaid (t':=tk+1) hf (λb ob hb eb=>(hs2.2 b λz=>hb (by simp[z])).trans (hk b ob (λz=>hb (by simp[z])) (λz=>hb (by simp[z])) eb)) (Zd _)
    ⟨by show 2<=sizeLine;decide,[.int i tk,y],.cons ⟨tk,rfl⟩ (.cons ru .nil),⟨_,hT2,rfl,_,rfl,rfl⟩⟩
  ·rw[I.list_inj hy hq,hx] at hv;cases hv;rfl
  ·rcases Zn.mp hb with z |z
   ·rw[z,av (ZE helt)];exact(hf e (by simp)).1
   ·rw[Zy.mp z,av (ZE hilt)];exact(hf it (by simp)).1
 done:=by
  intro X hP hw hK hc i pins s σ H E I hf st hg;subst hP hw hK;obtain⟨xs,hq,hx⟩:=hg;obtain⟨its,rv,p,hz⟩:=I.list hq;obtain⟨⟨old,he⟩,hit⟩:=st;have hL:s.heap.IsList a its.toArray:=p.isList
  have hai:a ≠ it:=λz=>by
   subst z;obtain⟨o,ho,hc',n,hd'⟩:=id hL;obtain⟨o',ho',c',d'⟩:=id hit;rw[ho'] at ho;cases ho;rw[d'] at hd';cases hd'
  have hn:its.toArray.size=i:=by rw[Zk,<-rv.length,hx]
  subst hn;refine UC (Draws.list (A:=X.A.in1) (I.ok.hd hc) it a hai its.toArray) he ⟨hit,hL⟩ λh' eb=>⟨rfl,?_⟩;exact I.turnedAll (t':=s.toks) hf λb ob hb q=>eb b ob (λz=>hb (by simp[z])) q
 self:=λ_ _ _ _ _ st h=>let ⟨⟨old,he⟩,_⟩:=st;Uy he h
theorem rJ{P:Program}{w:World}{K:W6}{elts:List Expr}{x1:Nat}{tp:Pos}(a e it:Addr)(hei:e ≠ it) :
  Turn P w K (.Tuple elts x1 tp) (Ite K a SqT) [e,it] e (λi h=>(∃old,IsEnum h e it i old)/\h.IsTupleIter it a i) where
 mem:=by simp
 obj:=λi h st b hb=>by
  obtain⟨⟨old,he⟩,o,eo,c,d⟩:=st;rcases Zn.mp hb with z |z
  ·subst z;exact⟨_,he,λv z=>by have z':Data.fields _=Data.cell v:=z;cases z'⟩
  ·have z':=Zy.mp z;subst z';exact⟨o,eo,λv z=>by rw[d] at z;cases z⟩
 keep:=λi h h' st k=>⟨let ⟨old,he⟩:=st.1;⟨old,k e (by simp) _ he⟩,st.2.at λo eo=>k it (by simp) o eo⟩
 item:=by
  intro X hP hw hK hc i pins s σ H E I hf st hg;subst hP hw hK;obtain⟨xs,x,hq,hx⟩:=hg;obtain⟨its,rv,p,hz⟩:=I.tuple hq;obtain⟨u,hu,ru⟩:=rv.get hx;obtain⟨⟨old,he⟩,hit⟩:=st;have hL:s.heap.IsTuple a its.toArray:=p
  have hae:e ≠ a:=λz=>by
   subst z;obtain⟨o,ho,hc',n,hd'⟩:=id hL;rw[he] at ho;cases ho;have z':Data.fields _=Data.seq its.toArray n:=hd';cases z'
  have hai:a ≠ it:=λz=>by
   subst z;obtain⟨o,ho,hc',n,hd'⟩:=id hL;obtain⟨o',ho',c',d'⟩:=id hit;rw[ho'] at ho;cases ho;rw[d'] at hd';cases hd'
  have hi:i < its.toArray.size:=by
   have:=(Zb.mp hu).1
   simpa using this
  refine UD (HT.ye (A:=X.A.in1) (I.ok.hd hc) it a hai its.toArray) he ⟨hit,hL⟩ hi hei (by simp[hei,hae]) λy h' tk hP ho hs' hT hsz hk=>?_
  have ey:y=u:=by
   have z:its.toArray[i]?=some u:=by simpa using hu
   rw[z] at hP;exact(Option.some.inj hP).symm
  subst ey;refine⟨_,rfl,?_⟩;refine Ur ho λh2 he2 hs2=>?_;have helt:e < s.heap.objs.size:=Zq he;have hilt:it < s.heap.objs.size:=by obtain⟨o,eo,_⟩:=hit;exact Zq eo
  have hT2:h2.get? s.heap.objs.size=some { cls:=.type "tuple", data:=.seq #[.int i tk,y] }:=(hs2.2 _ (XH helt)).trans hT;have fresh:=I.hok.fresh (Zd s.heap.objs.size);refine⟨.ref s.heap.objs.size,upd H s.heap.objs.size (.tup [.int i,x]),?_,rfl,⟨_,fresh,rfl,λys v hy hv=>?_⟩,⟨⟨y,by simpa using he2⟩,hs'.1.at λo eo=>(hs2.2 it (Ne.symm hei)).trans eo⟩,λb hb=>?_⟩
  ·exact I.turnedLaid (t':=tk+1) hf (λb ob hb eb=>(hs2.2 b λz=>hb (by simp[z])).trans (hk b ob (λz=>hb (by simp[z])) (λz=>hb (by simp[z])) eb)) (Zd _)
    ⟨by show 2<=sizeLine;decide,[.int i tk,y],.cons ⟨tk,rfl⟩ (.cons ru .nil),⟨_,hT2,rfl,_,rfl,rfl⟩⟩
  ·rw[I.tuple_inj hy hq,hx] at hv;cases hv;rfl
  ·rcases Zn.mp hb with z |z
   ·rw[z,av (ZE helt)];exact(hf e (by simp)).1
   ·rw[Zy.mp z,av (ZE hilt)];exact(hf it (by simp)).1
 done:=by
  intro X hP hw hK hc i pins s σ H E I hf st hg;subst hP hw hK;obtain⟨xs,hq,hx⟩:=hg;obtain⟨its,rv,p,hz⟩:=I.tuple hq;obtain⟨⟨old,he⟩,hit⟩:=st;have hL:s.heap.IsTuple a its.toArray:=p
  have hai:a ≠ it:=λz=>by
   subst z;obtain⟨o,ho,hc',n,hd'⟩:=id hL;obtain⟨o',ho',c',d'⟩:=id hit;rw[ho'] at ho;cases ho;rw[d'] at hd';cases hd'
  have hn:its.toArray.size=i:=by rw[Zk,<-rv.length,hx]
  subst hn;refine UC (HT.ye (A:=X.A.in1) (I.ok.hd hc) it a hai its.toArray) he ⟨hit,hL⟩ λh' eb=>⟨rfl,?_⟩;exact I.turnedAll (t':=s.toks) hf λb ob hb q=>eb b ob (λz=>hb (by simp[z])) q
 self:=λ_ _ _ _ _ st h=>let ⟨⟨old,he⟩,_⟩:=st;Uy he h
def G9(K:W6)(ta:TA):TI:=λσ H R=>ta σ H λvs H1=>∃a xs,vs=[.ref a]/\SqL K H1 a xs/\R (Ite K a SqL) H1
def Ma(K:W6)(ta:TA):TI:=λσ H R=>ta σ H λvs H1=>∃a xs,vs=[.ref a]/\SqT K H1 a xs/\R (Ite K a SqT) H1
section
variable {X:Cx} {elts:List Expr} {x1:Nat} {tp:Pos}
theorem yf{a:Expr}{ta:TA}{p pos:Pos}(hg:Gl X "enumerate")(hm:X.mg "enumerate" = none)(ha:PA X [a] ta)(hs:V6 [a] X.env=[(false,eval a X.env)]:=by rfl):PI X (.Tuple elts x1 tp) (.Call (.Name "enumerate" p) [a] [] pos) (G9 X.K ta):=by
 intro pins s σ H R I h;refine Call_ (cV I hg hm Wj (Wp (thn (ha pos pins s σ H _ I h) λus s1 ⟨vs,H1,I1,r1,q1⟩=>?_) hs rfl));obtain⟨l,xs,e,hl,q⟩:=q1;subst e;obtain⟨u,rfl,ru⟩:=ce r1;cases ru;obtain⟨its,rv,pl,hz⟩:=I1.list hl;refine call_enumerate_list pl.isList λh' he hit hsz hk=>Uy he ?_;have I2:Inv X pins σ H1 { s1 with heap:=h' }:=I1.kept (t':=s1.toks) hk;have fr:∀b,s1.heap.objs.size<=b->fU X pins H1 b:=λb hb=>I1.fpOk hb (I1.hok.fresh hb);refine⟨_,[s1.heap.objs.size+1,s1.heap.objs.size],_,_,H1,rfl,I2,rH l _ _ (XQ _),⟨⟨_,he⟩,hit⟩,λb hb=>?_,q⟩;rcases Zn.mp hb with z |z
 ·rw[z];exact fr _ (Yp _)
 ·rw[Zy.mp z];exact fr _ (Zd _)
theorem Ha{a:Expr}{ta:TA}{p pos:Pos}(hg:Gl X "enumerate")(hm:X.mg "enumerate" = none)(ha:PA X [a] ta)(hs:V6 [a] X.env=[(false,eval a X.env)]:=by rfl):PI X (.Tuple elts x1 tp) (.Call (.Name "enumerate" p) [a] [] pos) (Ma X.K ta):=by
 intro pins s σ H R I h;refine Call_ (cV I hg hm Wj (Wp (thn (ha pos pins s σ H _ I h) λus s1 ⟨vs,H1,I1,r1,q1⟩=>?_) hs rfl));obtain⟨l,xs,e,hl,q⟩:=q1;subst e;obtain⟨u,rfl,ru⟩:=ce r1;cases ru;obtain⟨its,rv,pl,hz⟩:=I1.tuple hl;refine HT.rG pl λh' he hit hsz hk=>Uy he ?_;have I2:Inv X pins σ H1 { s1 with heap:=h' }:=I1.kept (t':=s1.toks) hk;have fr:∀b,s1.heap.objs.size<=b->fU X pins H1 b:=λb hb=>I1.fpOk hb (I1.hok.fresh hb);refine⟨_,[s1.heap.objs.size+1,s1.heap.objs.size],_,_,H1,rfl,I2,rJ l _ _ (XQ _),⟨⟨_,he⟩,hit⟩,λb hb=>?_,q⟩;rcases Zn.mp hb with z |z
 ·rw[z];exact fr _ (Yp _)
 ·rw[Zy.mp z];exact fr _ (Zd _)
end
section
variable {X:Cx}
theorem pH:aR X (.type "range") (λxs H Q=>∃j:Int,xs=[.int j]/\∀p,H p=none->Q (.ref p) (upd H p (.rng 0 j))):=by
 intro pins s σ H xs us Q I r h;obtain⟨j,rfl,q⟩:=h;obtain⟨u,rfl,ru⟩:=ce r;obtain⟨t,rfl⟩:=ru;exact call_range_1 ⟨.ref s.heap.objs.size,_,I.laid (t':=s.toks+1+1) (o:=.rng 0 j) (λb o e=>Zc _ e) (Zd _) ⟨_,_,_,Zx _ rfl⟩,rfl,q _ (I.hok.fresh (Zd _))⟩
theorem nG(hc:X.calm=true):aR X (.type "list") (λxs H Q=>∃ (p:Addr) (n:Nat),xs=[.ref p]/\H p=some (.rng 0 n)/\n<=1000/\∀l,H l=none->Q (.ref l) (upd H l (.lst ((Zl n).map λ(i:Nat)=>V.int i)))):=by
 intro pins s σ H xs us Q I r h;obtain⟨p,n,rfl,hp,hn,q⟩:=h;obtain⟨u,rfl,ru⟩:=ce r;cases ru;obtain⟨t,u,v,e⟩:=(show bf X.prog X.w H s.heap p (.rng 0 n) from I.hok p _ hp);exact jX hc I e hn q
end
section
variable {X:Cx}
def FD(i j k:Nat)(ta:TA):TS:=λD σ H=>ta σ H λvs H1=>∃v w z,vs=[v,w,z]/\D.nx (((σ.set i (some v)).set j (some w)).set k (some z)) H1
theorem Cb{i j k:Nat}{kt k2 pt2}(hc:X.calm=true)(hN:X.N.Nodup)(hi:X.N[i]?=some x)(hj:X.N[j]?=some y)(hk:X.N[k]?=some z)(hij:i ≠ j)(hik:i ≠ k)(hjk:j ≠ k)
  (hx:X.env.scope.names.lookup x=some .local) (hy:X.env.scope.names.lookup y=some .local) (hz:X.env.scope.names.lookup z=some .local) (ha:PA X [a,b,c] ta)
  (hw:V8 [.Tuple [.Name x px,.Name y py,.Name z pz] kt pt] (.Tuple [a,b,c] k2 pt2) X.env=pure (some [x,y,z]))
  (hs:Ua [.Tuple [.Name x px,.Name y py,.Name z pz] kt pt] (.Tuple [a,b,c] k2 pt2) pos.line X.env=pure false:=by rfl) :
  PS X (.Assign [.Tuple [.Name x px,.Name y py,.Name z pz] kt pt] (.Tuple [a,b,c] k2 pt2) pos) (FD i j k ta):=by
 intro pins s σ H D I h;rw[exec_Assign_arm];refine Uf (UJ ?_);rw[hs];refine Uf (Ux ?_);rw[if_neg (by decide)];refine Uf (Tuple_ (thn (ha _ pins s σ H _ I h) λus s1 ⟨vs,H1,I1,r1,q1⟩=>?_));obtain⟨v,w,z',e1,q1⟩:=q1;subst e1
 obtain⟨u1,u2,u3,rfl,rv,rw',rz⟩:∃u1 u2 u3,us=[u1,u2,u3]/\az v u1/\az w u2/\az z' u3:=by
  cases r1 with
  |cons p q=>
   cases q with
   |cons p' q'=>
    cases q' with
    |cons p'' q''=>
     cases q'';exact⟨_,_,_,rfl,p,p',p''⟩
 refine Uu ?_ (by show 3<=sizeLine;decide);have I2:Inv X pins σ H1 { s1 with heap:=s1.heap.push { cls:=.type "tuple", data:=.seq [u1,u2,u3].toArray } }:=I1.kept (t':=s1.toks) λb o e=>Zc _ e;rw[hw];refine Uf (Ux ?_);show wpAny (model X.prog X.w) X.A (do rule "assign.swapped-stores"; let items <-unpackItems (.ref s1.heap.objs.size) 3 none;Vn [λv=>Vs X.env z v,λv=>Vs X.env y v,λv=>Vs X.env x v] items.reverse;pure Flow.next) _ _ _;refine Uf (UF (Uf (unpackItems_tuple (items:=#[u1,u2,u3]) (I.ok.hd hc) (IsTup.new s1.heap _) λh' hx'=>?_)));have I3:=I2.kept (h':=h') (t':=s1.toks) λb o e=>hx' b o (ZE (Zq e)) e;show wpAny _ _ (Vn [λv=>Vs X.env z v,λv=>Vs X.env y v,λv=>Vs X.env x v] [u3,u2,u1] >>= λ_=>pure Flow.next) _ _ _;refine Uf (assignInOrder_cons (Ug (cA I3 hN hk (.inl hz) rz (λs2 I4=>?_) (.inr hz))));refine assignInOrder_cons (Ug (cA I4 hN hj (.inl hy) rw' (λs3 I5=>?_) (.inr hy)));refine assignInOrder_cons (Ug (cA I5 hN hi (.inl hx) rv (λs4 I6=>assignInOrder_nil (Ux ?_)) (.inr hx)));refine⟨_,H1,?_,q1⟩;rw[Xd _ _ (Ne.symm hjk),Xd _ _ (Ne.symm hik),Xd (some w) (some v) (Ne.symm hij)] at I6;exact I6
end
abbrev iE:List Str->Bool
 |[]=>true
 |x::r=>!r.contains x && iE r
theorem g5:∀ {l:List Str},iE l=true->l.Nodup
 |[],_=>Xr
 |x::r,h=>by
  unfold iE at h;rw[bAE] at h;refine Yn.mpr ⟨λm=>?_,g5 h.2⟩;have:=h.1;simp[m] at this
abbrev cmB(own:List Str)(hs:List Nat)(N:List Str)(scope sc:Scope):Bool:=
 (scope.kind == .function) && iE (cB hs N++own) && iE (scope.names.map (·.1)) && ((cB hs N).all λx=>scope.names.lookup x != some .local && scope.names.lookup x != some .cell) &&
 (scope.names.all λy=>y.2 != .free || (sc.names.lookup y.1 == some .cell || sc.names.lookup y.1 == some .free)) && hs.all λi=>(scope.names.lookup (xX i)).isNone
theorem yg(hs:List Nat)(h:cmB own hs N scope sc=true):CmScope own hs N scope sc:=by
 unfold cmB at h;simp only[bAE,Yi] at h;obtain⟨⟨⟨⟨⟨h1,h2⟩,h3⟩,h4⟩,h5⟩,h6⟩:=h;refine⟨by simpa using h1,g5 h2,g5 h3,λx hx=>?_,λy hy hk=>?_,λi hi=>by simpa using h6 i hi⟩
 ·have:=h4 x hx
  simpa using this
 ·have:=h5 y hy;rw[hk] at this
  simpa using this
section
variable {X:Cx} {tg l a:Expr} {tl:TE} {ta:TA} {es:List Expr} {t:TGs} {p pos:Pos} {n k:Nat} {elts:List Expr} {x1:Nat} {tp:Pos} {o e:Expr} {to:TE} {tt:TA} {name:Str} {apos cpos:Pos}
def FE(K:W6):List V->Hp->VK->Prop:=λxs H Q=>∃x n t b,xs=[x,.ty n]/\TyOf K H x t/\Vf K t (.type n)=some b/\Q (.bl b) H
theorem nI(K:W6)(hK:X.K=K:=by rfl):aR X (.builtin "isinstance") (FE K):=hK ▸ pC
end
theorem j7:∀ {xs:List V} {us:List Value},aH xs us->xs.all dk=true->us.countP (eqU x)=xs.countP λy=>eqV y x
 |_,_,.nil,_=>rfl
 |y::xs,u::us,.cons r t,f=>by
  rw[Yh,bAE] at f;rw[YU,YU,rE r f.1,j7 t f.2]
section
variable {X:Cx}
def Cc(K:W6):V->List V->Hp->VK->Prop:=λx vs H Q=>∃p xs y,x = .ref p/\vs=[y]/\SqT K H p xs/\dk y=true/\xs.all dk=true/\Q (.int ((xs.countP λz=>eqV z y:Nat):Int)) H
theorem vS(K:W6)(hK:X.K=K:=by rfl):MtR X "tuple.count" (Cc K):=by
 subst hK;intro pins s σ H x vs v us Q I rx rv h;obtain⟨p,xs,y,rfl,rfl,hq,fy,fs,q⟩:=h;cases rx;obtain⟨u,rfl,ru⟩:=rv.one;obtain⟨its,r,⟨⟨cls,dd,data,sl⟩,e,hc,n,hd⟩,hz⟩:=I.tuple hq;simp only at hc hd;subst hc hd;refine Vw WJ ⟨_,e,rfl⟩ F.entry_tuple_count (F.args_tuple_count_2 _ _) (SeqAt.tuple_countAt p its.toArray n dd sl u (eqU y)) ⟨e,λw hw=>dm ru fy r fs w (by simpa using hw),?_⟩;refine⟨.int _,H,I.tok _,⟨_,rfl⟩,?_⟩
 have z:(its.toArray.toList.countP (eqU y))=xs.countP λz=>eqV z y:=by
  rw[List.toList_toArray];exact j7 r fs
 rw[z];exact q
end
end L2
namespace Dw
open PySem PySem.Spec PyProof.Rows L2
inductive D where
 |non |bl (b:Bool) |int (i:Int) |str (x:Str) |tup (ds:List D) |lst (ds:List D) |dic (ks:List Key) (ds:List D)
mutual
def Br(N:List Addr)(H:Hp):D->V->Prop
 |.non,v=>v = .non
 |.bl b,v=>v = .bl b
 |.int i,v=>v = .int i
 |.str x,v=>v = .str x
 |.tup ds,v=>∃a xs,v = .ref a/\H a=some (.tup xs)/\BrL N H ds xs
 |.lst ds,v=>∃a xs,v = .ref a/\a ∉ N/\H a=some (.lst xs)/\BrL N H ds xs
 |.dic ks ds,v=>∃a xs,v = .ref a/\a ∉ N/\H a=some (.dK (ks.zip xs))/\ks.length=ds.length/\BrL N H ds xs
def BrL(N:List Addr)(H:Hp):List D->List V->Prop
 |[],xs=>xs=[]
 |d::ds,xs=>∃x r,xs=x::r/\Br N H d x/\BrL N H ds r
end
mutual
noncomputable def dep:D->Nat
 |.tup ds=>jq ds+1
 |.lst ds=>jq ds+1
 |.dic _ ds=>jq ds+1
 |_=>0
noncomputable def jq:List D->Nat
 |[]=>0
 |d::ds=>max (dep d) (jq ds)
end
mutual
noncomputable def wid:D->Nat
 |.tup ds=>max ds.length (rK ds)
 |.lst ds=>max ds.length (rK ds)
 |.dic _ ds=>max ds.length (rK ds)
 |_=>0
noncomputable def rK:List D->Nat
 |[]=>0
 |d::ds=>max (wid d) (rK ds)
end
abbrev isB:D->Bool |.bl _=>true |_=>false
abbrev isW(d:D):Bool:=match d with |.int _=>true |_=>false
abbrev gu(d:D)(a b:Int):Bool:=match d with |.int i=>decide (a<=i) && decide (i<=b) |_=>false
abbrev isT(d:D)(a b:Int):Bool:=match d with |.tup ds=>decide (a<=(ds.length:Int)) && decide ((ds.length:Int)<=b) |_=>false
theorem mB{α:Type}(n:Nat)(f:Nat->List α):(Zl (n+1)).flatMap f=(Zl n).flatMap f++f n:=by
 rw[Xl,Xv];simp
theorem tV{α:Type}{n m:Nat}{f:Nat->List α}(h:∀i,i < n->(f i).length<=m):((Zl n).flatMap f).length<=n * m:=by
 induction n with
 |zero=>simp
 |succ n ih=>
  rw[mB,Zg];have:=ih λi hi=>h i (by omega);have:=h n (by omega);rw[Y3];omega
abbrev fW(ds:List D)(lo hi:Option Int):List D:=(ds.drop (HT.sIx ds.length 0 lo)).take (HT.sIx ds.length ds.length hi - HT.sIx ds.length 0 lo)
theorem tW{n:Nat}:∀ {ds:List D},(∀d ∈ ds,dep d<=n)->jq ds<=n
 |[],_=>by rw[jq];omega
 |e::ds,h=>by
  rw[jq];have:=h e Zh;have:=tW (ds:=ds) λd hd=>h d (Zf _ hd);omega
theorem tX{n:Nat}:∀ {ds:List D},(∀d ∈ ds,wid d<=n)->rK ds<=n
 |[],_=>by rw[rK];omega
 |e::ds,h=>by
  rw[rK];have:=h e Zh;have:=tX (ds:=ds) λd hd=>h d (Zf _ hd);omega
structure Fit(n m:Nat)(d:D):Prop where
 de:dep d<=n
 wi:wid d<=m
theorem Fit.up{n m n' m':Nat}(h:Fit n m d)(hn:n<=n')(hm:m<=m'):Fit n' m' d:=⟨ZI h.de hn,ZI h.wi hm⟩
theorem Fit.tup{n m:Nat}(hl:ds.length<=m)(h:∀d ∈ ds,Fit n m d):Fit (n+1) m (.tup ds):=by
 refine⟨?_,?_⟩
 ·rw[dep];have:=tW (n:=n) λd hd=>(h d hd).de;omega
 ·rw[wid];have:=tX (n:=m) λd hd=>(h d hd).wi;omega
theorem Hb(n:Nat)(a:Int)(h0:0<=a):HT.sIx n 0 (some a)=min a.toNat n:=by
 show(if a < 0 then (a+(n:Int)).toNat else min a.toNat n)=_;rw[if_neg (by omega)]
theorem yh(n:Nat)(a:Int)(h0:0<=a):HT.sIx n n (some a)=min a.toNat n:=by
 show(if a < 0 then (a+(n:Int)).toNat else min a.toNat n)=_;rw[if_neg (by omega)]
abbrev mD(q:Int × Int):D:=.tup [.int q.1,.int q.2]
abbrev mg2(M:List (List Int))(i j:Nat):Int:=(((M[i]?).getD [])[j]?).getD 0
structure Mat(n:Nat)(M:List (List Int)):Prop where
 len:M.length=n
 row:∀r ∈ M,r.length=n
 ent:∀r ∈ M,∀x ∈ r,1<=x/\x<=99
theorem Mat.at{n:Nat}(h:Mat n M){i j:Nat}(hi:i < n)(hj:j < n):∃r,M[i]?=some r/\r.length=n/\r[j]?=some (mg2 M i j)/\1<=mg2 M i j/\mg2 M i j<=99:=by
 have hi':i < M.length:=by rw[h.len];exact hi
 have e1:M[i]?=some M[i]:=gEG hi';have hr:=h.row _ (ZQ hi');have hj':j < M[i].length:=by omega
 have e2:mg2 M i j=M[i][j]:=by unfold mg2;rw[e1,ZY,gEG hj',ZY]
 have:=h.ent _ (ZQ hi') _ (ZQ hj');exact⟨M[i],e1,hr,by rw[e2,gEG hj'],by omega,by omega⟩
def pJ(n k:Nat)(M:List (List Int)):Prop:=∀a b q,a < n->b < n->q < k->mg2 M a b<=mg2 M a q+mg2 M q b
theorem yi{n k:Nat}(h:Mat n M)(hk:k < n)(ht:pJ n k M)(hm:∀i j,i < n->j < n->mg2 M' i j=min (mg2 M i j) (mg2 M i k+mg2 M k j)):pJ n (k+1) M':=by
 intro a b q ha hb hq;have hqn:q < n:=by omega
 obtain⟨_,_,_,_,p1,_⟩:=h.at ha hb;obtain⟨_,_,_,_,p2,_⟩:=h.at ha hk;obtain⟨_,_,_,_,p3,_⟩:=h.at hk hb;obtain⟨_,_,_,_,p4,_⟩:=h.at hk hk;obtain⟨_,_,_,_,p5,_⟩:=h.at ha hqn;obtain⟨_,_,_,_,p6,_⟩:=h.at hqn hb;obtain⟨_,_,_,_,p7,_⟩:=h.at hk hqn;obtain⟨_,_,_,_,p8,_⟩:=h.at hqn hk;rw[hm a b ha hb,hm a q ha hqn,hm q b hqn hb];by_cases e:q=k
 ·subst e;omega
 ·have hq':q < k:=by omega
  have t1:=ht a b q ha hb hq';have t2:=ht k b q hk hb hq';have t3:=ht a k q ha hk hq';omega
abbrev jr(M:List (List Int)):List D:=M.map λr=>.tup (r.map .int)
abbrev aQ(M:List (List Int))(n c i:Nat):List Int:=(Zl n).map λj=>if mg2 M i c+mg2 M c j < mg2 M i j then mg2 M i c+mg2 M c j else mg2 M i j
theorem pK(M:List (List Int))(n c i:Nat):(aQ M n c i).length=n:=by unfold aQ;rw[Za,ZC]
theorem pL(M:List (List Int)){n c i j:Nat}(hj:j < n):(aQ M n c i)[j]?=some (if mg2 M i c+mg2 M c j < mg2 M i j then mg2 M i c+mg2 M c j else mg2 M i j):=by
 unfold aQ;rw[Zs,Yr hj];rfl
theorem Cd{n c:Nat}(h:Mat n M)(hc:c < n):∀i j,i < n->j < n->mg2 ((Zl n).map (aQ M n c)) i j=min (mg2 M i j) (mg2 M i c+mg2 M c j):=λi j hi hj=>by
 have e:mg2 ((Zl n).map (aQ M n c)) i j=if mg2 M i c+mg2 M c j < mg2 M i j then mg2 M i c+mg2 M c j else mg2 M i j:=by
  show((((Zl n).map (aQ M n c))[i]?.getD [])[j]?).getD 0=_;rw[Zs,Yr hi];show((aQ M n c i)[j]?).getD 0=_;rw[pL M hj];rfl
 rw[e];split <;> omega
theorem yj{n c:Nat}(h:Mat n M)(hc:c < n):Mat n ((Zl n).map (aQ M n c)):=by
 refine⟨by rw[Za,ZC],λr hr=>?_,λr hr x hx=>?_⟩
 ·obtain⟨u,_,rfl⟩:=ZL.mp hr;exact pK M n c u
 ·obtain⟨u,hu,rfl⟩:=ZL.mp hr;rw[ZV] at hu;unfold aQ at hx;obtain⟨j,hj,rfl⟩:=ZL.mp hx;rw[ZV] at hj;obtain⟨_,_,_,_,p1,q1⟩:=h.at hu hj;obtain⟨_,_,_,_,p2,q2⟩:=h.at hu hc;obtain⟨_,_,_,_,p3,q3⟩:=h.at hc hj;split <;> omega
theorem bj:∀ (n:Nat) (l:List Int),l.Nodup->(∀x ∈ l,0<=x/\x < (n:Int))->l.length<=n
 |0,l,_,h=>by
  cases l with
  |nil=>exact Zd _
  |cons x l=>have:=h x Zh;lia
 |n+1,l,nd,h=>by
  by_cases hm:(n:Int) ∈ l
  ·have ih:=bj n (l.erase n) (nd.erase _) λx hx=>by
    have h1:=h x (List.mem_of_mem_erase hx);have h2:x ≠ (n:Int):=λe=>(List.Nodup.not_mem_erase nd) (e ▸ hx)
    lia
   rw[List.length_erase_of_mem hm] at ih;have:=List.length_pos_of_mem hm
   lia
  ·have ih:=bj n l nd λx hx=>by
    have h1:=h x hx;have h2:x ≠ (n:Int):=λe=>hm (e ▸ hx)
    lia
   lia
abbrev tY:Key->PyData
 |.inl i=>.int i
 |.inr x=>.str x
mutual
noncomputable def aX:D->PyData
 |.non=>.none
 |.bl b=>.bool b
 |.int i=>.int i
 |.str x=>.str x
 |.tup ds=>.tuple (bv ds)
 |.lst ds=>.list (bv ds)
 |.dic ks ds=>.dict ((ks.map tY).zip (bv ds))
noncomputable def bv:List D->List PyData
 |[]=>[]
 |d::ds=>aX d::bv ds
end
mutual
def shw:D->Prop
 |.int i=>i.natAbs.log2 < 1920
 |.tup ds=>j8 ds
 |.lst ds=>j8 ds
 |.dic _ _=>False
 |_=>True
def j8:List D->Prop
 |[]=>True
 |d::ds=>shw d/\j8 ds
end
section
variable {P:Program} {w:World} {N:List Addr} {H:Hp} {h:Heap}
mutual
theorem eZ(ok:HOk P w H h):∀ (d:D) {v:V} {u:Value},Br N H d v->az v u->shw d->∃as,Reads h u (aX d) as
 |.non,v,u,b,r,hs=>by simp only[Br] at b;subst b;cases r;exact⟨_,by simp only[aX];exact .none⟩
 |.bl x,v,u,b,r,hs=>by simp only[Br] at b;subst b;cases r;exact⟨_,by simp only[aX];exact .bool _⟩
 |.int i,v,u,b,r,hs=>by simp only[Br] at b;subst b;obtain⟨t,rfl⟩:=r;exact⟨_,by simp only[aX];exact .int _ _⟩
 |.str x,v,u,b,r,hs=>by simp only[Br] at b;subst b;obtain⟨t,rfl⟩:=r;exact⟨_,by simp only[aX];exact .str _ _⟩
 |.tup ds,v,u,b,r,hs=>by
  simp only[Br] at b;obtain⟨a,xs,rfl,ha,hx⟩:=b;cases r;obtain⟨_,its,rv,o,e,c,n,q,_⟩:=ok a _ ha;obtain⟨as,z⟩:=iG ok ds hx rv (by simpa only[shw] using hs);simp only[aX];exact⟨_,.tuple e c q (by simpa using z)⟩
 |.lst ds,v,u,b,r,hs=>by
  simp only[Br] at b;obtain⟨a,xs,rfl,_,ha,hx⟩:=b;cases r;obtain⟨_,its,n,rv,e⟩:=ok a _ ha;obtain⟨as,z⟩:=iG ok ds hx rv (by simpa only[shw] using hs);simp only[aX];exact⟨_,.list e rfl rfl (by simpa using z)⟩
 |.dic ks ds,v,u,b,r,hs=>by simp only[shw] at hs
theorem iG(ok:HOk P w H h):∀ (ds:List D) {xs:List V} {us:List Value},BrL N H ds xs->aH xs us->j8 ds->∃as,ReadsAll h us (bv ds) as
 |[],xs,us,b,r,_=>by simp only[BrL] at b;subst b;cases r;exact⟨_,by simp only[bv];exact .nil⟩
 |d::ds,xs,us,b,r,hs=>by
  simp only[BrL] at b;obtain⟨x,l,rfl,h1,h2⟩:=b;cases r with
  |cons r1 r2=>
   obtain⟨as,z1⟩:=eZ ok d h1 r1 (by simp only[j8] at hs;exact hs.1);obtain⟨bs,z2⟩:=iG ok ds h2 r2 (by simp only[j8] at hs;exact hs.2);simp only[bv];exact⟨_,.cons z1 z2⟩
end
mutual
theorem Ce(ok:HOk P w H h):∀ (d:D) {v:V} {u:Value},Br N H d v->az v u->shw d->(aX d).shown.length<=sizeLine->∃bs,ReadAtMost h (aX d).depth bs/\ReprK P w bs h (aX d).depth u (aX d).shown
 |.non,v,u,b,r,_,_=>by simp only[Br] at b;subst b;cases r;exact⟨[],(λ_ m=>nomatch m),by simp only[aX,WW];exact .of_is ReprIs.none _ _ _⟩
 |.bl x,v,u,b,r,_,_=>by simp only[Br] at b;subst b;cases r;exact⟨[],(λ_ m=>nomatch m),by simp only[aX,WW];exact .of_is (ReprIs.bool _) _ _ _⟩
 |.int i,v,u,b,r,hs,_=>by simp only[Br] at b;subst b;obtain⟨t,rfl⟩:=r;exact⟨[],(λ_ m=>nomatch m),by simp only[aX,WW];exact .of_is (ReprIs.int t (by simpa only[shw] using hs)) _ _ _⟩
 |.str x,v,u,b,r,_,hz=>by simp only[Br] at b;subst b;obtain⟨t,rfl⟩:=r;exact⟨[],(λ_ m=>nomatch m),by simp only[aX,WW] at hz ⊢;exact .of_is (ReprIs.str x t hz) _ _ _⟩
 |.tup ds,v,u,b,r,hs,hz=>by
  obtain⟨as,whole⟩:=eZ ok (.tup ds) b r hs;simp only[Br] at b;obtain⟨a,xs,rfl,ha,hx⟩:=b;cases r;obtain⟨_,its,rv,o,e,c,n,q,_⟩:=ok a _ ha;simp only[aX,WW,WT] at hz whole ⊢;obtain⟨bs,m,k⟩:=e7 ok ds hx rv (by simpa only[shw] using hs) λt ht=>ZI (tupleText_mem_le ht) hz;have out:a ∉ bs:=VR whole (by simp only[WT];lia) m;have mm:=ReadAtMost.cons whole (by simp only[WT];lia) m;simp only[WT] at mm;exact⟨a::bs,mm,ReprK.tuple e c q out (by simpa using k)⟩
 |.lst ds,v,u,b,r,hs,hz=>by
  obtain⟨as,whole⟩:=eZ ok (.lst ds) b r hs;simp only[Br] at b;obtain⟨a,xs,rfl,_,ha,hx⟩:=b;cases r;obtain⟨_,its,n,rv,e⟩:=ok a _ ha;simp only[aX,WW,WT] at hz whole ⊢;obtain⟨bs,m,k⟩:=e7 ok ds hx rv (by simpa only[shw] using hs) λt ht=>ZI (listText_mem_le ht) hz;have out:a ∉ bs:=VR whole (by simp only[WT];lia) m;have mm:=ReadAtMost.cons whole (by simp only[WT];lia) m;simp only[WT] at mm;refine⟨a::bs,mm,?_⟩;cases its with
  |nil=>
   cases k':WX (bv ds) with
   |nil=>simp only[listText_nil];exact ReprK.listEmpty e rfl rfl
   |cons _ _=>rw[k'] at k;cases k
  |cons y l=>exact ReprK.list e rfl rfl out (by simpa using k.length_eq) (λi y' q'=>k.item i y' (by simpa using q'))
 |.dic ks ds,v,u,b,r,hs,hz=>by simp only[shw] at hs
theorem e7(ok:HOk P w H h):∀ (ds:List D) {xs:List V} {us:List Value},BrL N H ds xs->aH xs us->j8 ds->(∀t ∈ WX (bv ds),t.length<=sizeLine)->∃bs,ReadAtMost h (WU (bv ds)) bs/\ReprAllK P w bs h (WU (bv ds)) us (WX (bv ds))
 |[],xs,us,b,r,_,_=>by simp only[BrL] at b;subst b;cases r;exact⟨[],(λ_ m=>nomatch m),by simp only[bv,WX];exact .nil⟩
 |d::ds,xs,us,b,r,hs,hz=>by
  simp only[BrL] at b;obtain⟨x,l,rfl,h1,h2⟩:=b;cases r with
  |cons r1 r2=>
   simp only[bv,WX,WU,j8] at hz hs ⊢;obtain⟨b1,m1,k1⟩:=Ce ok d h1 r1 hs.1 (hz _ Zh);obtain⟨b2,m2,k2⟩:=e7 ok ds h2 r2 hs.2 λt ht=>hz t (Zf _ ht);refine⟨b1++b2,(m1.mono (X2 _ _)).append (m2.mono (XR _ _)),?_⟩;exact .cons ((k1.more λb z=>ZR _ z).level_le (X2 _ _)) (k2.more_le (λb z=>ZG _ z) (XR _ _))
end
end
section
variable {X:Cx}
structure Shn(d:D):Prop where
 sh:shw d
 sz:(aX d).shown.length<=sizeLine
 dp:(aX d).depth<=100
def Hc:List V->Hp->VK->Prop:=λxs H Q=>∃x N d,xs=[x]/\Br N H d x/\Shn d/\Q (.str (aX d).shown) H
theorem rL{k:Nat}(hr:Room k X.A):aR X (.builtin "repr") Hc:=by
 intro pins s σ H xs us Q I r h;obtain⟨x,N,d,rfl,b,⟨hs,hz,hd⟩,q⟩:=h;obtain⟨u,rfl,ru⟩:=ce r;have hun:=hr.un;have hu1:X.A.units+1 < cLine:=by lia
 have gd1:X.A.in1.guards=some []:=hr.gd;have fin:∀h' t tk,(∀b o,s.heap.get? b=some o->h'.get? b=some o)->∃x' t',Value.str (aX d).shown t=Value.str x' t'/\EP X pins σ Q (Value.str (aX d).shown t) { s with heap:=h',toks:=tk }:=λh' t tk hk=>⟨_,_,rfl,.str _,H,I.kept (t':=tk) hk,⟨t,rfl⟩,q⟩;cases d with
 |non=>
  simp only[Br] at b;subst b;cases ru;exact P.repr_of_none ⟨.str _,H,I.tok _,⟨_,rfl⟩,by simpa only[aX,WW] using q⟩
 |bl y=>
  simp only[Br] at b;subst b;cases ru;exact P.repr_of_bool ⟨.str _,H,I.tok _,⟨_,rfl⟩,by simpa only[aX,WW] using q⟩
 |int i=>
  simp only[Br] at b;subst b;obtain⟨t,rfl⟩:=ru;exact P.repr_of_int (by simpa only[shw] using hs) ⟨.str _,H,I.tok _,⟨_,rfl⟩,by simpa only[aX,WW] using q⟩
 |str y=>
  simp only[Br] at b;subst b;obtain⟨t,rfl⟩:=ru;exact P.repr_of_str ⟨.str _,H,I.tok _,⟨_,rfl⟩,by simpa only[aX,WW] using q⟩ (by simpa only[aX,WW] using hz)
 |tup ds=>
  obtain⟨as,whole⟩:=eZ I.hok (.tup ds) b ru hs;simp only[Br] at b;obtain⟨a,ys,rfl,ha,hx⟩:=b;cases ru;obtain⟨_,its,rv,o,e,c,n,q',_⟩:=I.hok a _ ha;simp only[aX,WW,WT] at hz whole hd fin;obtain⟨bs,m,k'⟩:=e7 I.hok ds hx rv (by simpa only[shw] using hs) λt ht=>ZI (tupleText_mem_le ht) hz;have out:a ∉ bs:=VR whole (by simp only[WT];lia) m;refine call_repr_slot hu1 ⟨o,e,c⟩ F.slot_tuple_repr ?_;exact call_tuple_reprK e c q' out (by simpa using k') gd1 (λb _=>Clear.nil b) (by show X.A.units+1+(_+1) < cLine;lia) (λ_ _ z=>z) (λh' t tk hk=>fin h' t tk hk) hz
 |lst ds=>
  obtain⟨as,whole⟩:=eZ I.hok (.lst ds) b ru hs;simp only[Br] at b;obtain⟨a,ys,rfl,_,ha,hx⟩:=b;cases ru;obtain⟨_,its,n,rv,e⟩:=I.hok a _ ha;simp only[aX,WW,WT] at hz whole hd fin;obtain⟨bs,m,k'⟩:=e7 I.hok ds hx rv (by simpa only[shw] using hs) λt ht=>ZI (listText_mem_le ht) hz;have out:a ∉ bs:=VR whole (by simp only[WT];lia) m;refine call_repr_slot hu1 ⟨_,e,rfl⟩ F.slot_list_repr.toG ?_;cases its with
  |nil=>
   cases k2:WX (bv ds) with
   |nil=>
    rw[k2] at fin;simp only[listText_nil] at fin;exact call_list_repr_empty ⟨_,e,rfl⟩ e rfl (fin s.heap _ _ λ_ _ z=>z)
   |cons _ _=>rw[k2] at k';cases k'
  |cons y l=>
   exact call_list_reprK e rfl rfl out (by simpa using k'.length_eq) (λi y' q2=>k'.item i y' (by simpa using q2)) gd1 (λb _=>Clear.nil b) (by show X.A.units+1+(_+1) < cLine;lia) (λ_ _ z=>z) (λh' t tk hk=>fin h' t tk hk) hz
 |dic ks ds=>simp only[shw] at hs
end
mutual
noncomputable def sz:D->Nat
 |.non=>10
 |.bl _=>10
 |.int _=>60
 |.str x=>(reprText x).length
 |.tup ds=>szL ds+4
 |.lst ds=>szL ds+4
 |.dic ks ds=>szL ds+62 * ks.length+4
noncomputable def szL:List D->Nat
 |[]=>0
 |d::ds=>sz d+2+szL ds
end
mutual
def bnd(B:Nat):D->Prop
 |.int i=>i.natAbs < B
 |.tup ds=>g6 B ds
 |.lst ds=>g6 B ds
 |.dic _ _=>False
 |_=>True
def g6(B:Nat):List D->Prop
 |[]=>True
 |d::ds=>bnd B d/\g6 B ds
end
theorem Hd{i:Int}(h:i.natAbs < 10 ^ 50):i.natAbs.log2 < 1920:=by
 by_cases z:i.natAbs=0
 ·rw[z];decide
 ·have:i.natAbs.log2 < 167:=(Wh z).mpr (ZB h (by decide))
  lia
mutual
theorem tZ:∀ (d:D),bnd (10 ^ 50) d->shw d
 |.non,_=>by simp only[shw]
 |.bl _,_=>by simp only[shw]
 |.str _,_=>by simp only[shw]
 |.int i,h=>by simp only[shw,bnd] at h ⊢;exact Hd h
 |.tup ds,h=>by simp only[shw,bnd] at h ⊢;exact j9 ds h
 |.lst ds,h=>by simp only[shw,bnd] at h ⊢;exact j9 ds h
 |.dic ks ds,h=>by simp only[bnd] at h
theorem j9:∀ (ds:List D),g6 (10 ^ 50) ds->j8 ds
 |[],_=>by simp only[j8]
 |d::ds,h=>by simp only[j8,g6] at h ⊢;exact⟨tZ d h.1,j9 ds h.2⟩
end
theorem t5:∀ (ts:List Str) (k:Nat) (acc:Str),(Uc k acc ts).length<=acc.length+piled ts
 |[],k,acc=>by show acc.length<=_;lia
 |t::r,k,acc=>by
  have ih:=t5 r (k+1) (acc++(if k > 0 then ", " else "" : String)++t);show(Uc (k+1) (acc++(if k > 0 then ", " else "" : String)++t) r).length<=_;rw[piled_cons]
  have e:(acc++(if k > 0 then ", " else "" : String)++t).length<=acc.length+2+t.length:=by
   rw[V7,V7];have:(Str.ofString (if k > 0 then ", " else "" : String)).length<=2:=by split <;> decide
   lia
  lia
theorem Cf(ts:List Str):(Str.join ", " ts).length<=piled ts:=by
 cases ts with
 |nil=>decide
 |cons t r=>have:=join_length_add (t::r) (by simp);lia
theorem Cg(ts:List Str):(listText ts).length<=piled ts+4:=by
 unfold listText;rw[V7];have h1:=t5 ts 0 "[";have h2:(Str.ofString "[").length=1:=by decide
 have h3:(Str.ofString "]").length=1:=by decide
 have h1':(Uc 0 (Str.ofString "[") ts).length<=(Str.ofString "[").length+piled ts:=h1;show(Uc 0 (Str.ofString "[") ts).length+(Str.ofString "]").length<=_
 lia
theorem yk(ts:List Str):(tupleText ts).length<=piled ts+4:=by
 unfold tupleText;rw[V7,V7];have h1:=Cf ts;have h2:(Str.ofString "(").length=1:=by decide
 have h3:(Str.ofString (if ts.length == 1 then ",)" else ")" : String)).length<=2:=by split <;> decide
 show(Str.ofString "(").length+_+(Str.ofString (if ts.length == 1 then ",)" else ")" : String)).length<=_
 lia
theorem He{i:Int}(h:i.natAbs < 10 ^ 50):(Str.ofString (toString i)).length<=51:=by
 rw[ofString_len];exact int_text_length_le10 (by decide) h
mutual
theorem pM:∀ (d:D),bnd (10 ^ 50) d->(aX d).shown.length<=sz d
 |.non,_=>by simp only[aX,WW,sz];decide
 |.bl b,_=>by simp only[aX,WW,sz];cases b <;> decide
 |.int i,h=>by
  simp only[aX,WW,sz,bnd] at h ⊢;have:=He h;show(Str.ofString (toString i)).length<=60
  lia
 |.str x,_=>by simp only[aX,WW,sz];exact Zd _
 |.tup ds,h=>by
  simp only[aX,WW,sz,bnd] at h ⊢;have:=iH ds h;have:=yk (WX (bv ds))
  lia
 |.lst ds,h=>by
  simp only[aX,WW,sz,bnd] at h ⊢;have:=iH ds h;have:=Cg (WX (bv ds))
  lia
 |.dic ks ds,h=>by simp only[bnd] at h
theorem iH:∀ (ds:List D),g6 (10 ^ 50) ds->piled (WX (bv ds))<=szL ds
 |[],_=>by simp[bv,WX,piled,szL]
 |d::ds,h=>by
  simp only[bv,WX,szL,g6,piled_cons] at h ⊢;have h1:=pM d h.1;have h2:=iH ds h.2
  lia
end
theorem pO:∀ (ks:List Key) (ds:List PyData),WV ((ks.map tY).zip ds)<=WU ds
 |[],ds=>by simp[WV]
 |k::ks,[]=>by simp[WV]
 |k::ks,d::ds=>by
  have ih:=pO ks ds;simp only[Zz,Z2,WV,WU];have:(tY k).depth=0:=by cases k <;> simp[tY,WT]
  rw[this]
  lia
mutual
theorem pP:∀ (d:D),(aX d).depth<=dep d
 |.non=>by simp[aX,WT]
 |.bl _=>by simp[aX,WT]
 |.int _=>by simp[aX,WT]
 |.str _=>by simp[aX,WT]
 |.tup ds=>by simp only[aX,WT,dep];have:=fL ds;lia
 |.lst ds=>by simp only[aX,WT,dep];have:=fL ds;lia
 |.dic ks ds=>by
  simp only[aX,WT,dep];have:=fL ds;have:=pO ks (bv ds)
  lia
theorem fL:∀ (ds:List D),WU (bv ds)<=jq ds
 |[]=>by simp[bv,WU,jq]
 |d::ds=>by
  simp only[bv,WU,jq];have:=pP d;have:=fL ds
  lia
end
structure Bd(B s:Nat)(d:D):Prop where
 bn:bnd B d
 sz:sz d<=s
mutual
theorem ym{B B':Nat}(h:B<=B'):∀ (d:D),bnd B d->bnd B' d
 |.non,_=>by simp only[bnd]
 |.bl _,_=>by simp only[bnd]
 |.str _,_=>by simp only[bnd]
 |.int i,z=>by simp only[bnd] at z ⊢;lia
 |.tup ds,z=>by simp only[bnd] at z ⊢;exact nJ h ds z
 |.lst ds,z=>by simp only[bnd] at z ⊢;exact nJ h ds z
 |.dic ks ds,z=>by simp only[bnd] at z
theorem nJ{B B':Nat}(h:B<=B'):∀ (ds:List D),g6 B ds->g6 B' ds
 |[],_=>by simp only[g6]
 |d::ds,z=>by simp only[g6] at z ⊢;exact⟨ym h d z.1,nJ h ds z.2⟩
end
theorem Bd.shn{B s:Nat}(h:Bd B s d)(hB:B<=10 ^ 50)(hs:s<=sizeLine)(hd:dep d<=100):Shn d:=
 have b:=ym hB d h.bn
 ⟨tZ d b,ZI (pM d b) (ZI h.sz hs),ZI (pP d) hd⟩
theorem t6{B:Nat}:∀ {ds:List D},(∀d ∈ ds,bnd B d)->g6 B ds
 |[],_=>by simp only[g6]
 |d::ds,h=>by simp only[g6];exact⟨h d Zh,t6 λe m=>h e (Zf _ m)⟩
theorem Hf{B s:Nat}(h:∀d ∈ ds,bnd B d)(hs:szL ds+4<=s):Bd B s (.tup ds):=⟨by simp only[bnd];exact t6 h,by simp only[sz];exact hs⟩
end Dw
namespace Ev
open PySem PySem.Spec PyProof.Rows L2
inductive D where
 |non |bl (b:Bool) |int (i:Int) |str (x:Str) |tup (ds:List D) |ref (n:Nat)
inductive Ob where
 |lst (ds:List D) |frz (ds:List D) |dic (ks:List (List NK)) (ds:List D)
@[inline]abbrev Sto:=List Ob
@[inline]abbrev Rho:=List (Option D)
mutual
def VD(K:W6)(m:List Addr)(H:Hp):D->V->Prop
 |.non,v=>v = .non
 |.bl b,v=>v = .bl b
 |.int i,v=>v = .int i
 |.str x,v=>v = .str x
 |.tup ds,v=>∃a xs,v = .ref a/\H a=some (.tup xs)/\VDs K m H ds xs
 |.ref n,v=>∃a,m[n]?=some a/\v = .ref a
def VDs(K:W6)(m:List Addr)(H:Hp):List D->List V->Prop
 |[],xs=>xs=[]
 |d::ds,xs=>∃x r,xs=x::r/\VD K m H d x/\VDs K m H ds r
end
structure Ext(m:List Addr)(H:Hp)(m':List Addr)(H':Hp):Prop where
 pre:m <+: m'
 keep:∀a o,H a=some o->a ∉ m->H' a=some o
 new:∀a,a ∈ m'->a ∉ m->H a=none
def ObR(K:W6)(m:List Addr)(H:Hp)(a:Addr):Ob->Prop
 |.lst ds=>∃vs,H a=some (.lst vs)/\VDs K m H ds vs
 |.frz ds=>∃o vs,H a=some (.frz o (.lst vs))/\VDs K m H ds vs
 |.dic ks ds=>∃vs,H a=some (.dT (ks.zip vs))/\ks.length=ds.length/\VDs K m H ds vs
structure Rel(K:W6)(m:List Addr)(S:Sto)(H:Hp):Prop where
 len:m.length=S.length
 nd:m.Nodup
 ob:∀ (i:Nat) (o:Ob),S[i]?=some o->∃a,m[i]?=some a/\ObR K m H a o
structure EnvR(K:W6)(m:List Addr)(H:Hp)(ρ:Rho)(σ:L2.St):Prop where
 len:ρ.length=σ.length
 at_:∀ (i:Nat) (d:D),ρ[i]?=some (some d)->∃v,σ[i]?=some (some v)/\VD K m H d v
theorem Ext.refl(m:List Addr)(H:Hp):Ext m H m H:=⟨Yd m,λ_ _ h _=>h,λ_ h n=>absurd h n⟩
theorem Ext.trans(x:Ext m H m1 H1)(y:Ext m1 H1 m2 H2):Ext m H m2 H2:=by
 refine⟨x.pre.trans y.pre,λa o h n=>?_,λa h n=>?_⟩
 ·have n1:a ∉ m1:=λz=>by have:=x.new a z n;rw[this] at h;cases h
  exact y.keep a o (x.keep a o h n) n1
 ·by_cases h1:a ∈ m1
  ·exact x.new a h1 n
  ·cases e:H a with
   |none=>rfl
   |some o=>
    have:=x.keep a o e n;rw[y.new a h h1] at this;cases this
section
variable {K:W6} {m m':List Addr} {S S':Sto} {H H':Hp} {a:Addr}
theorem Rel.ex(R:Rel K m S H)(ha:a ∈ m):∃o ob,H a=some o/\ObR K m H a ob:=by
 obtain⟨i,hi,e⟩:=List.getElem_of_mem ha;have hi':i < S.length:=by rw[<-R.len];exact hi
 obtain⟨b,hb,r⟩:=R.ob i S[i] (gEG hi');have:b=a:=by rw[gEG hi] at hb;rw[<-e];exact(Option.some.inj hb).symm
 subst this;cases hS:S[i] with
 |lst ds=>rw[hS] at r;obtain⟨vs,h,q⟩:=r;exact⟨_,.lst ds,h,vs,h,q⟩
 |frz ds=>rw[hS] at r;obtain⟨o,vs,h,q⟩:=r;exact⟨_,.frz ds,h,o,vs,h,q⟩
 |dic ks ds=>rw[hS] at r;obtain⟨vs,h,q⟩:=r;exact⟨_,.dic ks ds,h,vs,h,q⟩
theorem Rel.no(R:Rel K m S H)(h:H a=none):a ∉ m:=λz=>by
 obtain⟨o,_,e,_⟩:=R.ex z;rw[h] at e;cases e
theorem Rel.notTup(R:Rel K m S H)(h:H a=some (.tup xs)):a ∉ m:=λz=>by
 obtain⟨o,ob,e,r⟩:=R.ex z;cases ob with
 |lst ds=>obtain⟨vs,q,_⟩:=r;rw[q] at h;cases h
 |frz ds=>obtain⟨o,vs,q,_⟩:=r;rw[q] at h;cases h
 |dic ks ds=>obtain⟨vs,q,_⟩:=r;rw[q] at h;cases h
theorem Tup.ext(R:Rel K m S H)(x:Ext m H m' H')(h:H a=some (.tup xs)):H' a=some (.tup xs):=x.keep _ _ h (R.notTup h)
theorem jx{i:Nat}(h:m <+: m')(e:m[i]?=some a):m'[i]?=some a:=by
 obtain⟨t,rfl⟩:=h;have hi:i < m.length:=(Zb.mp e).1;rw[Zt hi];exact e
mutual
theorem VD.mono0(pre:m <+: m')(tk:∀a xs,H a=some (.tup xs)->H' a=some (.tup xs)):∀ {d:D} {v:V},VD K m H d v->VD K m' H' d v
 |.non,v,h=>by rw[VD] at h ⊢;exact h
 |.bl _,v,h=>by rw[VD] at h ⊢;exact h
 |.int _,v,h=>by rw[VD] at h ⊢;exact h
 |.str _,v,h=>by rw[VD] at h ⊢;exact h
 |.tup ds,v,h=>by
  rw[VD] at h ⊢;obtain⟨a,xs,e,q,r⟩:=h;exact⟨a,xs,e,tk a xs q,VDs.mono0 pre tk r⟩
 |.ref n,v,h=>by
  rw[VD] at h ⊢;obtain⟨a,q,e⟩:=h;exact⟨a,jx pre q,e⟩
theorem VDs.mono0(pre:m <+: m')(tk:∀a xs,H a=some (.tup xs)->H' a=some (.tup xs)):∀ {ds:List D} {vs:List V},VDs K m H ds vs->VDs K m' H' ds vs
 |[],vs,h=>by rw[VDs] at h ⊢;exact h
 |d::ds,vs,h=>by
  rw[VDs] at h ⊢;obtain⟨y,r,e,p,q⟩:=h;exact⟨y,r,e,VD.mono0 pre tk p,VDs.mono0 pre tk q⟩
end
theorem VD.mono(R:Rel K m S H)(x:Ext m H m' H')(h:VD K m H d v):VD K m' H' d v:=VD.mono0 x.pre (λ_ _=>Tup.ext R x) h
theorem VDs.mono(R:Rel K m S H)(x:Ext m H m' H')(h:VDs K m H ds vs):VDs K m' H' ds vs:=VDs.mono0 x.pre (λ_ _=>Tup.ext R x) h
theorem EnvR.mono(R:Rel K m S H)(x:Ext m H m' H')(h:EnvR K m H ρ σ):EnvR K m' H' ρ σ:=
 ⟨h.len,λi d e=>let ⟨v,p,q⟩:=h.at_ i d e;⟨v,p,VD.mono R x q⟩⟩
theorem VDs.length:∀ {ds:List D} {vs:List V},VDs K m H ds vs->ds.length=vs.length
 |[],vs,h=>by rw[VDs] at h;rw[h];rfl
 |d::ds,vs,h=>by
  rw[VDs] at h;obtain⟨y,r,e,_,q⟩:=h;rw[e,Zr,Zr,VDs.length q]
theorem VDs.nil:VDs K m H [] []:=by rw[VDs]
theorem VDs.cons(h:VD K m H d v)(t:VDs K m H ds vs):VDs K m H (d::ds) (v::vs):=by rw[VDs];exact⟨v,vs,rfl,h,t⟩
theorem VDs.get:∀ {ds:List D} {vs:List V} {i:Nat} {d:D},VDs K m H ds vs->ds[i]?=some d->∃v,vs[i]?=some v/\VD K m H d v
 |[],_,_,_,_,e=>by simp at e
 |d::ds,vs,0,d',h,e=>by
  rw[VDs] at h;obtain⟨y,r,rfl,p,q⟩:=h;simp at e;subst e;exact⟨y,rfl,p⟩
 |d::ds,vs,i+1,d',h,e=>by
  rw[VDs] at h;obtain⟨y,r,rfl,p,q⟩:=h;obtain⟨v,p1,p2⟩:=VDs.get (i:=i) q (by simpa using e);exact⟨v,by simpa using p1,p2⟩
theorem VDs.append:∀ {ds es:List D} {vs ws:List V},VDs K m H ds vs->VDs K m H es ws->VDs K m H (ds++es) (vs++ws)
 |[],_,vs,_,h,t=>by rw[VDs] at h;subst h;exact t
 |d::ds,es,vs,ws,h,t=>by
  rw[VDs] at h;obtain⟨y,r,rfl,p,q⟩:=h;exact .cons p (VDs.append q t)
theorem VDs.drop:∀ {ds:List D} {vs:List V} (n:Nat),VDs K m H ds vs->VDs K m H (ds.drop n) (vs.drop n)
 |ds,vs,0,h=>h
 |[],vs,n+1,h=>by rw[VDs] at h;subst h;exact .nil
 |d::ds,vs,n+1,h=>by
  rw[VDs] at h;obtain⟨y,r,rfl,p,q⟩:=h;exact VDs.drop n q
theorem VDs.take:∀ {ds:List D} {vs:List V} (n:Nat),VDs K m H ds vs->VDs K m H (ds.take n) (vs.take n)
 |ds,vs,0,h=>by simp only[X8];exact .nil
 |[],vs,n+1,h=>by rw[VDs] at h;subst h;exact .nil
 |d::ds,vs,n+1,h=>by
  rw[VDs] at h;obtain⟨y,r,rfl,p,q⟩:=h;exact .cons p (VDs.take n q)
theorem VDs.set:∀ {ds:List D} {vs:List V} {i:Nat} {d:D} {v:V},VDs K m H ds vs->VD K m H d v->VDs K m H (ds.set i d) (vs.set i v)
 |[],vs,_,_,_,h,_=>by rw[VDs] at h;subst h;exact .nil
 |_::ds,vs,0,d,v,h,p=>by
  rw[VDs] at h;obtain⟨y,r,rfl,_,q⟩:=h;exact .cons p q
 |_::ds,vs,i+1,d,v,h,p=>by
  rw[VDs] at h;obtain⟨y,r,rfl,p',q⟩:=h;exact .cons p' (VDs.set q p)
theorem Ext.beside(R:Rel K m S H)(h:H a=none)(o:HO):Ext m H m (upd H a o):=
 ⟨Yd m,λb u e _=>by rw[av (aO e h)];exact e,λb z n=>absurd z n⟩
theorem Rel.ext_keep(R:Rel K m S H)(x:Ext m H m H')(k:∀b ∈ m,H' b=H b):Rel K m S H':=by
 refine⟨R.len,R.nd,λi o e=>?_⟩;obtain⟨b,hb,r⟩:=R.ob i o e;have hm:b ∈ m:=Zi hb;refine⟨b,hb,?_⟩;cases o with
 |lst ds=>obtain⟨vs,p,q⟩:=r;exact⟨vs,(k b hm).trans p,VDs.mono R x q⟩
 |frz ds=>obtain⟨o,vs,p,q⟩:=r;exact⟨o,vs,(k b hm).trans p,VDs.mono R x q⟩
 |dic ks ds=>obtain⟨vs,p,l,q⟩:=r;exact⟨vs,(k b hm).trans p,l,VDs.mono R x q⟩
theorem Rel.beside(R:Rel K m S H)(h:H a=none)(o:HO):Rel K m S (upd H a o):=
 R.ext_keep (Ext.beside R h o) λb hb=>av λz=>R.no h (z ▸ hb)
theorem Rel.adopt(R:Rel K m S H)(n:a ∉ m)(h:H a=some (.lst vs))(q:VDs K m H ds vs):Rel K (m++[a]) (S++[.lst ds]) H:=by
 have p:=Yx m [a];have g:∀ {es:List D} {ws:List V},VDs K m H es ws->VDs K (m++[a]) H es ws:=λz=>VDs.mono0 p (λ_ _ t=>t) z;refine⟨by simp[R.len],YB.mpr ⟨R.nd,by simp,λx hx y hy=>by simp at hy;subst hy;exactλz=>n (z ▸ hx)⟩,λi o e=>?_⟩;by_cases hi:i < S.length
 ·rw[Zt hi] at e;obtain⟨b,hb,r⟩:=R.ob i o e;refine⟨b,jx p hb,?_⟩;cases o with
  |lst ds=>obtain⟨vs,p,q⟩:=r;exact⟨vs,p,g q⟩
  |frz ds=>obtain⟨o,vs,p,q⟩:=r;exact⟨o,vs,p,g q⟩
  |dic ks ds=>obtain⟨vs,p,l,q⟩:=r;exact⟨vs,p,l,g q⟩
 ·rw[Zo (by lia)] at e
  have hz:i - S.length=0:=by
   have:=(Zb.mp e).1;simp at this;lia
  rw[hz] at e;have e':Ob.lst ds=o:=by simpa using e
  subst e';refine⟨a,?_,vs,h,g q⟩;rw[Zo (by rw[R.len];lia),R.len,hz];rfl
theorem Ext.adopt(x:Ext m H m H')(h:H a=none):Ext m H (m++[a]) H':=
 ⟨Yx m [a],x.keep,λb hb nb=>by
  rcases ZO.mp hb with z |z
  ·exact absurd z nb
  ·simp at z;subst z;exact h⟩
theorem Rel.write(R:Rel K m S H){i:Nat}(hi:m[i]?=some a)(q:VDs K m H ds vs):Ext m H m (upd H a (.lst vs))/\Rel K m (S.set i (.lst ds)) (upd H a (.lst vs)):=by
 have hm:a ∈ m:=Zi hi;have x:Ext m H m (upd H a (.lst vs)):=⟨Yd m,λb u e n=>by rw[av (show b ≠ a fromλz=>n (by rw[z];exact hm))];exact e,λb z n=>absurd z n⟩;refine⟨x,by simp[R.len],R.nd,λj o e=>?_⟩;rw[Yq] at e;by_cases hj:i=j
 ·subst hj;rw[if_pos rfl] at e;split at e
  ·have e':=Option.some.inj e;subst e';exact⟨a,hi,vs,a7,VDs.mono R x q⟩
  ·cases e
 ·rw[if_neg hj] at e;obtain⟨b,hb,r⟩:=R.ob j o e
  have ne:b ≠ a:=λz=>by
   subst z;have h1:=Zb.mp hi;have h2:=Zb.mp hb;exact hj ((YS R.nd).mp (h1.2.trans h2.2.symm))
  refine⟨b,hb,?_⟩;cases o with
  |lst es=>obtain⟨ws,p,q⟩:=r;exact⟨ws,by rw[av ne];exact p,VDs.mono R x q⟩
  |frz es=>obtain⟨o,ws,p,q⟩:=r;exact⟨o,ws,by rw[av ne];exact p,VDs.mono R x q⟩
  |dic ks es=>obtain⟨ws,p,l,q⟩:=r;exact⟨ws,by rw[av ne];exact p,l,VDs.mono R x q⟩
theorem Rel.lst(R:Rel K m S H){i:Nat}(e:S[i]?=some (.lst ds)):∃a vs,m[i]?=some a/\H a=some (.lst vs)/\VDs K m H ds vs:=by
 obtain⟨a,ha,vs,p,q⟩:=R.ob i _ e;exact⟨a,vs,ha,p,q⟩
end
abbrev am(S:Sto)(n:Nat):Option (List D):=match S[n]? with
 |some (.lst ds)=>some ds
 |some (.frz ds)=>some ds
 |_=>none
theorem Rel.seq{K:W6}{m:List Addr}{S:Sto}{H:Hp}(R:Rel K m S H){i:Nat}{ds:List D}(e:am S i=some ds):∃a vs,m[i]?=some a/\SqL K H a vs/\VDs K m H ds vs:=by
 unfold am at e;cases h:S[i]? with
 |none=>rw[h] at e;cases e
 |some o=>
  rw[h] at e;cases o with
  |lst es=>cases e;obtain⟨a,ha,vs,p,q⟩:=R.ob i _ h;exact⟨a,vs,ha,.inl (.inl p),q⟩
  |frz es=>cases e;obtain⟨a,ha,o,vs,p,q⟩:=R.ob i _ h;exact⟨a,vs,ha,.inl (.inr ⟨o,p⟩),q⟩
  |dic ks es=>cases e
@[inline]abbrev XE:=Rho->Sto->Option (D × Sto)
@[inline]abbrev XT:=Rho->Sto->Option (Bool × Sto)
@[inline]abbrev XA:=Rho->Sto->Option (List D × Sto)
def bnd{α β:Type}(x:Option (α × Sto))(f:α->Sto->Option (β × Sto)):Option (β × Sto):=match x with
 |none=>none
 |some (a,S)=>f a S
theorem ab{α β:Type}{x:Option (α × Sto)}{f:α->Sto->Option (β × Sto)}{r:β × Sto}(h:bnd x f=some r):∃a S,x=some (a,S)/\f a S=some r:=by
 unfold bnd at h;cases x with
 |none=>cases h
 |some p=>exact⟨p.1,p.2,rfl,h⟩
structure Aft(K:W6)(m:List Addr)(H:Hp)(S':Sto)(m':List Addr)(H':Hp):Prop where
 ext:Ext m H m' H'
 rel:Rel K m' S' H'
def tE(K:W6)(x:XE):TE:=λσ H Q=>∃m ρ S d S',EnvR K m H ρ σ/\Rel K m S H/\x ρ S=some (d,S')/\∀m' H' v,Aft K m H S' m' H'->VD K m' H' d v->Q v H'
def tT(K:W6)(x:XT):TT:=λσ H Q=>∃m ρ S b S',EnvR K m H ρ σ/\Rel K m S H/\x ρ S=some (b,S')/\∀m' H',Aft K m H S' m' H'->Q b H'
def tAr(K:W6)(x:XA):TA:=λσ H Q=>∃m ρ S ds S',EnvR K m H ρ σ/\Rel K m S H/\x ρ S=some (ds,S')/\∀m' H' vs,Aft K m H S' m' H'->VDs K m' H' ds vs->Q vs H'
def SqB(K:W6)(tu:Bool)(H:Hp)(a:Addr)(vs:List V):Prop:=if tu=true then H a=some (.tup vs) else SqL K H a vs
def gw(K:W6)(x:XA):TE:=λσ H Q=>∃m ρ S ds S',EnvR K m H ρ σ/\Rel K m S H/\x ρ S=some (ds,S')/\∀m' H' a vs,Aft K m H S' m' H'->H' a=some (.lst vs)->a ∉ m'->(∀b,b ∈ m->b ≠ a)->H a=none->VDs K m' H' ds vs->Q (.ref a) H'
section
variable {X:Cx} {e:Expr} {K:W6} {m m1 m2:List Addr} {H H1 H2:Hp} {S S1 S2:Sto}
theorem PE.imp(h:PE X e t)(f:∀σ H Q,t' σ H Q->t σ H Q):PE X e t':=λpins s σ H Q I q=>h pins s σ H Q I (f σ H Q q)
theorem PT.imp(h:PT X e t)(f:∀σ H Q,t' σ H Q->t σ H Q):PT X e t':=λpins s σ H Q I q=>h pins s σ H Q I (f σ H Q q)
theorem PA.imp(h:PA X es t)(f:∀σ H Q,t' σ H Q->t σ H Q):PA X es t':=λp pins s σ H Q I q=>h p pins s σ H Q I (f σ H Q q)
theorem PS.imp{st:Stmt}{t t':TS}(h:PS X st t)(f:∀D σ H,t' D σ H->t D σ H):PS X st t':=λpins s σ H D I q=>h pins s σ H D I (f D σ H q)
theorem PSs.imp{st:List Stmt}{t t':TS}(h:PSs X st t)(f:∀D σ H,t' D σ H->t D σ H):PSs X st t':=λpins s σ H D I q=>h pins s σ H D I (f D σ H q)
theorem PI.imp(h:PI X tg it t)(f:∀σ H Q,t' σ H Q->t σ H Q):PI X tg it t':=λpins s σ H Q I q=>h pins s σ H Q I (f σ H Q q)
theorem PI.or(h:PI X tg it t)(h':PI X tg it t'):PI X tg it (λσ H Q=>t σ H Q\/t' σ H Q):=λpins s σ H Q I q=>q.elim (h pins s σ H Q I) (h' pins s σ H Q I)
theorem OpR.imp(h:OpR X f r)(g:∀x y H Q,r' x y H Q->r x y H Q):OpR X f r':=λpins s σ H x y v u Q I rx ry q=>h pins s σ H x y v u Q I rx ry (g _ _ _ _ q)
theorem OpR.or(h:OpR X f r)(h':OpR X f r'):OpR X f (λx y H Q=>r x y H Q\/r' x y H Q):=λpins s σ H x y v u Q I rx ry q=>
 q.elim (h pins s σ H x y v u Q I rx ry) (h' pins s σ H x y v u Q I rx ry)
theorem aR.imp(h:aR X f r)(g:∀x H Q,r' x H Q->r x H Q):aR X f r':=λpins s σ H xs us Q I rx q=>h pins s σ H xs us Q I rx (g _ _ _ q)
theorem aR.or(h:aR X f r)(h':aR X f r'):aR X f (λx H Q=>r x H Q\/r' x H Q):=λpins s σ H xs us Q I rx q=>
 q.elim (h pins s σ H xs us Q I rx) (h' pins s σ H xs us Q I rx)
theorem Aft.refl(R:Rel K m S H):Aft K m H S m H:=⟨Ext.refl m H,R⟩
theorem Aft.trans(x:Aft K m H S1 m1 H1)(y:Aft K m1 H1 S2 m2 H2):Aft K m H S2 m2 H2:=⟨x.ext.trans y.ext,y.rel⟩
def rS(K:W6)(f:D->D->Sto->Option (D × Sto)):R2:=λv w H Q=>∃m S a b d S',Rel K m S H/\VD K m H a v/\VD K m H b w/\f a b S=some (d,S')/\∀m' H' u,Aft K m H S' m' H'->VD K m' H' d u->Q u H'
def rS1(K:W6)(f:D->Sto->Option (D × Sto)):V->Hp->VK->Prop:=λv H Q=>∃m S a d S',Rel K m S H/\VD K m H a v/\f a S=some (d,S')/\∀m' H' u,Aft K m H S' m' H'->VD K m' H' d u->Q u H'
def rSA(K:W6)(f:List D->Sto->Option (D × Sto)):List V->Hp->VK->Prop:=λvs H Q=>∃m S as d S',Rel K m S H/\VDs K m H as vs/\f as S=some (d,S')/\∀m' H' u,Aft K m H S' m' H'->VD K m' H' d u->Q u H'
def rSq(K:W6)(f:Bool->List D->Sto->Option (D × Sto)):V->Hp->VK->Prop:=λv H Q=>∃m S tu ds a vs d S',Rel K m S H/\v = .ref a/\SqB K tu H a vs/\VDs K m H ds vs/\f tu ds S=some (d,S')/\∀m' H' u,Aft K m H S' m' H'->VD K m' H' d u->Q u H'
abbrev pQ(f:D->D->Sto->Option (D × Sto))(x y:XE):XE:=λρ S=>bnd (x ρ S) λa S1=>bnd (y ρ S1) λb S2=>f a b S2
abbrev xUn(f:D->Sto->Option (D × Sto))(x:XE):XE:=λρ S=>bnd (x ρ S) λa S1=>f a S1
abbrev jt(f:List D->Sto->Option (D × Sto))(x:XA):XE:=λρ S=>bnd (x ρ S) λa S1=>f a S1
abbrev lQ(f:Bool->List D->Sto->Option (D × Sto))(x:XA):XE:=λρ S=>bnd (x ρ S) λds S1=>f false ds S1
abbrev ay(d:D)(S:Sto):Option (Bool × List D):=match d with
 |.tup ds=>some (true,ds)
 |.ref n=>(am S n).map λds=>(false,ds)
 |_=>none
abbrev ai(f:Bool->List D->Sto->Option (D × Sto))(d:D)(S:Sto):Option (D × Sto):=match ay d S with
 |some r=>f r.1 r.2 S
 |none=>none
abbrev lU(f:Bool->List D->Sto->Option (D × Sto))(x:XE):XE:=λρ S=>bnd (x ρ S) λd S1=>ai f d S1
theorem nK{f:D->D->Sto->Option (D × Sto)}{x y:XE}{σ:L2.St}{H:Hp}{Q:VK}(h:tE K (pQ f x y) σ H Q):tOp (rS K f) (tE K x) (tE K y) σ H Q:=by
 obtain⟨m,ρ,S,d,S',E,R,e,q⟩:=h;obtain⟨a,S1,e1,e⟩:=ab e;obtain⟨b,S2,e2,e⟩:=ab e;refine⟨m,ρ,S,a,S1,E,R,e1,λm1 H1 v A1 va=>⟨m1,ρ,S1,b,S2,E.mono R A1.ext,A1.rel,e2,λm2 H2 w A2 vb=>?_⟩⟩;exact⟨m2,S2,a,b,d,S',A2.rel,va.mono A1.rel A2.ext,vb,e,λm3 H3 u A3 vd=>q m3 H3 u ((A1.trans A2).trans A3) vd⟩
theorem yn{f:D->Sto->Option (D × Sto)}{x:XE}{σ:L2.St}{H:Hp}{Q:VK}(h:tE K (xUn f x) σ H Q):tUn (rS1 K f) (tE K x) σ H Q:=by
 obtain⟨m,ρ,S,d,S',E,R,e,q⟩:=h;obtain⟨a,S1,e1,e⟩:=ab e;exact⟨m,ρ,S,a,S1,E,R,e1,λm1 H1 v A1 va=>⟨m1,S1,a,d,S',A1.rel,va,e,λm3 H3 u A3 vd=>q m3 H3 u (A1.trans A3) vd⟩⟩
theorem yo{f:List D->Sto->Option (D × Sto)}{x:XA}{σ:L2.St}{H:Hp}{Q:VK}(h:tE K (jt f x) σ H Q):tCB (rSA K f) (tAr K x) σ H Q:=by
 obtain⟨m,ρ,S,d,S',E,R,e,q⟩:=h;obtain⟨a,S1,e1,e⟩:=ab e;exact⟨m,ρ,S,a,S1,E,R,e1,λm1 H1 v A1 va=>⟨m1,S1,a,d,S',A1.rel,va,e,λm3 H3 u A3 vd=>q m3 H3 u (A1.trans A3) vd⟩⟩
theorem Hg{f:Bool->List D->Sto->Option (D × Sto)}{x:XA}{σ:L2.St}{H:Hp}{Q:VK}(h:tE K (lQ f x) σ H Q):tUn (rSq K f) (gw K x) σ H Q:=by
 obtain⟨m,ρ,S,d,S',E,R,e,q⟩:=h;obtain⟨ds,S1,e1,e⟩:=ab e;exact⟨m,ρ,S,ds,S1,E,R,e1,λm1 H1 a vs A1 sq _ _ _ vd=>⟨m1,S1,false,ds,a,vs,d,S',A1.rel,rfl,show SqL K H1 a vs from SqL.of sq,vd,e,λm3 H3 u A3 vd=>q m3 H3 u (A1.trans A3) vd⟩⟩
abbrev vT(i:Nat):XE:=λρ S=>match ρ[i]? with
 |some (some d)=>some (d,S)
 |_=>none
abbrev xC(d:D):XE:=λ_ S=>some (d,S)
theorem Hh{i:Nat}(h:tE K (vT i) σ H Q):Lr i σ H Q:=by
 obtain⟨m,ρ,S,d,S',E,R,e,q⟩:=h;unfold vT at e;cases hr:ρ[i]? with
 |none=>rw[hr] at e;cases e
 |some o=>
  rw[hr] at e;cases o with
  |none=>cases e
  |some d'=>
   cases e;obtain⟨v,e1,vd⟩:=E.at_ i d hr;exact⟨v,e1,q m H v (Aft.refl R) vd⟩
theorem yp(hv:∀m H,VD K m H d v)(h:tE K (xC d) σ H Q):tC v σ H Q:=by
 obtain⟨m,ρ,S,d',S',E,R,e,q⟩:=h;cases e;exact q m H v (Aft.refl R) (hv m H)
theorem nM:VD K m H .non .non:=by rw[VD]
theorem bF:VD K m H (.bl b) (.bl b):=by rw[VD]
theorem a9{i:Int}:VD K m H (.int i) (.int i):=by rw[VD]
theorem nP:VD K m H (.str x) (.str x):=by rw[VD]
theorem nQ(h:H a=some (.tup vs))(q:VDs K m H ds vs):VD K m H (.tup ds) (.ref a):=by rw[VD];exact⟨a,vs,rfl,h,q⟩
theorem VD.ints{i:Int}(h:VD K m H (.int i) v):v = .int i:=by rw[VD] at h;exact h
theorem VD.bls(h:VD K m H (.bl i) v):v = .bl i:=by rw[VD] at h;exact h
theorem VD.strs(h:VD K m H (.str i) v):v = .str i:=by rw[VD] at h;exact h
theorem VD.nons(h:VD K m H .non v):v = .non:=by rw[VD] at h;exact h
theorem VD.tups(h:VD K m H (.tup ds) v):∃a vs,v = .ref a/\H a=some (.tup vs)/\VDs K m H ds vs:=by rw[VD] at h;exact h
theorem VD.refs{n:Nat}(h:VD K m H (.ref n) v):∃a,m[n]?=some a/\v = .ref a:=by rw[VD] at h;exact h
abbrev vU:XA:=λ_ S=>some ([],S)
abbrev t7(x:XE)(y:XA):XA:=λρ S=>bnd (x ρ S) λa S1=>bnd (y ρ S1) λas S2=>some (a::as,S2)
theorem Hi(h:tAr K vU σ H Q):iw σ H Q:=by
 obtain⟨m,ρ,S,d',S',E,R,e,q⟩:=h;cases e;exact q m H [] (Aft.refl R) .nil
theorem Ch{x:XE}{y:XA}{σ:L2.St}{H:Hp}{Q:List V->Hp->Prop}(h:tAr K (t7 x y) σ H Q):bW (tE K x) (tAr K y) σ H Q:=by
 obtain⟨m,ρ,S,d',S',E,R,e,q⟩:=h;obtain⟨a,S1,e1,e⟩:=ab e;obtain⟨b,S2,e2,e⟩:=ab e;cases e;refine⟨m,ρ,S,a,S1,E,R,e1,λm1 H1 v A1 va=>⟨m1,ρ,S1,b,_,E.mono R A1.ext,A1.rel,e2,λm2 H2 w A2 vb=>?_⟩⟩;exact q m2 H2 _ (A1.trans A2) (.cons (va.mono A1.rel A2.ext) vb)
abbrev ju(ds:List D)(S:Sto):Option (D × Sto):=if ds.length<=1000 then some (.tup ds,S) else none
theorem ka{n:Nat}(h:n<=1000):n<=sizeLine:=by rw[V4];lia
theorem g8{ds:List D}{vs:List V}{Q:VK}(R:Rel K m S H)(vd:VDs K m H ds vs)(q:∀m' H' u,Aft K m H S m' H'->VD K m' H' (.tup ds) u->Q u H'):∀p,H p=none->Q (.ref p) (upd H p (.tup vs)):=λp hp=>
 q m _ _ ⟨Ext.beside R hp _,R.beside hp _⟩ (nQ a7 (vd.mono R (Ext.beside R hp _)))
theorem jy{ds:List D}{vs:List V}{Q:VK}(R:Rel K m S H)(vd:VDs K m H ds vs)(q:∀m' H' u,Aft K m H (S++[.lst ds]) m' H'->VD K m' H' (.ref S.length) u->Q u H'):∀p,H p=none->Q (.ref p) (upd H p (.lst vs)):=λp hp=>by
 have x:=Ext.beside R hp (.lst vs);refine q (m++[p]) _ _ ⟨x.adopt hp,(R.beside hp _).adopt (R.no hp) a7 (vd.mono R x)⟩ ?_;rw[VD];exact⟨p,by rw[Zo (by rw[R.len];exact Zd _),R.len,ZZ];rfl,rfl⟩
theorem nR{ds:List D}{vs:List V}{Q:VK}(R:Rel K m S H)(vd:VDs K m H ds vs)(q:∀m' H' a vs,Aft K m H S m' H'->H' a=some (.lst vs)->a ∉ m'->(∀b,b ∈ m->b ≠ a)->H a=none->VDs K m' H' ds vs->Q (.ref a) H'):∀p,H p=none->Q (.ref p) (upd H p (.lst vs)):=λp hp=>
 q m _ _ _ ⟨Ext.beside R hp _,R.beside hp _⟩ a7 (R.no hp) (λb hb z=>R.no hp (z ▸ hb)) hp (vd.mono R (Ext.beside R hp _))
theorem Hj{x:XA}{σ:L2.St}{H:Hp}{Q:VK}(h:tE K (jt ju x) σ H Q):LU (tAr K x) σ H Q:=by
 obtain⟨m,ρ,S,d',S',E,R,e,q⟩:=h;obtain⟨a,S1,e1,e⟩:=ab e;unfold ju at e;split at e
 ·rename_i hl;cases e;exact⟨m,ρ,S,a,_,E,R,e1,λm1 H1 vs A1 va=>⟨ka (by rw[<-va.length];exact hl),g8 A1.rel va λm' H' u A2 vu=>q m' H' u (A1.trans A2) vu⟩⟩
 ·cases e
abbrev mE(x:XA):XA:=λρ S=>bnd (x ρ S) λds S1=>if ds.length<=1000 then some (ds,S1) else none
theorem Ci{x:XA}{σ:L2.St}{H:Hp}{Q:VK}(h:gw K (mE x) σ H Q):LV (tAr K x) σ H Q:=by
 obtain⟨m,ρ,S,ds,S',E,R,e,q⟩:=h;obtain⟨a,S1,e1,e⟩:=ab e;split at e
 ·rename_i hl;cases e;refine⟨m,ρ,S,_,_,E,R,e1,λm1 H1 vs A1 va=>⟨ka (by rw[<-va.length];exact hl),nR A1.rel va λm' H' u us A2 sq n1 n2 n3 vu=>?_⟩⟩
  have hn:H u=none:=by
   cases e:H u with
   |none=>rfl
   |some o=>
    by_cases hm:u ∈ m
    ·exact absurd rfl (n2 u (A1.ext.pre.subset hm))
    ·have:=A1.ext.keep u o e hm;rw[this] at n3;cases n3
  exact q m' H' u us (A1.trans A2) sq n1 (λb hb=>n2 b (A1.ext.pre.subset hb)) hn vu
 ·cases e
theorem e8{d:D}{v:V}{tu:Bool}{ds:List D}(R:Rel K m S H)(vd:VD K m H d v)(e:ay d S=some (tu,ds)):∃a vs,v = .ref a/\SqB K tu H a vs/\VDs K m H ds vs:=by
 unfold ay at e;cases d with
 |tup es=>
  cases e;obtain⟨a,vs,e,q,r⟩:=vd.tups;exact⟨a,vs,e,q,r⟩
 |ref n=>
  obtain⟨a,ha,ev⟩:=vd.refs;cases hs:am S n with
  |none=>simp[hs] at e
  |some es=>
   simp[hs] at e;obtain⟨rfl,rfl⟩:=e;obtain⟨b,vs,hb,q,r⟩:=R.seq hs;rw[ha] at hb;cases hb;exact⟨a,vs,ev,q,r⟩
 |_=>cases e
theorem Hk{f:Bool->List D->Sto->Option (D × Sto)}{x:XE}{σ:L2.St}{H:Hp}{Q:VK}(h:tE K (lU f x) σ H Q):tUn (rSq K f) (tE K x) σ H Q:=by
 obtain⟨m,ρ,S,d,S',E,R,e,q⟩:=h;obtain⟨a,S1,e1,e⟩:=ab e;refine⟨m,ρ,S,a,S1,E,R,e1,λm1 H1 v A1 va=>?_⟩;unfold ai at e;split at e
 ·rename_i r hi;obtain⟨b,vs,ev,sq,vds⟩:=e8 (tu:=r.1) (ds:=r.2) A1.rel va hi;exact⟨m1,S1,r.1,r.2,b,vs,d,S',A1.rel,ev,sq,vds,e,λm3 H3 u A3 vd=>q m3 H3 u (A1.trans A3) vd⟩
 ·cases e
abbrev dG(x:XA):XE:=λρ S=>bnd (x ρ S) λds S1=>some (.ref S1.length,S1++[.lst ds])
theorem pR{x:XA}{σ:L2.St}{H:Hp}{Q:VK}(h:tE K (dG x) σ H Q):gw K x σ H Q:=by
 obtain⟨m,ρ,S,d,S',E,R,e,q⟩:=h;obtain⟨ds,S1,e1,e⟩:=ab e;cases e;refine⟨m,ρ,S,ds,S1,E,R,e1,λm1 H1 a vs A1 sq n1 n2 n3 vd=>?_⟩;refine q (m1++[a]) H1 _ ⟨⟨A1.ext.pre.trans (Yx _ _),A1.ext.keep,λb hb nb=>?_⟩,A1.rel.adopt n1 sq vd⟩ ?_
 ·rcases ZO.mp hb with z |z
  ·exact A1.ext.new b z nb
  ·simp at z;subst z;exact n3
 ·rw[VD];exact⟨a,by rw[Zo (by rw[A1.rel.len];exact Zd _),A1.rel.len,ZZ];rfl,rfl⟩
end
abbrev eqL(f:D->D->Option Bool):List D->List D->Option Bool
 |[],[]=>some true
 |[],_::_=>some false
 |_::_,[]=>some false
 |x::xs,y::ys=>match f x y,eqL f xs ys with
  |some a,some b=>some (a && b)
  |_,_=>none
abbrev eqD:Nat->Sto->D->D->Option Bool
 |0,_,_,_=>none
 |n+1,S,x,y=>match x,y with
  |.non,.non=>some true
  |.bl a,.bl b=>some (a == b)
  |.int a,.int b=>some (a == b)
  |.str a,.str b=>some (a == b)
  |.bl a,.int b=>some ((if a then 1 else 0) == b)
  |.int a,.bl b=>some (a == (if b then 1 else 0))
  |.tup xs,.tup ys=>eqL (eqD n S) xs ys
  |.ref a,.ref b=>match am S a,am S b with
   |some xs,some ys=>if a=b then some true else if xs.length=ys.length then eqL (eqD n S) xs ys else some false
   |_,_=>none
  |.tup _,.ref b=>match am S b with
   |some _=>some false
   |none=>none
  |.ref a,.tup _=>match am S a with
   |some _=>some false
   |none=>none
  |.ref a,_=>match am S a with
   |some _=>some false
   |none=>none
  |_,.ref a=>match am S a with
   |some _=>some false
   |none=>none
  |_,_=>some false
section
variable {X:Cx} {K:W6} {m:List Addr} {H:Hp} {S:Sto}
theorem pS{f:D->D->Option Bool}:∀ {xs ys:List D} {b:Bool},eqL f xs ys=some b->∃g:Nat->Bool,(∀j x y,xs[j]?=some x->ys[j]?=some y->f x y=some (g j))/\b=((Zl (min xs.length ys.length)).all g && xs.length == ys.length)
 |[],[],b,h=>by simp[eqL] at h;exact⟨λ_=>true,λj x y e=>by simp at e,by simp[<-h]⟩
 |[],_::_,b,h=>by simp[eqL] at h;exact⟨λ_=>true,λj x y e=>by simp at e,by simp[<-h]⟩
 |_::_,[],b,h=>by simp[eqL] at h;exact⟨λ_=>true,λj x y _ e=>by simp at e,by simp[<-h]⟩
 |x::xs,y::ys,b,h=>by
  simp only[eqL] at h;cases h1:f x y with
  |none=>simp[h1] at h
  |some a=>
   cases h2:eqL f xs ys with
   |none=>simp[h1,h2] at h
   |some c=>
    simp[h1,h2] at h;obtain⟨g,hg,hc⟩:=pS h2;refine⟨λj=>match j with |0=>a |j+1=>g j,λj x' y' e1 e2=>?_,?_⟩
    ·cases j with
     |zero=>simp at e1 e2;subst e1 e2;exact h1
     |succ j=>simp at e1 e2;exact hg j x' y' e1 e2
    ·rw[<-h,hc];simp only[Zr,Nat.succ_min_succ,List.range_succ_eq_map,Yh,Y4];rw[Bool.and_assoc]
     congr 1
     rw[show(xs.length+1 == ys.length+1)=(xs.length == ys.length) by simp];rfl
theorem Cj{pins:List (Addr × Obj)}{σ:L2.St}{s:Shared}{a:Addr}{xs ys:List V}(I:Inv X pins σ H s)(h1:H a=some (.tup xs))(h2:H a=some (.tup ys)):xs=ys:=by
 rw[h1] at h2;cases h2;rfl
theorem vV{m:List Addr}(nd:m.Nodup){i j:Nat}{a:Addr}(h1:m[i]?=some a)(h2:m[j]?=some a):i=j:=by
 obtain⟨p1,q1⟩:=Zb.mp h1;obtain⟨p2,q2⟩:=Zb.mp h2;exact(YS nd).mp (q1.trans q2.symm)
theorem pT{pins:List (Addr × Obj)}{σ:L2.St}{s:Shared}(I:Inv X pins σ H s)(R:Rel X.K m S H):∀ (n:Nat) {x y:D} {v:V} {b:Bool},VD X.K m H x v->VD X.K m H y v->eqD n S x y=some b->b=true
 |0,_,_,_,_,_,_,h=>by simp[eqD] at h
 |n+1,x,y,v,b,h1,h2,h=>by
  have lists:∀ {xs ys:List D} {vs:List V} {b:Bool},VDs X.K m H xs vs->VDs X.K m H ys vs->eqL (eqD n S) xs ys=some b->b=true:=by
   intro xs
   induction xs with
   |nil=>
    intro ys vs b p q e;have l1:=p.length;have l2:=q.length;cases ys with
    |nil=>simp[eqL] at e;simp_all
    |cons _ _=>simp at l1 l2;lia
   |cons x xs ih=>
    intro ys vs b p q e;have l1:=p.length;have l2:=q.length;cases ys with
    |nil=>simp at l1 l2;lia
    |cons y ys=>
     rw[VDs] at p q;obtain⟨a,r,e1,p1,p2⟩:=p;obtain⟨a',r',e2,q1,q2⟩:=q;rw[e1] at e2;cases e2;simp only[eqL] at e;cases f1:eqD n S x y with
     |none=>simp[f1] at e
     |some c=>
      cases f2:eqL (eqD n S) xs ys with
      |none=>simp[f1,f2] at e
      |some d=>
       simp[f1,f2] at e;rw[<-e,pT I R n p1 q1 f1,ih p2 q2 f2];rfl
  cases x with
  |non=>cases h1.nons;cases y <;> simp[VD] at h2 <;> simp[eqD] at h <;> simp[h]
  |bl a=>cases h1.bls;cases y <;> simp[VD] at h2 <;> simp[eqD] at h <;> simp_all
  |int a=>cases h1.ints;cases y <;> simp[VD] at h2 <;> simp[eqD] at h <;> simp_all
  |str a=>cases h1.strs;cases y <;> simp[VD] at h2 <;> simp[eqD] at h <;> simp_all
  |tup xs=>
   obtain⟨a,vs,e,sq,p⟩:=h1.tups;subst e;cases y with
   |tup ys=>
    obtain⟨a',vs',e',sq',q⟩:=h2.tups;cases e';have:=Cj I sq sq';subst this;simp only[eqD] at h;exact lists p q h
   |ref k=>
    obtain⟨a',ha,e'⟩:=h2.refs;cases e';have z:a ∈ m:=Zi ha;exact absurd z (R.notTup sq)
   |non=>cases h2.nons
   |bl _=>cases h2.bls
   |int _=>cases h2.ints
   |str _=>cases h2.strs
  |ref k=>
   obtain⟨a,ha,e⟩:=h1.refs;subst e;cases y with
   |ref k'=>
    obtain⟨a',ha',e'⟩:=h2.refs;cases e';have:=vV R.nd ha ha';subst this;simp only[eqD] at h;cases hs:am S k with
    |none=>rw[hs] at h;cases h
    |some es=>rw[hs] at h;simp at h;exact h.symm ▸ rfl
   |tup ys=>
    obtain⟨a',vs',e',sq,q⟩:=h2.tups;cases e';have z:a ∈ m:=Zi ha;exact absurd z (R.notTup sq)
   |non=>cases h2.nons
   |bl _=>cases h2.bls
   |int _=>cases h2.ints
   |str _=>cases h2.strs
theorem nS{vs:List V}{its:List Value}{xs:List D}(p:VDs K m H xs vs)(r:aH vs its){j:Nat}(hj:j < its.toArray.size):∃x v,xs[j]?=some x/\VD K m H x v/\az v its.toArray[j]:=by
 have hj':j < its.length:=by simpa using hj
 have l1:=p.length;have l2:=r.length;obtain⟨v,hv,vd⟩:=p.get (i:=j) (d:=xs[j]'(by lia)) (gEG _);obtain⟨u,hu,ru⟩:=r.get hv;refine⟨_,v,gEG (by lia),vd,?_⟩;have e:its[j]?=some its[j]:=gEG hj';rw[e] at hu;cases hu
 simpa using ru
@[inline]abbrev Hl(X:Cx)(m:List Addr)(H:Hp)(S:Sto)(s:Shared)(n:Nat):Prop:=∀ (A:Around) (x y:D) (v w:V) (u u':Value) (b:Bool),VD X.K m H x v->VD X.K m H y w->az v u->az w u'->eqD n S x y=some b->A.units+n < cLine->WY A s u u' b
theorem pU{pins:List (Addr × Obj)}{σ:L2.St}{s:Shared}{n:Nat}(ih:Hl X m H S s n){A:Around}{xs ys:List D}{vs ws:List V}{i1 i2:List Value}{b:Bool}(p:VDs X.K m H xs vs)(q:VDs X.K m H ys ws)(r1:aH vs i1)(r2:aH ws i2)
  (h:eqL (eqD n S) xs ys=some b) (hu:A.units+(n+1) < cLine):∃g:Nat->Bool,(∀j (h1:j < i1.toArray.size) (h2:j < i2.toArray.size),WY A.in1 s i1.toArray[j] i2.toArray[j] (g j))/\b=((Zl (min i1.toArray.size i2.toArray.size)).all g && i1.toArray.size == i2.toArray.size):=by
 obtain⟨g,hg,hb⟩:=pS h;have l1:i1.toArray.size=xs.length:=by rw[Zk,<-r1.length,<-p.length]
 have l2:i2.toArray.size=ys.length:=by rw[Zk,<-r2.length,<-q.length]
 refine⟨g,λj h1 h2=>?_,by rw[hb,l1,l2]⟩;obtain⟨x,v,e1,v1,ru1⟩:=nS p r1 h1;obtain⟨y,w,e2,v2,ru2⟩:=nS q r2 h2;exact ih _ _ _ _ _ _ _ _ v1 v2 ru1 ru2 (hg j x y e1 e2) (by show A.units+1+n < cLine;lia)
theorem yq{n:Nat}:(Zl n).all (λ_=>true)=true:=by simp
theorem yr{pins:List (Addr × Obj)}{σ:L2.St}{s:Shared}(I:Inv X pins σ H s)(R:Rel X.K m S H){n:Nat}(ih:Hl X m H S s n){A:Around}{x y:D}{a a':Addr}{b:Bool}(hx:VD X.K m H x (.ref a))(hy:VD X.K m H y (.ref a'))(h:eqD (n+1) S x y=some b)(hu:A.units+(n+1) < cLine) :
  WZ A s (.ref a) (.ref a') b/\W0 A s (.ref a) (.ref a') (!b):=by
 have hu0:A.units < cLine:=by lia
 cases x with
 |non=>cases hx.nons
 |bl _=>cases hx.bls
 |int _=>cases hx.ints
 |str _=>cases hx.strs
 |tup xs=>
  obtain⟨_,vs,e,sq,p⟩:=hx.tups;cases e;obtain⟨i1,r1,t1,_⟩:=I.tuple (.of sq);cases y with
  |non=>cases hy.nons
  |bl _=>cases hy.bls
  |int _=>cases hy.ints
  |str _=>cases hy.strs
  |tup ys=>
   obtain⟨_,ws,e,sq',q⟩:=hy.tups;cases e;obtain⟨i2,r2,t2,_⟩:=I.tuple (.of sq');simp only[eqD] at h;obtain⟨g,hg,hb⟩:=pU (pins:=pins) (σ:=σ) ih p q r1 r2 h hu;rw[hb];exact⟨SeqAt.RcAt.tuples t1 t2 hu0 hg,PySem.SeqAt.RcNeAt.tuples t1 t2 hu0 hg⟩
  |ref k=>
   simp only[eqD] at h;cases hs:am S k with
   |none=>rw[hs] at h;cases h
   |some es=>
    rw[hs] at h;cases h;obtain⟨b',ws,hb,sq',q⟩:=R.seq hs;obtain⟨c,hc,ec⟩:=hy.refs;cases ec;rw[hb] at hc;cases hc;obtain⟨i2,r2,t2,_⟩:=I.list sq';exact⟨SeqAt.RcAt.tuple_list t1 t2.isList hu0,PySem.SeqAt.RcNeAt.tuple_list t1 t2.isList hu0⟩
 |ref k=>
  obtain⟨c,hc,ec⟩:=hx.refs;cases ec;cases y with
  |non=>cases hy.nons
  |bl _=>cases hy.bls
  |int _=>cases hy.ints
  |str _=>cases hy.strs
  |tup ys=>
   obtain⟨_,ws,e,sq',q⟩:=hy.tups;cases e;obtain⟨i2,r2,t2,_⟩:=I.tuple (.of sq');simp only[eqD] at h;cases hs:am S k with
   |none=>rw[hs] at h;cases h
   |some es=>
    rw[hs] at h;cases h;obtain⟨b',vs,hb,sq,p⟩:=R.seq hs;rw[hb] at hc;cases hc;obtain⟨i1,r1,t1,_⟩:=I.list sq;exact⟨SeqAt.RcAt.list_tuple t1.isList t2 hu0,PySem.SeqAt.RcNeAt.list_tuple t1.isList t2 hu0⟩
  |ref k'=>
   obtain⟨c',hc',ec'⟩:=hy.refs;cases ec';simp only[eqD] at h;cases hs:am S k with
   |none=>rw[hs] at h;cases h
   |some es=>
    cases hs':am S k' with
    |none=>rw[hs,hs'] at h;cases h
    |some es'=>
     rw[hs,hs'] at h;dsimp only at h;obtain⟨b1,vs,hb,sq,p⟩:=R.seq hs;rw[hb] at hc;cases hc;obtain⟨b2,ws,hb',sq',q⟩:=R.seq hs';rw[hb'] at hc';cases hc';obtain⟨i1,r1,t1,_⟩:=I.list sq;obtain⟨i2,r2,t2,_⟩:=I.list sq';split at h
     ·rename_i hk;subst hk;rw[hb] at hb';cases hb';cases h;have z:=SeqAt.RcAt.lists (e:=λ_=>true) t1.isList t1.isList rfl hu0 λj h1 h2=>SeqAt.EqAt.same _;have z':=PySem.SeqAt.RcNeAt.lists (e:=λ_=>true) t1.isList t1.isList rfl hu0 λj h1 h2=>SeqAt.EqAt.same _;rw[yq] at z z';exact⟨z,z'⟩
     ·have l1:i1.toArray.size=es.length:=by rw[Zk,<-r1.length,<-p.length]
      have l2:i2.toArray.size=es'.length:=by rw[Zk,<-r2.length,<-q.length]
      split at h
      ·rename_i hl;obtain⟨g,hg,hb3⟩:=pU (pins:=pins) (σ:=σ) ih p q r1 r2 h hu;have hsz:i1.toArray.size=i2.toArray.size:=by rw[l1,l2,hl]
       rw[hb3,<-hsz,Nat.min_self,beq_self_eq_true,Bool.and_true];exact⟨SeqAt.RcAt.lists t1.isList t2.isList hsz hu0 hg,PySem.SeqAt.RcNeAt.lists t1.isList t2.isList hsz hu0 hg⟩
      ·rename_i hl;cases h;have hsz:(i1.toArray.size != i2.toArray.size)=true:=by rw[l1,l2];simpa using hl
       exact⟨SeqAt.RcAt.lists_lengths t1.isList t2.isList hsz hu0,PySem.SeqAt.RcNeAt.lists_lengths t1.isList t2.isList hsz hu0⟩
theorem be{pins:List (Addr × Obj)}{σ:L2.St}{s:Shared}(I:Inv X pins σ H s)(R:Rel X.K m S H){k:Nat}{v:V}{es:List D}(h:VD X.K m H (.ref k) v)(hs:am S k=some es):∃a i,v = .ref a/\s.heap.IsList a i:=by
 obtain⟨c,hc,ec⟩:=h.refs;obtain⟨b1,vs,hb,sq,p⟩:=R.seq hs;rw[hb] at hc;cases hc;obtain⟨i1,r1,t1,_⟩:=I.list sq;exact⟨_,_,ec,t1.isList⟩
theorem bx{pins:List (Addr × Obj)}{σ:L2.St}{s:Shared}(I:Inv X pins σ H s){v:V}{es:List D}(h:VD X.K m H (.tup es) v):∃a i,v = .ref a/\s.heap.IsTuple a i:=by
 obtain⟨a,vs,e,sq,p⟩:=h.tups;obtain⟨i1,r1,t1,_⟩:=I.tuple (.of sq);exact⟨_,_,e,t1⟩
theorem nT{pins:List (Addr × Obj)}{σ:L2.St}{s:Shared}(I:Inv X pins σ H s)(R:Rel X.K m S H):∀n,Hl X m H S s n
 |0=>λA x y v w u u' b h1 h2 r1 r2 h _=>by simp[eqD] at h
 |n+1=>λA x y v w u u' b h1 h2 r1 r2 h hu=>by
  have hu0:A.units < cLine:=by lia
  have seq:∀ {a a':Addr},v = .ref a->w = .ref a'->WY A s u u' b:=by
   intro a a' e e';subst e e';cases r1;cases r2;by_cases z:a=a'
   ·subst z;have:=pT I R (n+1) h1 h2 h;subst this;exact SeqAt.EqAt.same _
   ·exact SeqAt.EqAt.of_refs z (yr I R (nT I R n) h1 h2 h hu).1
  cases x with
  |non=>
   cases h1.nons;cases r1;cases y with
   |non=>cases h2.nons;cases r2;simp[eqD] at h;subst h;exact SeqAt.EqAt.same _
   |bl j=>cases h2.bls;cases r2;simp[eqD] at h;subst h;exact SeqAt.EqAt.none_bool _
   |int j=>cases h2.ints;obtain⟨t,rfl⟩:=r2;simp[eqD] at h;subst h;exact SeqAt.EqAt.none_int _ _
   |str j=>cases h2.strs;obtain⟨t,rfl⟩:=r2;simp[eqD] at h;subst h;exact SeqAt.EqAt.none_str _ _
   |tup ys=>obtain⟨a,i,e,l⟩:=bx I h2;subst e;cases r2;simp[eqD] at h;subst h;exact SeqAt.EqAt.none_tuple l hu0
   |ref k=>
    simp only[eqD] at h;cases hs:am S k with
    |none=>rw[hs] at h;cases h
    |some es=>rw[hs] at h;cases h;obtain⟨a,i,e,l⟩:=be I R h2 hs;subst e;cases r2;exact SeqAt.EqAt.none_list l hu0
  |bl i=>
   cases h1.bls;cases r1;cases y with
   |non=>cases h2.nons;cases r2;simp[eqD] at h;subst h;exact SeqAt.EqAt.bool_none _
   |bl j=>cases h2.bls;cases r2;simp only[eqD] at h;cases h;exact SeqAt.EqAt.bool_bool _ _
   |int j=>cases h2.ints;obtain⟨t,rfl⟩:=r2;simp only[eqD] at h;cases h;exact SeqAt.EqAt.bool_int _ _ _
   |str j=>cases h2.strs;obtain⟨t,rfl⟩:=r2;simp[eqD] at h;subst h;exact SeqAt.EqAt.bool_str _ _ _
   |tup ys=>obtain⟨a,i,e,l⟩:=bx I h2;subst e;cases r2;simp[eqD] at h;subst h;exact SeqAt.EqAt.bool_tuple _ l hu0
   |ref k=>
    simp only[eqD] at h;cases hs:am S k with
    |none=>rw[hs] at h;cases h
    |some es=>rw[hs] at h;cases h;obtain⟨a,i,e,l⟩:=be I R h2 hs;subst e;cases r2;exact SeqAt.EqAt.bool_list _ l hu0
  |int i=>
   cases h1.ints;obtain⟨t1,rfl⟩:=r1;cases y with
   |non=>cases h2.nons;cases r2;simp[eqD] at h;subst h;exact SeqAt.EqAt.int_none _ _
   |bl j=>cases h2.bls;cases r2;simp only[eqD] at h;cases h;exact SeqAt.EqAt.int_bool _ _ _
   |int j=>cases h2.ints;obtain⟨t,rfl⟩:=r2;simp only[eqD] at h;cases h;exact SeqAt.EqAt.int_int _ _ _ _
   |str j=>cases h2.strs;obtain⟨t,rfl⟩:=r2;simp[eqD] at h;subst h;exact SeqAt.EqAt.int_str _ _ _ _
   |tup ys=>obtain⟨a,i,e,l⟩:=bx I h2;subst e;cases r2;simp[eqD] at h;subst h;exact SeqAt.EqAt.int_tuple _ _ l hu0
   |ref k=>
    simp only[eqD] at h;cases hs:am S k with
    |none=>rw[hs] at h;cases h
    |some es=>rw[hs] at h;cases h;obtain⟨a,i,e,l⟩:=be I R h2 hs;subst e;cases r2;exact SeqAt.EqAt.int_list _ _ l hu0
  |str i=>
   cases h1.strs;obtain⟨t1,rfl⟩:=r1;cases y with
   |non=>cases h2.nons;cases r2;simp[eqD] at h;subst h;exact SeqAt.EqAt.str_none _ _
   |bl j=>cases h2.bls;cases r2;simp[eqD] at h;subst h;exact SeqAt.EqAt.str_bool _ _ _
   |int j=>cases h2.ints;obtain⟨t,rfl⟩:=r2;simp[eqD] at h;subst h;exact SeqAt.EqAt.str_int _ _ _ _
   |str j=>cases h2.strs;obtain⟨t,rfl⟩:=r2;simp only[eqD] at h;cases h;exact SeqAt.EqAt.str_str _ _ _ _
   |tup ys=>obtain⟨a,i,e,l⟩:=bx I h2;subst e;cases r2;simp[eqD] at h;subst h;exact SeqAt.EqAt.str_tuple _ _ l hu0
   |ref k=>
    simp only[eqD] at h;cases hs:am S k with
    |none=>rw[hs] at h;cases h
    |some es=>rw[hs] at h;cases h;obtain⟨a,i,e,l⟩:=be I R h2 hs;subst e;cases r2;exact SeqAt.EqAt.str_list _ _ l hu0
  |tup xs=>
   obtain⟨a,i,e,l⟩:=bx I h1;subst e;cases r1;cases y with
   |non=>cases h2.nons;cases r2;simp[eqD] at h;subst h;exact SeqAt.EqAt.tuple_none l hu0
   |bl j=>cases h2.bls;cases r2;simp[eqD] at h;subst h;exact SeqAt.EqAt.tuple_bool _ l hu0
   |int j=>cases h2.ints;obtain⟨t,rfl⟩:=r2;simp[eqD] at h;subst h;exact SeqAt.EqAt.tuple_int _ _ l hu0
   |str j=>cases h2.strs;obtain⟨t,rfl⟩:=r2;simp[eqD] at h;subst h;exact SeqAt.EqAt.tuple_str _ _ l hu0
   |tup ys=>obtain⟨a',i',e',l'⟩:=bx I h2;exact seq rfl e'
   |ref k=>obtain⟨c,hc,ec⟩:=h2.refs;exact seq rfl ec
  |ref k=>
   obtain⟨c,hc,ec⟩:=h1.refs;cases y with
   |tup ys=>obtain⟨a',i',e',l'⟩:=bx I h2;exact seq ec e'
   |ref k=>obtain⟨c,hc,ec'⟩:=h2.refs;exact seq ec ec'
   |non=>
    simp only[eqD] at h;cases hs:am S k with
    |none=>rw[hs] at h;cases h
    |some es=>rw[hs] at h;cases h;obtain⟨a,i,e,l⟩:=be I R h1 hs;subst e;cases r1;cases h2.nons;cases r2;exact SeqAt.EqAt.list_none l hu0
   |bl j=>
    simp only[eqD] at h;cases hs:am S k with
    |none=>rw[hs] at h;cases h
    |some es=>rw[hs] at h;cases h;obtain⟨a,i,e,l⟩:=be I R h1 hs;subst e;cases r1;cases h2.bls;cases r2;exact SeqAt.EqAt.list_bool _ l hu0
   |int j=>
    simp only[eqD] at h;cases hs:am S k with
    |none=>rw[hs] at h;cases h
    |some es=>rw[hs] at h;cases h;obtain⟨a,i,e,l⟩:=be I R h1 hs;subst e;cases r1;cases h2.ints;obtain⟨t,rfl⟩:=r2;exact SeqAt.EqAt.list_int _ _ l hu0
   |str j=>
    simp only[eqD] at h;cases hs:am S k with
    |none=>rw[hs] at h;cases h
    |some es=>rw[hs] at h;cases h;obtain⟨a,i,e,l⟩:=be I R h1 hs;subst e;cases r1;cases h2.strs;obtain⟨t,rfl⟩:=r2;exact SeqAt.EqAt.list_str _ _ l hu0
theorem Mb{pins:List (Addr × Obj)}{σ:L2.St}{s:Shared}(I:Inv X pins σ H s)(R:Rel X.K m S H)(n:Nat){A:Around}{x y:D}{v w:V}{u u':Value}{b:Bool}(h1:VD X.K m H x v)(h2:VD X.K m H y w)(r1:az v u)(r2:az w u')(h:eqD (n+1) S x y=some b)(hu:A.units+(n+1) < cLine) :
  WZ A s u u' b/\W0 A s u u' (!b):=by
 have hu0:A.units < cLine:=by lia
 have seq:∀ {a a':Addr},v = .ref a->w = .ref a'->WZ A s u u' b/\W0 A s u u' (!b):=by
  intro a a' e e';subst e e';cases r1;cases r2;exact yr I R (nT I R n) h1 h2 h hu
 cases x with
 |non=>
  cases h1.nons;cases r1;cases y with
  |non=>cases h2.nons;cases r2;simp[eqD] at h;subst h;exact⟨SeqAt.RcAt.none_none,PySem.SeqAt.RcNeAt.none_none⟩
  |bl j=>cases h2.bls;cases r2;simp[eqD] at h;subst h;exact⟨SeqAt.RcAt.none_bool _,PySem.SeqAt.RcNeAt.none_bool _⟩
  |int j=>cases h2.ints;obtain⟨t2,rfl⟩:=r2;simp[eqD] at h;subst h;exact⟨SeqAt.RcAt.none_int _ _,PySem.SeqAt.RcNeAt.none_int _ _⟩
  |str j=>cases h2.strs;obtain⟨t2,rfl⟩:=r2;simp[eqD] at h;subst h;exact⟨SeqAt.RcAt.none_str _ _,PySem.SeqAt.RcNeAt.none_str _ _⟩
  |tup ys=>obtain⟨a,i,e,l⟩:=bx I h2;subst e;cases r2;simp[eqD] at h;subst h;exact⟨SeqAt.RcAt.none_tuple l hu0,PySem.SeqAt.RcNeAt.none_tuple l hu0⟩
  |ref k=>
   simp only[eqD] at h;cases hs:am S k with
   |none=>rw[hs] at h;cases h
   |some es=>rw[hs] at h;cases h;obtain⟨a,i,e,l⟩:=be I R h2 hs;subst e;cases r2;exact⟨SeqAt.RcAt.none_list l hu0,PySem.SeqAt.RcNeAt.none_list l hu0⟩
 |bl i=>
  cases h1.bls;cases r1;cases y with
  |non=>cases h2.nons;cases r2;simp[eqD] at h;subst h;exact⟨SeqAt.RcAt.bool_none _,PySem.SeqAt.RcNeAt.bool_none _⟩
  |bl j=>cases h2.bls;cases r2;simp only[eqD] at h;cases h;exact⟨SeqAt.RcAt.bool_bool _ _,PySem.SeqAt.RcNeAt.bool_bool _ _⟩
  |int j=>cases h2.ints;obtain⟨t2,rfl⟩:=r2;simp only[eqD] at h;cases h;exact⟨SeqAt.RcAt.bool_int _ _ _,PySem.SeqAt.RcNeAt.bool_int _ _ _⟩
  |str j=>cases h2.strs;obtain⟨t2,rfl⟩:=r2;simp[eqD] at h;subst h;exact⟨SeqAt.RcAt.bool_str _ _ _,PySem.SeqAt.RcNeAt.bool_str _ _ _⟩
  |tup ys=>obtain⟨a,i,e,l⟩:=bx I h2;subst e;cases r2;simp[eqD] at h;subst h;exact⟨SeqAt.RcAt.bool_tuple _ l hu0,PySem.SeqAt.RcNeAt.bool_tuple _ l hu0⟩
  |ref k=>
   simp only[eqD] at h;cases hs:am S k with
   |none=>rw[hs] at h;cases h
   |some es=>rw[hs] at h;cases h;obtain⟨a,i,e,l⟩:=be I R h2 hs;subst e;cases r2;exact⟨SeqAt.RcAt.bool_list _ l hu0,PySem.SeqAt.RcNeAt.bool_list _ l hu0⟩
 |int i=>
  cases h1.ints;obtain⟨t1,rfl⟩:=r1;cases y with
  |non=>cases h2.nons;cases r2;simp[eqD] at h;subst h;exact⟨SeqAt.RcAt.int_none _ _,PySem.SeqAt.RcNeAt.int_none _ _⟩
  |bl j=>cases h2.bls;cases r2;simp only[eqD] at h;cases h;exact⟨SeqAt.RcAt.int_bool _ _ _,PySem.SeqAt.RcNeAt.int_bool _ _ _⟩
  |int j=>cases h2.ints;obtain⟨t2,rfl⟩:=r2;simp only[eqD] at h;cases h;exact⟨SeqAt.RcAt.int_int _ _ _ _,PySem.SeqAt.RcNeAt.int_int _ _ _ _⟩
  |str j=>cases h2.strs;obtain⟨t2,rfl⟩:=r2;simp[eqD] at h;subst h;exact⟨SeqAt.RcAt.int_str _ _ _ _,PySem.SeqAt.RcNeAt.int_str _ _ _ _⟩
  |tup ys=>obtain⟨a,i,e,l⟩:=bx I h2;subst e;cases r2;simp[eqD] at h;subst h;exact⟨SeqAt.RcAt.int_tuple _ _ l hu0,PySem.SeqAt.RcNeAt.int_tuple _ _ l hu0⟩
  |ref k=>
   simp only[eqD] at h;cases hs:am S k with
   |none=>rw[hs] at h;cases h
   |some es=>rw[hs] at h;cases h;obtain⟨a,i,e,l⟩:=be I R h2 hs;subst e;cases r2;exact⟨SeqAt.RcAt.int_list _ _ l hu0,PySem.SeqAt.RcNeAt.int_list _ _ l hu0⟩
 |str i=>
  cases h1.strs;obtain⟨t1,rfl⟩:=r1;cases y with
  |non=>cases h2.nons;cases r2;simp[eqD] at h;subst h;exact⟨SeqAt.RcAt.str_none _ _,PySem.SeqAt.RcNeAt.str_none _ _⟩
  |bl j=>cases h2.bls;cases r2;simp[eqD] at h;subst h;exact⟨SeqAt.RcAt.str_bool _ _ _,PySem.SeqAt.RcNeAt.str_bool _ _ _⟩
  |int j=>cases h2.ints;obtain⟨t2,rfl⟩:=r2;simp[eqD] at h;subst h;exact⟨SeqAt.RcAt.str_int _ _ _ _,PySem.SeqAt.RcNeAt.str_int _ _ _ _⟩
  |str j=>cases h2.strs;obtain⟨t2,rfl⟩:=r2;simp only[eqD] at h;cases h;exact⟨SeqAt.RcAt.str_str _ _ _ _,PySem.SeqAt.RcNeAt.str_str _ _ _ _⟩
  |tup ys=>obtain⟨a,i,e,l⟩:=bx I h2;subst e;cases r2;simp[eqD] at h;subst h;exact⟨SeqAt.RcAt.str_tuple _ _ l hu0,PySem.SeqAt.RcNeAt.str_tuple _ _ l hu0⟩
  |ref k=>
   simp only[eqD] at h;cases hs:am S k with
   |none=>rw[hs] at h;cases h
   |some es=>rw[hs] at h;cases h;obtain⟨a,i,e,l⟩:=be I R h2 hs;subst e;cases r2;exact⟨SeqAt.RcAt.str_list _ _ l hu0,PySem.SeqAt.RcNeAt.str_list _ _ l hu0⟩
 |tup xs=>
  obtain⟨a,i,e,l⟩:=bx I h1;cases y with
  |non=>subst e;cases r1;cases h2.nons;cases r2;simp[eqD] at h;subst h;exact⟨SeqAt.RcAt.tuple_none l hu0,PySem.SeqAt.RcNeAt.tuple_none l hu0⟩
  |bl j=>subst e;cases r1;cases h2.bls;cases r2;simp[eqD] at h;subst h;exact⟨SeqAt.RcAt.tuple_bool _ l hu0,PySem.SeqAt.RcNeAt.tuple_bool _ l hu0⟩
  |int j=>subst e;cases r1;cases h2.ints;obtain⟨t2,rfl⟩:=r2;simp[eqD] at h;subst h;exact⟨SeqAt.RcAt.tuple_int _ _ l hu0,PySem.SeqAt.RcNeAt.tuple_int _ _ l hu0⟩
  |str j=>subst e;cases r1;cases h2.strs;obtain⟨t2,rfl⟩:=r2;simp[eqD] at h;subst h;exact⟨SeqAt.RcAt.tuple_str _ _ l hu0,PySem.SeqAt.RcNeAt.tuple_str _ _ l hu0⟩
  |tup ys=>obtain⟨a',i',e',l'⟩:=bx I h2;exact seq e e'
  |ref k=>obtain⟨c,hc,ec⟩:=h2.refs;exact seq e ec
 |ref k=>
  obtain⟨c,hc,ec⟩:=h1.refs;cases y with
  |tup ys=>obtain⟨a',i',e',l'⟩:=bx I h2;exact seq ec e'
  |ref k=>obtain⟨c,hc,ec'⟩:=h2.refs;exact seq ec ec'
  |non=>
   simp only[eqD] at h;cases hs:am S k with
   |none=>rw[hs] at h;cases h
   |some es=>rw[hs] at h;cases h;obtain⟨a,i,e,l⟩:=be I R h1 hs;subst e;cases r1;cases h2.nons;cases r2;exact⟨SeqAt.RcAt.list_none l hu0,PySem.SeqAt.RcNeAt.list_none l hu0⟩
  |bl j=>
   simp only[eqD] at h;cases hs:am S k with
   |none=>rw[hs] at h;cases h
   |some es=>rw[hs] at h;cases h;obtain⟨a,i,e,l⟩:=be I R h1 hs;subst e;cases r1;cases h2.bls;cases r2;exact⟨SeqAt.RcAt.list_bool _ l hu0,PySem.SeqAt.RcNeAt.list_bool _ l hu0⟩
  |int j=>
   simp only[eqD] at h;cases hs:am S k with
   |none=>rw[hs] at h;cases h
   |some es=>rw[hs] at h;cases h;obtain⟨a,i,e,l⟩:=be I R h1 hs;subst e;cases r1;cases h2.ints;obtain⟨t2,rfl⟩:=r2;exact⟨SeqAt.RcAt.list_int _ _ l hu0,PySem.SeqAt.RcNeAt.list_int _ _ l hu0⟩
  |str j=>
   simp only[eqD] at h;cases hs:am S k with
   |none=>rw[hs] at h;cases h
   |some es=>rw[hs] at h;cases h;obtain⟨a,i,e,l⟩:=be I R h1 hs;subst e;cases r1;cases h2.strs;obtain⟨t2,rfl⟩:=r2;exact⟨SeqAt.RcAt.list_str _ _ l hu0,PySem.SeqAt.RcNeAt.list_str _ _ l hu0⟩
abbrev eqS(x y:D)(S:Sto):Option (D × Sto):=(eqD 60 S x y).map λb=>(.bl b,S)
abbrev neS(x y:D)(S:Sto):Option (D × Sto):=(eqD 60 S x y).map λb=>(.bl (!b),S)
theorem l8{x y:D}{S:Sto}{b:Bool}(h:eqD 60 S x y=some b):neS x y S=some (.bl (!b),S):=by unfold neS;rw[h];rfl
theorem Hm(hu:X.A.units+64 < cLine):OpR X (VA .Eq) (rS X.K eqS):=by
 intro pins s σ H x y v u Q I rx ry h;obtain⟨m,S,a,b,d,S',R,va,vb,e,q⟩:=h;unfold eqS at e;cases he:eqD 60 S a b with
 |none=>rw[he] at e;cases e
 |some c=>
  rw[he] at e;cases e;exact(Mb I R 59 va vb rx ry he (by lia)).1 _ _ _ _ ⟨.bl c,H,I,rfl,q m H _ (Aft.refl R) bF⟩
theorem Hn(hu:X.A.units+64 < cLine):OpR X (VA .NotEq) (rS X.K neS):=by
 intro pins s σ H x y v u Q I rx ry h;obtain⟨m,S,a,b,d,S',R,va,vb,e,q⟩:=h;unfold neS at e;cases he:eqD 60 S a b with
 |none=>rw[he] at e;cases e
 |some c=>
  rw[he] at e;cases e;exact(Mb I R 59 va vb rx ry he (by lia)).2 _ _ _ _ ⟨.bl (!c),H,I,rfl,q m H _ (Aft.refl R) bF⟩
end
abbrev dq:List D->Option (List Key)
 |[]=>some []
 |.int i::ds=>(dq ds).map (.inl i::·)
 |.str x::ds=>(dq ds).map (.inr x::·)
 |_=>none
abbrev yt:D->Option NK
 |.non=>some .non
 |.int i=>some (.one (.inl i))
 |.str x=>some (.one (.inr x))
 |.tup ds=>(dq ds).map .tup
 |_=>none
abbrev mF:List D->Option (List NK)
 |[]=>some []
 |d::ds=>match yt d,mF ds with
  |some k,some ks=>some (k::ks)
  |_,_=>none
abbrev lV:D->Option (List NK)
 |.tup ds=>mF ds
 |_=>none
abbrev atD:List (List NK)->List D->List NK->Option D
 |a::kss,d::ds,k=>if a=k then some d else atD kss ds k
 |_,_,_=>none
abbrev e9(k:List NK)(v:D):List (List NK)->List D->List D
 |a::kss,d::ds=>(if a=k then v else d)::e9 k v kss ds
 |_,_=>[]
section
variable {K:W6} {m:List Addr} {H:Hp} {S:Sto}
theorem kc:∀ {ds:List D} {ks:List Key} {vs:List V},dq ds=some ks->VDs K m H ds vs->vs=ks.map kV
 |[],_,_,e,h=>by cases e;rw[VDs] at h;exact h
 |.int i::ds,ks,vs,e,h=>by
  simp only[dq] at e;obtain⟨ks',e',rfl⟩:=ZK.mp e;rw[VDs] at h;obtain⟨v,r,rfl,h1,h2⟩:=h;rw[h1.ints,kc e' h2];rfl
 |.str x::ds,ks,vs,e,h=>by
  simp only[dq] at e;obtain⟨ks',e',rfl⟩:=ZK.mp e;rw[VDs] at h;obtain⟨v,r,rfl,h1,h2⟩:=h;rw[h1.strs,kc e' h2];rfl
 |.non::_,_,_,e,_=>by simp[dq] at e
 |.bl _::_,_,_,e,_=>by simp[dq] at e
 |.tup _::_,_,_,e,_=>by simp[dq] at e
 |.ref _::_,_,_,e,_=>by simp[dq] at e
theorem Ck{d:D}{k:NK}{v:V}(e:yt d=some k)(h:VD K m H d v):vq H k v:=by
 cases d with
 |non=>cases e;exact h.nons
 |int i=>cases e;exact h.ints
 |str x=>cases e;exact h.strs
 |tup ds=>
  simp only[yt] at e;obtain⟨ks,e',rfl⟩:=ZK.mp e;obtain⟨a,vs,rfl,sq,q⟩:=h.tups;exact⟨a,rfl,by rw[<-kc e' q];exact sq⟩
 |_=>cases e
theorem pV:∀ {ds:List D} {ks:List NK} {vs:List V},mF ds=some ks->VDs K m H ds vs->Paired (vq H) ks vs
 |[],_,_,e,h=>by cases e;rw[VDs] at h;subst h;exact .nil
 |d::ds,ks,vs,e,h=>by
  rw[VDs] at h;obtain⟨v,r,rfl,h1,h2⟩:=h;simp only[mF] at e;split at e
  ·rename_i k ks' e1 e2;cases e;exact .cons (Ck e1 h1) (pV e2 h2)
  ·cases e
theorem t8{d:D}{ks:List NK}{v:V}(e:lV d=some ks)(h:VD K m H d v):∃a,v = .ref a/\nr H ks a:=by
 cases d with
 |tup ds=>
  obtain⟨a,vs,rfl,sq,q⟩:=h.tups;exact⟨a,rfl,vs,sq,pV e q⟩
 |_=>cases e
theorem Rel.dic(R:Rel K m S H){n:Nat}{kss:List (List NK)}{ds:List D}{x:V}(hn:S[n]?=some (.dic kss ds))(vx:VD K m H (.ref n) x):∃a vs,x = .ref a/\m[n]?=some a/\H a=some (.dT (kss.zip vs))/\kss.length=ds.length/\VDs K m H ds vs:=by
 obtain⟨a,ha,vs,h1,h2,h3⟩:=R.ob n _ hn;obtain⟨a',ha',rfl⟩:=vx.refs;rw[ha] at ha';cases ha';exact⟨a,vs,rfl,ha,h1,h2,h3⟩
theorem nU:∀ {kss:List (List NK)} {ds:List D} {vs:List V} {k:List NK},kss.length=ds.length->VDs K m H ds vs->atD kss ds k=none->iC (kss.zip vs) k=none/\k ∉ kss
 |[],_,_,_,_,_,_=>⟨rfl,by simp⟩
 |a::kss,d::ds,vs,k,hl,h,e=>by
  rw[VDs] at h;obtain⟨v,r,rfl,h1,h2⟩:=h;simp only[atD] at e;split at e
  ·cases e
  ·rename_i ne;obtain⟨i1,i2⟩:=nU (by simpa using hl) h2 e;refine⟨?_,λz=>(Zn.mp z).elim (λz=>ne z.symm) i2⟩;rw[Z2,eY ne];exact i1
 |_::_,[],_,_,hl,_,_=>by simp at hl
theorem jz:∀ {kss:List (List NK)} {ds:List D} {vs:List V} {k:List NK} {d:D},VDs K m H ds vs->atD kss ds k=some d->∃v,iC (kss.zip vs) k=some v/\VD K m H d v
 |[],_,_,_,_,_,e=>by simp[atD] at e
 |a::kss,d::ds,vs,k,d',h,e=>by
  rw[VDs] at h;obtain⟨v,r,rfl,h1,h2⟩:=h;simp only[atD] at e;rw[Z2];split at e
  ·rename_i eq;cases e;exact⟨v,gZ eq,h1⟩
  ·rename_i ne;rw[eY ne];exact jz h2 e
 |_::_,[],_,_,_,_,e=>by simp[atD] at e
abbrev inK(neg:Bool)(x y:D)(S:Sto):Option (D × Sto):=match lV x,y with
 | some k,.ref n=>(match S[n]? with
  |some (.dic kss ds)=>some (.bl (neg != (atD kss ds k).isSome),S)
  | _=>none)
 |_,_=>none
theorem pW{neg:Bool}{x y d:D}{S':Sto}(e:inK neg x y S=some (d,S')):∃k n kss ds,lV x=some k/\y = .ref n/\S[n]?=some (.dic kss ds)/\d = .bl (neg != (atD kss ds k).isSome)/\S'=S:=by
 unfold inK at e;split at e
 ·rename_i k n hk;split at e
  ·rename_i kss ds hn;cases e;exact⟨k,n,kss,ds,hk,rfl,hn,rfl,rfl⟩
  ·cases e
 ·cases e
theorem nV(R:Rel K m S H){n:Nat}{kss:List (List NK)}{ds:List D}{x y:D}{k:List NK}{u v:V}(hk:lV x=some k)(hn:S[n]?=some (.dic kss ds))(vx:VD K m H x u)(vy:VD K m H (.ref n) v):∃a b,v = .ref a/\u = .ref b/\∃o,ya H a (.ref b) o/\o.isSome=(atD kss ds k).isSome/\∀d,atD kss ds k=some d->∃w,o=some w/\VD K m H d w:=by
 obtain⟨b,rfl,kb⟩:=t8 hk vx;obtain⟨a,vs,rfl,_,hH,hl,vds⟩:=R.dic hn vy;refine⟨a,b,rfl,rfl,iC (kss.zip vs) k,.inr ⟨_,k,b,.inl hH,rfl,kb,rfl⟩,?_,λd e=>?_⟩
 ·cases e:atD kss ds k with
  |none=>rw[(nU hl vds e).1];rfl
  |some d=>obtain⟨w,e',_⟩:=jz vds e;rw[e'];rfl
 ·obtain⟨w,e',vw⟩:=jz vds e;exact⟨w,e',vw⟩
abbrev ixK(d y:D)(S:Sto):Option (D × Sto):=match lV y,d with
 | some k,.ref n=>(match S[n]? with
  |some (.dic kss ds)=>(atD kss ds k).map λv=>(v,S)
  | _=>none)
 |_,_=>none
theorem yu{x y d:D}{S':Sto}(e:ixK x y S=some (d,S')):∃k n kss ds,lV y=some k/\x = .ref n/\S[n]?=some (.dic kss ds)/\atD kss ds k=some d/\S'=S:=by
 unfold ixK at e;split at e
 ·rename_i k n hk;split at e
  ·rename_i kss ds hn;obtain⟨v,e1,e2⟩:=ZK.mp e;cases e2;exact⟨k,n,kss,ds,hk,rfl,hn,e1,rfl⟩
  ·cases e
 ·cases e
abbrev yv(o y v:D)(S:Sto):Option Sto:=match lV y,o with
 | some k,.ref n=>(match S[n]? with
  |some (.dic kss ds)=>if kss.length < 100000 then some (if (atD kss ds k).isSome=true then S.set n (.dic kss (e9 k v kss ds)) else S.set n (.dic (kss++[k]) (ds++[v]))) else none
  | _=>none)
 |_,_=>none
theorem vW{o y v:D}{S':Sto}(e:yv o y v S=some S'):∃k n kss ds,lV y=some k/\o = .ref n/\S[n]?=some (.dic kss ds)/\kss.length < 100000/\S'=if (atD kss ds k).isSome=true then S.set n (.dic kss (e9 k v kss ds)) else S.set n (.dic (kss++[k]) (ds++[v])):=by
 unfold yv at e;split at e
 ·rename_i k n hk;split at e
  ·rename_i kss ds hn;split at e
   ·rename_i hl;exact⟨k,n,kss,ds,hk,rfl,hn,hl,(Option.some.inj e).symm⟩
   ·cases e
  ·cases e
 ·cases e
theorem yw{k:List NK}{v:D}{w:V}(vw:VD K m H v w):∀ {kss:List (List NK)} {ds:List D} {vs:List V},kss.length=ds.length->VDs K m H ds vs->∃ws,(kss.zip vs).map (λkv=>if kv.1=k then (kv.1,w) else kv)=kss.zip ws/\VDs K m H (e9 k v kss ds) ws
 |[],[],vs,_,h=>⟨[],by simp,by simp only[e9];rw[VDs]⟩
 |[],_::_,_,hl,_=>by simp at hl
 |_::_,[],_,hl,_=>by simp at hl
 |a::kss,d::ds,vs,hl,h=>by
  rw[VDs] at h;obtain⟨u,r,rfl,h1,h2⟩:=h;obtain⟨ws,e1,e2⟩:=yw vw (by simpa using hl) h2;rw[Z2,Zz,e1];simp only[e9];by_cases e:a=k
  ·rw[if_pos e,if_pos e];exact⟨w::ws,by rw[Z2],.cons vw e2⟩
  ·rw[if_neg e,if_neg e];exact⟨u::ws,by rw[Z2],.cons h1 e2⟩
theorem nW{k:List NK}{v:D}:∀ {kss:List (List NK)} {ds:List D},kss.length=ds.length->kss.length=(e9 k v kss ds).length
 |[],[],_=>rfl
 |[],_::_,hl=>by simp at hl
 |_::_,[],hl=>by simp at hl
 |a::kss,d::ds,hl=>by simp only[e9,Zr];rw[nW (by simpa using hl)]
theorem Rel.writeD(R:Rel K m S H){i:Nat}{a:Addr}{kss:List (List NK)}{ds:List D}{vs:List V}(hi:m[i]?=some a)(hl:kss.length=ds.length)(q:VDs K m H ds vs):Aft K m H (S.set i (.dic kss ds)) m (upd H a (.dT (kss.zip vs))):=by
 have hm:a ∈ m:=Zi hi;have x:Ext m H m (upd H a (.dT (kss.zip vs))):=⟨Yd m,λb u e n=>by rw[av (show b ≠ a fromλz=>n (by rw[z];exact hm))];exact e,λb z n=>absurd z n⟩;refine⟨x,by simp[R.len],R.nd,λj o e=>?_⟩;rw[Yq] at e;by_cases hj:i=j
 ·subst hj;rw[if_pos rfl] at e;split at e
  ·have e':=Option.some.inj e;subst e';exact⟨a,hi,vs,a7,hl,VDs.mono R x q⟩
  ·cases e
 ·rw[if_neg hj] at e;obtain⟨b,hb,r⟩:=R.ob j o e
  have ne:b ≠ a:=λz=>by
   subst z;have h1:=Zb.mp hi;have h2:=Zb.mp hb;exact hj ((YS R.nd).mp (h1.2.trans h2.2.symm))
  refine⟨b,hb,?_⟩;cases o with
  |lst es=>obtain⟨ws,p,q⟩:=r;exact⟨ws,by rw[av ne];exact p,VDs.mono R x q⟩
  |frz es=>obtain⟨o,ws,p,q⟩:=r;exact⟨o,ws,by rw[av ne];exact p,VDs.mono R x q⟩
  |dic ks es=>obtain⟨ws,p,l,q⟩:=r;exact⟨ws,by rw[av ne];exact p,l,VDs.mono R x q⟩
theorem Cm(R:Rel K m S H){n:Nat}{kss:List (List NK)}{ds:List D}{y v:D}{k:List NK}{u o w:V}(hk:lV y=some k)(hn:S[n]?=some (.dic kss ds))(h5:kss.length < 100000)(vy:VD K m H y u)(vo:VD K m H (.ref n) o)(vw:VD K m H v w) :
  ∃a b H',o = .ref a/\u = .ref b/\L9 H a (.ref b) w H'/\Aft K m H (if (atD kss ds k).isSome=true then S.set n (.dic kss (e9 k v kss ds)) else S.set n (.dic (kss++[k]) (ds++[v]))) m H':=by
 obtain⟨b,rfl,kb⟩:=t8 hk vy;obtain⟨a,vs,rfl,ha,hH,hl,vds⟩:=R.dic hn vo;have hlv:kss.length=vs.length:=by rw[hl,vds.length]
 have hz:(kss.zip vs).length < sizeLine:=by rw[List.length_zip,V4];lia
 refine⟨a,b,_,rfl,rfl,.inr ⟨_,k,b,hH,rfl,kb,hz,rfl⟩,?_⟩
 have any:((kss.zip vs).any λkv=>decide (kv.1=k))=(atD kss ds k).isSome:=by
  rw[jZ];cases e:atD kss ds k with
  |none=>rw[(nU hl vds e).1];rfl
  |some d=>obtain⟨w,e',_⟩:=jz vds e;rw[e'];rfl
 unfold jY;rw[any];by_cases c:(atD kss ds k).isSome=true
 ·rw[if_pos c,if_pos c];obtain⟨ws,e1,e2⟩:=yw vw hl vds;rw[e1];exact R.writeD ha (nW hl) e2
 ·rw[if_neg c,if_neg c];have e:kss.zip vs++[(k,w)]=(kss++[k]).zip (vs++[w]):=by rw[List.zip_append hlv];rfl
  rw[e];exact R.writeD ha (by rw[Zg,Zg,hl];rfl) (vds.append (.cons vw .nil))
end
abbrev Ho(a b:Nat)(S:Sto):Option (D × Sto):=match S[a]? with
 | some (.lst xs)=>(match S[b]? with
  |some (.lst ys)=>if xs.length+ys.length<=100000 then some (.ref S.length,S++[.lst (xs++ys)]) else none
  | _=>none)
 |_=>none
abbrev jv:D->D->Sto->Option (D × Sto)
 |.int i,.int j,S=>some (.int (i+j),S)
 |.tup xs,.tup ys,S=>if xs.length+ys.length<=1000 then some (.tup (xs++ys),S) else none
 |.ref a,.ref b,S=>Ho a b S
 |.str x,.str y,S=>if x.length+y.length<=100000 then some (.str (x++y),S) else none
 |_,_,_=>none
abbrev Mc:D->D->Sto->Option (D × Sto)
 |.int i,.int j,S=>some (.int (i - j),S)
 |_,_,_=>none
abbrev fb(i j:Int):Bool:=(decide (-(2 ^ 64) < i) && decide (i < 2 ^ 64)) || (decide (-(2 ^ 64) < j) && decide (j < 2 ^ 64))
abbrev pX:D->D->Sto->Option (D × Sto)
 |.int i,.int j,S=>if fb i j=true then some (.int (i * j),S) else none
 | .ref n,.int k,S=>(match S[n]? with
  |some (.lst xs)=>if 0<=k/\xs.length * k.toNat<=1000/\k<=1000 then some (.ref S.length,S++[.lst (Zu k.toNat xs).flatten]) else none
  | _=>none)
 |_,_,_=>none
abbrev Hq:D->D->Sto->Option (D × Sto)
 |.int i,.int j,S=>if 0 < j then some (.int (i % j),S) else none
 |_,_,_=>none
abbrev yx:D->D->Sto->Option (D × Sto)
 |.int i,.int j,S=>if 0 < j/\j < 1298074214633706907132624082305024 then some (.int (i / j),S) else none
 |_,_,_=>none
abbrev Hr:D->D->Sto->Option (D × Sto)
 |.int i,.int j,S=>if 0<=j/\j<=1000000/\i.natAbs < 2 ^ 64 then some (.int (i ^ j.toNat),S) else none
 |_,_,_=>none
inductive BOp where |add |sub |mul |mod |fdiv |pow
abbrev bJ:BOp->D->D->Sto->Option (D × Sto)
 |.add=>jv |.sub=>Mc |.mul=>pX |.mod=>Hq |.fdiv=>yx |.pow=>Hr
abbrev BOp.op:BOp->WR
 |.add=>.Add |.sub=>.Sub |.mul=>.Mult |.mod=>.Mod |.fdiv=>.FloorDiv |.pow=>.Pow
section
variable {X:Cx} {K:W6} {m:List Addr} {H:Hp} {S:Sto}
theorem fM{op:WR}{f:D->D->Sto->Option (D × Sto)}{C:Int->Int->Prop}{g:Int->Int->Int}(ho:OpR X (Vr op) (rI C λi j=>.int (g i j)))
  (hf:∀a b S d S',f a b S=some (d,S')->∃i j,a = .int i/\b = .int j/\C i j/\d = .int (g i j)/\S'=S):OpR X (Vr op) (rS X.K f):=by
 refine OpR.imp ho λx y H Q h=>?_;obtain⟨m,S,a,b,d,S',R,va,vb,e,q⟩:=h;obtain⟨i,j,rfl,rfl,c,rfl,rfl⟩:=hf _ _ _ _ _ e;exact⟨i,j,va.ints,vb.ints,c,q m H _ (Aft.refl R) a9⟩
theorem rN:OpR X (Vr .Add) (λx y H Q=>∃m S xs ys,Rel X.K m S H/\VD X.K m H (.tup xs) x/\VD X.K m H (.tup ys) y/\xs.length+ys.length<=1000/\∀m' H' u,Aft X.K m H S m' H'->VD X.K m' H' (.tup (xs++ys)) u->Q u H'):=by
 refine OpR.imp B8 λx y H Q h=>?_;obtain⟨m,S,xs,ys,R,va,vb,hl,q⟩:=h;obtain⟨a,vs,rfl,sa,da⟩:=va.tups;obtain⟨b,ws,rfl,sb,db⟩:=vb.tups;have l1:=da.length;have l2:=db.length;refine⟨a,b,vs,ws,rfl,rfl,.of sa,.of sb,ka (by lia),λe=>?_,λ_ e=>?_,λ_ _=>g8 R (da.append db) q⟩
 ·subst e;have e:xs=[]:=Z3.mp (by simpa using l1);subst e;exact q m H _ (Aft.refl R) vb
 ·subst e;have e:ys=[]:=Z3.mp (by simpa using l2);subst e;rw[Z9] at q;exact q m H _ (Aft.refl R) va
theorem Cn:OpR X (Vr .Add) (rS X.K jv):=by
 refine OpR.imp (OpR.or GL (OpR.or rN (OpR.or rm G4))) λx y H Q h=>?_;obtain⟨m,S,a,b,d,S',R,va,vb,e,q⟩:=h;cases a with
 |int i=>
  cases b with
  |int j=>cases e;exact .inl ⟨i,j,va.ints,vb.ints,q m H _ (Aft.refl R) a9⟩
  |_=>simp[jv] at e
 |tup xs=>
  cases b with
  |tup ys=>
   simp only[jv] at e;split at e
   ·rename_i hl;cases e;exact .inr (.inl ⟨m,S,xs,ys,R,va,vb,hl,q⟩)
   ·cases e
  |_=>simp[jv] at e
 |str i=>
  cases b with
  |str j=>
   simp only[jv] at e;split at e
   ·rename_i hl;cases e;exact .inr (.inr (.inl ⟨i,j,va.strs,vb.strs,by rw[V4];lia,q m H _ (Aft.refl R) nP⟩))
   ·cases e
  |_=>simp[jv] at e
 |ref i=>
  cases b with
  |ref j=>
   simp only[jv,Ho] at e;split at e
   ·rename_i xs hx;split at e
    ·rename_i ys hy;split at e
     ·rename_i hl;cases e;obtain⟨a,vs,ha,hH,q1⟩:=R.lst hx;obtain⟨c,ws,hc,hG,q2⟩:=R.lst hy;obtain⟨a',ha',e1⟩:=va.refs;obtain⟨c',hc',e2⟩:=vb.refs;rw[ha] at ha';cases ha';rw[hc] at hc';cases hc';exact .inr (.inr (.inr ⟨a,c,vs,ws,e1,e2,hH,hG,by rw[V4,<-q1.length,<-q2.length];lia,jy R (q1.append q2) q⟩))
     ·cases e
    ·cases e
   ·cases e
  |_=>simp[jv] at e
 |_=>cases b <;> simp[jv] at e
theorem t9(h:VDs K m H ds vs):∀n:Nat,VDs K m H (Zu n ds).flatten (Zu n vs).flatten
 |0=>by rw[Xw,Xw,XU,XU,VDs]
 |n+1=>by rw[Z8,Z8,Yo,Yo];exact h.append (t9 h n)
theorem Co:OpR X (Vr .Mult) (rS X.K pX):=by
 refine OpR.imp (OpR.or G5 GN) λx y H Q h=>?_;obtain⟨m,S,a,b,d,S',R,va,vb,e,q⟩:=h;cases a with
 |int i=>
  cases b with
  |int j=>
   simp only[pX] at e;split at e
   ·rename_i hc;cases e;simp only[fb,YH,bAE,decide_eq_true_eq] at hc;exact .inr ⟨i,j,va.ints,vb.ints,hc,q m H _ (Aft.refl R) a9⟩
   ·cases e
  |_=>simp[pX] at e
 |ref n=>
  cases b with
  |int k=>
   simp only[pX] at e;split at e
   ·rename_i xs hx;split at e
    ·rename_i hc;cases e;obtain⟨l,vs,hl,hH,vd⟩:=R.lst hx;obtain⟨l',hl',e1⟩:=va.refs;rw[hl] at hl';cases hl';exact .inl ⟨l,k,vs,e1,vb.ints,hH,by lia,by lia,by rw[V4,<-vd.length];lia,jy R (t9 vd k.toNat) q⟩
    ·cases e
   ·cases e
  |_=>simp[pX] at e
 |_=>cases b <;> simp[pX] at e
theorem yy:OpR X (Vr .FloorDiv) (rI (λ_ j=>0 < j/\j < 1298074214633706907132624082305024) λi j=>.int (i / j)):=opI λi j _ _ _ _ _ hc q=>by
 have h1:(0:Int) < j:=hc.1;have h2:j < 1298074214633706907132624082305024:=hc.2
 exact floordiv_int (by lia) (by rw[Int.fdiv_eq_ediv_of_nonneg i (by lia)];exact q) (.inl (PyProof.noPylong_of_log2 (by
  have h0:j.natAbs ≠ 0:=by lia
  have:j.natAbs.log2 < 110:=(Wh h0).mpr (by lia)
  lia)))
theorem Cp(o:BOp):OpR X (Vr o.op) (rS X.K (bJ o)):=by
 cases o with
 |add=>exact Cn
 |sub=>
  refine fM (C:=λ_ _=>True) (g:=λi j=>i - j) (OpR.imp GM λx y H Q ⟨i,j,a,b,_,q⟩=>⟨i,j,a,b,q⟩) λa b S d S' e=>?_;cases a <;> cases b <;> simp[bJ,Mc] at e;exact⟨_,_,rfl,rfl,trivial,e.1.symm,e.2.symm⟩
 |mul=>exact Co
 |mod=>
  refine fM GO λa b S d S' e=>?_;cases a <;> cases b <;> simp[bJ,Hq] at e;rename_i i j;exact⟨i,j,rfl,rfl,e.1,e.2.1.symm,e.2.2.symm⟩
 |fdiv=>
  refine fM yy λa b S d S' e=>?_;cases a <;> cases b <;> simp[bJ,yx] at e;rename_i i j;exact⟨i,j,rfl,rfl,e.1,e.2.1.symm,e.2.2.symm⟩
 |pow=>
  refine fM GP λa b S d S' e=>?_;cases a <;> cases b <;> simp[bJ,Hr] at e;rename_i i j;exact⟨i,j,rfl,rfl,e.1,e.2.1.symm,e.2.2.symm⟩
abbrev vX(p:Int->Int->Bool):D->D->Sto->Option (D × Sto)
 |.int i,.int j,S=>some (.bl (p i j),S)
 |_,_,_=>none
abbrev FF:D->Bool
 |.non=>true
 |_=>false
abbrev isB(neg:Bool):D->D->Sto->Option (D × Sto)
 |d,.non,S=>some (.bl (neg != FF d),S)
 |.bl a,.bl b,S=>some (.bl (neg != (a == b)),S)
 |_,_,_=>none
abbrev cf:D->Bool
 |.non=>true |.bl _=>true |.int _=>true |.str _=>true |_=>false
abbrev eqF:D->D->Bool
 |.non,.non=>true
 |.bl a,.bl b=>a == b
 |.bl a,.int b=>(if a then 1 else 0) == b
 |.int a,.bl b=>a == (if b then 1 else 0)
 |.int a,.int b=>a == b
 |.str a,.str b=>a == b
 |_,_=>false
abbrev inF(x:D)(ds:List D):Bool:=ds.any λy=>eqF y x
abbrev inD(x:D)(ds:List D)(S:Sto):Option Bool:=if (ds.all λy=>(eqD 58 S y x).isSome)=true then some (ds.any λy=>eqD 58 S y x == some true) else none
abbrev inS(neg:Bool)(x y:D)(S:Sto):Option (D × Sto):=match ay y S with
 |some (_,ds)=>if cf x=true/\ds.all cf=true then some (.bl (neg != inF x ds),S) else (inD x ds S).map λb=>(.bl (neg != b),S)
 |none=>inK neg x y S
inductive COp where |eq |ne |lt |le |gt |ge |is |isnot |isin |notin
abbrev aj:COp->D->D->Sto->Option (D × Sto)
 |.eq=>eqS |.ne=>neS
 |.lt=>vX λi j=>decide (i < j) |.le=>vX λi j=>decide (i<=j) |.gt=>vX λi j=>decide (j < i) |.ge=>vX λi j=>decide (j<=i)
 |.is=>isB false |.isnot=>isB true |.isin=>inS false |.notin=>inS true
abbrev COp.op:COp->CmpOp
 |.eq=>.Eq |.ne=>.NotEq |.lt=>.Lt |.le=>.LtE |.gt=>.Gt |.ge=>.GtE |.is=>.Is |.isnot=>.IsNot |.isin=>.In |.notin=>.NotIn
theorem dH(ho:OpR X (VA op) (rI0 λi j=>.bl (p i j))):OpR X (VA op) (rS X.K (vX p)):=by
 refine OpR.imp ho λx y H Q h=>?_;obtain⟨m,S,a,b,d,S',R,va,vb,e,q⟩:=h;cases a <;> cases b <;> simp[vX] at e;obtain⟨rfl,rfl⟩:=e;exact⟨_,_,va.ints,vb.ints,q m H _ (Aft.refl R) bF⟩
theorem jA(h:VD K m H x v)(f:cf x=true):dk v=true:=by
 cases x <;> simp[cf] at f
 ·cases h.nons;rfl
 ·cases h.bls;rfl
 ·cases h.ints;rfl
 ·cases h.strs;rfl
theorem yz(h:VD K m H x v)(f:cf x=true)(h':VD K m H y w)(f':cf y=true):eqV v w=eqF x y:=by
 cases x <;> simp[cf] at f <;> cases y <;> simp[cf] at f' <;> simp[VD] at h h' <;> subst h <;> subst h' <;> rfl
theorem g9:∀ {ds:List D} {vs:List V},VDs K m H ds vs->ds.all cf=true->vs.all dk=true
 |[],vs,h,_=>by rw[VDs] at h;rw[h];rfl
 |d::ds,vs,h,f=>by
  rw[VDs] at h;obtain⟨x,r,rfl,p,q⟩:=h;rw[Yh,bAE] at f;rw[Yh,jA p f.1,g9 q f.2];rfl
theorem rO(h:VD K m H x v)(f:cf x=true):∀ {ds:List D} {vs:List V},VDs K m H ds vs->ds.all cf=true->inV v vs=inF x ds
 |[],vs,h,_=>by rw[VDs] at h;rw[h];rfl
 |d::ds,vs,h',f'=>by
  rw[VDs] at h';obtain⟨y,r,rfl,p,q⟩:=h';rw[Yh,bAE] at f';have ih:=rO h f q f'.2;unfold inV inF at ih ⊢;rw[YA,YA,yz p f'.1 h f,ih]
theorem mG(h:VD K m H x v)(f:cf x=true):∀ {ds:List D} {vs:List V},VDs K m H ds vs->ds.all cf=true->(vs.countP λz=>eqV z v)=ds.countP λz=>eqF z x
 |[],vs,h,_=>by rw[VDs] at h;rw[h];rfl
 |d::ds,vs,h',f'=>by
  rw[VDs] at h';obtain⟨y,r,rfl,p,q⟩:=h';rw[Yh,bAE] at f';rw[YU,YU,yz p f'.1 h f,mG h f q f'.2]
theorem iI(h:SqB K tu H a vs):SqL K H a vs\/SqT K H a vs:=by
 cases tu with
 |false=>exact .inl h
 |true=>exact .inr (.of h)
theorem nX(I:Inv X pins σ H s)(R:Rel X.K m S H)(vx:VD X.K m H x v)(rx:az v u)(hu:A.units+58 < cLine)(vd:VDs X.K m H ds vs)(r:aH vs its)(h:inD x ds S=some b) :
  ∃e:Value->Bool,(∀w ∈ its,WY A s w u (e w))/\its.any e=b:=by
 unfold inD at h;split at h
 ·rename_i hs;cases h;rw[Yi] at hs
  have at_:∀ (i:Nat) w,its[i]?=some w->∃y v',ds[i]?=some y/\VD X.K m H y v'/\az v' w:=λi w hw=>by
   have hi:=(Zb.mp hw).1;obtain⟨y,v',e1,e2,e3⟩:=nS vd r (j:=i) (by simpa using hi);refine⟨y,v',e1,e2,?_⟩
   have:its.toArray[i]=w:=by
    have:=(Zb.mp hw).2
    simpa using this
   rw[<-this];exact e3
  refine⟨λw=>@decide (∃ (i:Nat) (y:D),ds[i]?=some y/\its[i]?=some w/\eqD 58 S y x=some true) (Classical.propDecidable _),λw hw=>?_,?_⟩
  ·obtain⟨i,hi⟩:=Xs hw;dsimp only;by_cases hq:∃ (i:Nat) (y:D),ds[i]?=some y/\its[i]?=some w/\eqD 58 S y x=some true
   ·rw[@decide_eq_true _ (Classical.propDecidable _) hq];obtain⟨j,y,e1,e2,e3⟩:=hq;obtain⟨y',v',f1,f2,f3⟩:=at_ j w e2;rw[e1] at f1;cases f1;exact nT I R 58 A y x v' v w u true f2 vx f3 rx e3 hu
   ·rw[@decide_eq_false _ (Classical.propDecidable _) hq];obtain⟨y,v',f1,f2,f3⟩:=at_ i w hi;obtain⟨c,hc⟩:=Z0.mp (hs y (Zi f1));cases c with
    |true=>exact absurd ⟨i,y,f1,hi,hc⟩ hq
    |false=>exact nT I R 58 A y x v' v w u false f2 vx f3 rx hc hu
  ·rw[YZ,Xe,Xe];constructor
   ·rintro⟨w,_,hw⟩;obtain⟨i,y,e1,_,e3⟩:=@of_decide_eq_true _ (Classical.propDecidable _) hw;exact⟨y,Zi e1,by rw[e3];rfl⟩
   ·rintro⟨y,hy,e⟩;obtain⟨i,hi⟩:=Xs hy;obtain⟨v',hv,_⟩:=vd.get hi;obtain⟨w,hw,_⟩:=r.get hv;exact⟨w,Zi hw,@decide_eq_true _ (Classical.propDecidable _) ⟨i,y,hi,hw,by simpa using e⟩⟩
 ·cases h
theorem Hs(hu:X.A.units+64 < cLine):OpR X (VA .In) (rS X.K (inS false)):=by
 intro pins s σ H x y v u Q I rx ry h;obtain⟨m,S,a,b,d,S',R,va,vb,e,q⟩:=h;unfold inS at e;split at e
 ·rename_i tu ds hi;obtain⟨p,vs,rfl,sq,vds⟩:=e8 R vb hi;split at e
  ·rename_i hf;cases e;refine vJ pins s σ H x _ v u Q I rx ry ⟨p,vs,rfl,iI sq,jA va hf.1,g9 vds hf.2,q m H _ (Aft.refl R) ?_⟩;rw[if_neg (by decide),rO va hf.1 vds hf.2]
   simpa using bF
  ·cases hd:inD a ds S with
   |none=>rw[hd] at e;cases e
   |some c=>
    rw[hd] at e;cases e;cases ry;have ha:X.A.in1.units+58 < cLine:=by show X.A.units+1+58 < cLine;lia
    rcases iI sq with hq |hq
    ·obtain⟨its,r,pl,hz⟩:=I.list hq;obtain⟨e,he,hb⟩:=nX I R va rx ha vds r hd;refine W1 e pl.isList (λw hw=>he w (by simpa using hw)) ⟨.bl _,H,I,rfl,?_⟩;rw[show its.toArray.any e=its.any e by simp,hb];exact q m H _ (Aft.refl R) (by simpa using bF)
    ·obtain⟨its,r,pl,hz⟩:=I.tuple hq;obtain⟨e,he,hb⟩:=nX I R va rx ha vds r hd;refine W2 e pl (λw hw=>he w (by simpa using hw)) ⟨.bl _,H,I,rfl,?_⟩;rw[show its.toArray.any e=its.any e by simp,hb];exact q m H _ (Aft.refl R) (by simpa using bF)
 ·obtain⟨k,n,kss,ds,hk,rfl,hn,rfl,rfl⟩:=pW e;obtain⟨a,b,rfl,rfl,o,g,ho,_⟩:=nV (y:=.ref n) R hk hn va vb;cases ry;refine OM (show X.A.units+2 < cLine by lia) I g rx λs' I'=>⟨.bl _,H,I',rfl,?_⟩;rw[ho];exact q m H _ (Aft.refl R) (by simpa using bF)
theorem vY(hu:X.A.units+64 < cLine):OpR X (VA .NotIn) (rS X.K (inS true)):=by
 intro pins s σ H x y v u Q I rx ry h;obtain⟨m,S,a,b,d,S',R,va,vb,e,q⟩:=h;unfold inS at e;split at e
 ·rename_i tu ds hi;obtain⟨p,vs,rfl,sq,vds⟩:=e8 R vb hi;split at e
  ·rename_i hf;cases e;refine nB pins s σ H x _ v u Q I rx ry ⟨p,vs,rfl,iI sq,jA va hf.1,g9 vds hf.2,q m H _ (Aft.refl R) ?_⟩;rw[if_pos rfl,rO va hf.1 vds hf.2]
   simpa using bF
  ·cases hd:inD a ds S with
   |none=>rw[hd] at e;cases e
   |some c=>
    rw[hd] at e;cases e;cases ry;have ha:X.A.in1.units+58 < cLine:=by show X.A.units+1+58 < cLine;lia
    rcases iI sq with hq |hq
    ·obtain⟨its,r,pl,hz⟩:=I.list hq;obtain⟨e,he,hb⟩:=nX I R va rx ha vds r hd;refine W3 e pl.isList (λw hw=>he w (by simpa using hw)) ⟨.bl _,H,I,rfl,?_⟩;rw[show its.toArray.any e=its.any e by simp,hb];exact q m H _ (Aft.refl R) (by simpa using bF)
    ·obtain⟨its,r,pl,hz⟩:=I.tuple hq;obtain⟨e,he,hb⟩:=nX I R va rx ha vds r hd;refine W4 e pl (λw hw=>he w (by simpa using hw)) ⟨.bl _,H,I,rfl,?_⟩;rw[show its.toArray.any e=its.any e by simp,hb];exact q m H _ (Aft.refl R) (by simpa using bF)
 ·obtain⟨k,n,kss,ds,hk,rfl,hn,rfl,rfl⟩:=pW e;obtain⟨a,b,rfl,rfl,o,g,ho,_⟩:=nV (y:=.ref n) R hk hn va vb;cases ry;refine Ca (show X.A.units+2 < cLine by lia) I g rx λs' I'=>⟨.bl _,H,I',rfl,?_⟩;rw[ho];exact q m H _ (Aft.refl R) (by simpa using bF)
theorem yA(h:VD K m H d v):decide (v=V.non)=FF d:=by
 cases d with
 |non=>cases h.nons;rfl
 |bl _=>cases h.bls;rfl
 |int _=>cases h.ints;rfl
 |str _=>cases h.strs;rfl
 |tup _=>obtain⟨_,_,e,_⟩:=h.tups;subst e;rfl
 |ref _=>obtain⟨_,_,e⟩:=h.refs;subst e;rfl
theorem Ht:OpR X (VA .Is) (rS X.K (isB false)):=by
 refine OpR.imp (OpR.or GQ G7) λx y H Q h=>?_;obtain⟨m,S,a,b,d,S',R,va,vb,e,q⟩:=h;cases b with
 |non=>
  simp[isB] at e;obtain⟨rfl,rfl⟩:=e;exact .inl ⟨vb.nons,q m H _ (Aft.refl R) (by rw[yA va];exact bF)⟩
 |bl j=>
  cases a with
  |bl i=>
   simp[isB] at e;obtain⟨rfl,rfl⟩:=e;exact .inr ⟨i,j,va.bls,vb.bls,q m H _ (Aft.refl R) bF⟩
  |_=>simp[isB] at e
 |_=>cases a <;> simp[isB] at e
theorem vZ:OpR X (VA .IsNot) (rS X.K (isB true)):=by
 refine OpR.imp (OpR.or BL vP) λx y H Q h=>?_;obtain⟨m,S,a,b,d,S',R,va,vb,e,q⟩:=h;cases b with
 |non=>
  simp[isB] at e;obtain⟨rfl,rfl⟩:=e;exact .inl ⟨vb.nons,q m H _ (Aft.refl R) (by rw[yA va];exact bF)⟩
 |bl j=>
  cases a with
  |bl i=>
   simp[isB] at e;obtain⟨rfl,rfl⟩:=e;exact .inr ⟨i,j,va.bls,vb.bls,q m H _ (Aft.refl R) (by simpa[bne] using bF)⟩
  |_=>simp[isB] at e
 |_=>cases a <;> simp[isB] at e
theorem fN(hu:X.A.units+64 < cLine)(o:COp):OpR X (VA o.op) (rS X.K (aj o)):=by
 cases o with
 |eq=>exact Hm hu
 |ne=>exact Hn hu
 |lt=>exact dH LP
 |le=>exact dH LQ
 |gt=>exact dH LR
 |ge=>exact dH LS
 |is=>exact Ht
 |isnot=>exact vZ
 |isin=>exact Hs hu
 |notin=>exact vY hu
end
section
variable {X:Cx} {K:W6} {m:List Addr} {H:Hp} {S:Sto}
abbrev ixS(d i:D)(S:Sto):Option (D × Sto):=match i with
 | .int k=>(match d with
  |.str z=>if z.length<=100000 then (atI z.cps.toList k).map λc=>(.str ⟨#[c]⟩,S) else none
  | d=>(match ay d S with
   |some (_,ds)=>(atI ds k).map λx=>(x,S)
   | none=>none))
 |i=>ixK d i S
theorem Hu{k:Int}(h:VDs K m H ds vs)(e:atI ds k=some d):∃v,atI vs k=some v/\VD K m H d v:=by
 unfold atI at e ⊢;rw[<-h.length];cases hi:ixN ds.length k with
 |none=>rw[hi] at e;cases e
 |some j=>
  rw[hi] at e;exact h.get e
theorem yB{k:Int}(sq:SqB K tu H a vs)(vd:VDs K m H ds vs)(e:atI ds k=some d)(q:∀v,VD K m H d v->Q v H):rIx K (.ref a) (.int k) H Q:=by
 obtain⟨v,ev,vv⟩:=Hu vd e;cases tu with
 |false=>exact .inl ⟨a,vs,k,v,rfl,rfl,sq,ev,q v vv⟩
 |true=>exact .inr (.inl ⟨a,vs,k,v,rfl,rfl,.of sq,ev,q v vv⟩)
theorem OO(hu:X.A.units+64 < cLine):IxR X (rS X.K ixS):=by
 intro value slice pins s σ H x y v u Q I rx ry h hs;obtain⟨m,S,a,b,d,S',R,va,vb,e,q⟩:=h
 have dict:ixK a b S=some (d,S')->wpAny (model X.prog X.w) X.A (subscriptTail value slice v u) (EP X pins σ Q) X.xe s:=λe=>by
  obtain⟨k,n,kss,ds,hk,rfl,hn,hd,rfl⟩:=yu e;obtain⟨a',b',rfl,rfl,o,g,ho,hv⟩:=nV (y:=.ref n) R hk hn vb va;obtain⟨w,rfl,vw⟩:=hv d hd;cases rx;cases ry;exact tail_any (pF I g) PySem.F.slot_dict_getitem.lookup (vQ (show X.A.units+2 < cLine by lia) I g rfl λw' s' I' rw'=>⟨w,H,I',rw',q m H _ (Aft.refl R) vw⟩) hs
 cases b with
 |int k=>
  refine xQ value slice pins s σ H x y v u Q I rx ry ?_ hs;cases vb.ints
  have main:∀r,ay a S=some r->(atI r.2 k).map (λx=>(x,S))=some (d,S')->rIx X.K x (.int k) H Q:=by
   intro r hi e;cases ha:atI r.2 k with
   |none=>rw[ha] at e;cases e
   |some z=>
    rw[ha] at e;cases e;obtain⟨p,vs,rfl,sq,vds⟩:=e8 (tu:=r.1) (ds:=r.2) R va hi;exact yB sq vds ha λv vv=>q m H v (Aft.refl R) vv
  cases a with
  |str z=>
   simp only[ixS] at e;split at e
   ·rename_i hl;cases hc:atI z.cps.toList k with
    |none=>rw[hc] at e;cases e
    |some c=>
     rw[hc] at e;cases e;exact .inr (.inr ⟨z,k,c,va.strs,rfl,by rw[V4];lia,hc,q m H _ (Aft.refl R) nP⟩)
   ·cases e
  |tup ds=>exact main (true,ds) rfl e
  |ref n=>
   simp only[ixS] at e;cases hi:ay (.ref n) S with
   |none=>rw[hi] at e;cases e
   |some r=>rw[hi] at e;exact main r hi e
  |_=>simp[ixS,ay] at e
 |_=>exact dict e
abbrev rP(x:XA)(y:XE):XE:=λρ S=>bnd (x ρ S) λds S1=>bnd (y ρ S1) λi S2=>match i with
 |.int k=>(atI ds k).map λd=>(d,S2)
 |_=>none
theorem Hv(h:tE K (rP x y) σ H Q):tOp (rIx K) (gw K x) (tE K y) σ H Q:=by
 obtain⟨m,ρ,S,d,S',E,R,e,q⟩:=h;obtain⟨ds,S1,e1,e⟩:=ab e;obtain⟨i,S2,e2,e⟩:=ab e;refine⟨m,ρ,S,ds,S1,E,R,e1,λm1 H1 a vs A1 sq n1 n2 n3 vd=>⟨m1,ρ,S1,i,S2,E.mono R A1.ext,A1.rel,e2,λm2 H2 w A2 vb=>?_⟩⟩;cases i with
 |int k=>
  cases vb.ints;dsimp only at e;cases ha:atI ds k with
  |none=>rw[ha] at e;cases e
  |some z=>
   rw[ha] at e;cases e;exact yB (tu:=false) (show SqL K H2 a vs from SqL.of (A2.ext.keep _ _ sq n1)) (vd.mono A1.rel A2.ext) ha λv vv=>q m2 H2 v (A1.trans A2) vv
 |_=>cases e
abbrev fW(ds:List D)(lo hi:Option Int):List D:=(ds.drop (HT.sIx ds.length 0 lo)).take (HT.sIx ds.length ds.length hi - HT.sIx ds.length 0 lo)
theorem rQ(h:VDs K m H ds vs)(lo hi:Option Int):VDs K m H (fW ds lo hi) (jT vs lo hi):=by
 unfold fW jT;rw[<-h.length];exact(h.drop _).take _
abbrev slS(lo hi:Option Int)(d:D)(S:Sto):Option (D × Sto):=match d with
 |.tup ds=>some (.tup (fW ds lo hi),S)
 | .ref n=>(match am S n with
  |some ds=>some (.ref S.length,S++[.lst (fW ds lo hi)])
  | none=>none)
 |_=>none
def rSl(K:W6):V->Option Int->Option Int->Hp->VK->Prop:=λv lo hi H Q=>∃m S a d S',Rel K m S H/\VD K m H a v/\slS lo hi a S=some (d,S')/\∀m' H' u,Aft K m H S' m' H'->VD K m' H' d u->Q u H'
theorem rR{vs:List V}{lo hi:Option Int}(h:HT.sIx vs.length 0 lo=0/\HT.sIx vs.length vs.length hi=vs.length):jT vs lo hi=vs:=by
 unfold jT;rw[h.1,h.2];simp
theorem OP:SlR X (rSl X.K):=by
 intro pins s σ H x v vl vu lo hi sl Q I rx hs pl pu h;refine(SlR.or B9 BW) pins s σ H x v vl vu lo hi sl Q I rx hs pl pu ?_;obtain⟨m,S,a,d,S',R,va,e,q⟩:=h;cases a with
 |tup ds=>
  cases e;obtain⟨p,vs,rfl,sq,vds⟩:=va.tups;refine .inl ⟨p,vs,rfl,.of sq,λhw=>?_,λ_=>g8 R (rQ vds lo hi) q⟩;have:=rQ vds lo hi;rw[rR hw] at this;exact q m H _ (Aft.refl R) (nQ sq this)
 |ref n=>
  simp only[slS] at e;cases hn:am S n with
  |none=>rw[hn] at e;cases e
  |some ds=>
   rw[hn] at e;cases e;obtain⟨p,vs,hp,sq,vds⟩:=R.seq hn;obtain⟨p',hp',rfl⟩:=va.refs;rw[hp] at hp';cases hp';exact .inr ⟨p,vs,rfl,sq,jy R (rQ vds lo hi) q⟩
 |_=>cases e
@[inline]abbrev XO:=Rho->Sto->Option (Option Int × Sto)
def tOI(K:W6)(x:XO):TO:=λσ H Q=>∃m ρ S o S',EnvR K m H ρ σ/\Rel K m S H/\x ρ S=some (o,S')/\∀m' H',Aft K m H S' m' H'->Q o H'
abbrev rT:XO:=λ_ S=>some (none,S)
abbrev rV(x:XE):XO:=λρ S=>bnd (x ρ S) λd S1=>match d with
 |.int i=>some (some i,S1)
 |_=>none
theorem Cq(h:tOI K rT σ H Q):tO σ H Q:=by
 obtain⟨m,ρ,S,o,S',E,R,e,q⟩:=h;cases e;exact q m H (Aft.refl R)
theorem Cr(h:tOI K (rV x) σ H Q):Fz (tE K x) σ H Q:=by
 obtain⟨m,ρ,S,o,S',E,R,e,q⟩:=h;obtain⟨d,S1,e1,e⟩:=ab e;refine⟨m,ρ,S,d,S1,E,R,e1,λm1 H1 v A1 vd=>?_⟩;cases d with
 |int i=>cases e;exact⟨i,vd.ints,q m1 H1 A1⟩
 |_=>cases e
theorem PO.imp(h:PO X e t)(f:∀σ H Q,t' σ H Q->t σ H Q):PO X e t':=λpins s σ H Q I q=>h pins s σ H Q I (f σ H Q q)
abbrev xSl(x:XE)(lo hi:XO):XE:=λρ S=>bnd (x ρ S) λd S1=>bnd (lo ρ S1) λl S2=>bnd (hi ρ S2) λh S3=>slS l h d S3
theorem Md{x:XE}{lo hi:XO}{σ:L2.St}{H:Hp}{Q:VK}(h:tE K (xSl x lo hi) σ H Q):tSl (rSl K) (tE K x) (tOI K lo) (tOI K hi) σ H Q:=by
 obtain⟨m,ρ,S,d,S',E,R,e,q⟩:=h;obtain⟨a,S1,e1,e⟩:=ab e;obtain⟨l,S2,e2,e⟩:=ab e;obtain⟨u,S3,e3,e⟩:=ab e;refine⟨m,ρ,S,a,S1,E,R,e1,λm1 H1 v A1 vd=>⟨m1,ρ,S1,l,S2,E.mono R A1.ext,A1.rel,e2,λm2 H2 A2=>⟨m2,ρ,S2,u,S3,E.mono R (A1.trans A2).ext,A2.rel,e3,λm3 H3 A3=>?_⟩⟩⟩;exact⟨m3,S3,a,d,S',A3.rel,vd.mono A1.rel (A2.trans A3).ext,e,λm4 H4 w A4 vw=>q m4 H4 w (((A1.trans A2).trans A3).trans A4) vw⟩
abbrev kf(d:D)(S:Sto):Option (Bool × Sto):=match d with
 |.non=>some (false,S)
 |.bl b=>some (b,S)
 |.int i=>some (i != 0,S)
 |.str y=>if y.length<=100000 then some ((y.length:Int) != 0,S) else none
 |.tup ds=>some (!ds.isEmpty,S)
 | .ref n=>(match am S n with
  |some ds=>some (!ds.isEmpty,S)
  | none=>none)
theorem kg(h:VDs K m H ds vs):ds.isEmpty=vs.isEmpty:=by
 have:=h.length;cases ds <;> cases vs <;> simp at this ⊢
theorem Hw(R:Rel K m S H)(vd:VD K m H d v)(e:kf d S=some (b,S')):S'=S/\BO K v H b:=by
 cases d with
 |non=>cases e;cases vd.nons;exact⟨rfl,rfl⟩
 |bl _=>cases e;cases vd.bls;exact⟨rfl,rfl⟩
 |int _=>cases e;cases vd.ints;exact⟨rfl,rfl⟩
 |str y=>
  simp only[kf] at e;split at e
  ·rename_i hl;cases e;cases vd.strs;exact⟨rfl,by rw[V4];lia,rfl⟩
  ·cases e
 |tup ds=>
  cases e;obtain⟨a,vs,rfl,sq,vds⟩:=vd.tups;exact⟨rfl,.inr (.inl ⟨vs,.of sq,by rw[kg vds]⟩)⟩
 |ref n=>
  simp only[kf] at e;cases hn:am S n with
  |none=>rw[hn] at e;cases e
  |some ds=>
   rw[hn] at e;cases e;obtain⟨p,vs,hp,sq,vds⟩:=R.seq hn;obtain⟨p',hp',rfl⟩:=vd.refs;rw[hp] at hp';cases hp';exact⟨rfl,.inl ⟨vs,sq,by rw[kg vds]⟩⟩
abbrev Cs(x:XE):XT:=λρ S=>bnd (x ρ S) λd S1=>kf d S1
theorem Hx(h:tT K (Cs x) σ H Q):(tE K x) σ H λv H'=>∃k,BO K v H' k/\Q k H':=by
 obtain⟨m,ρ,S,b,S',E,R,e,q⟩:=h;obtain⟨d,S1,e1,e⟩:=ab e;refine⟨m,ρ,S,d,S1,E,R,e1,λm1 H1 v A1 vd=>?_⟩;obtain⟨rfl,t⟩:=Hw A1.rel vd e;exact⟨b,t,q m1 H1 A1⟩
abbrev xB(x:XE):XT:=λρ S=>bnd (x ρ S) λd S1=>match d with
 |.bl b=>some (b,S1)
 |_=>none
theorem Me(h:tT K (xB x) σ H Q):(tE K x) σ H λv H'=>∃k,v = .bl k/\Q k H':=by
 obtain⟨m,ρ,S,b,S',E,R,e,q⟩:=h;obtain⟨d,S1,e1,e⟩:=ab e;refine⟨m,ρ,S,d,S1,E,R,e1,λm1 H1 v A1 vd=>?_⟩;cases d with
 |bl k=>cases e;exact⟨b,vd.bls,q m1 H1 A1⟩
 |_=>cases e
abbrev cD(_:Bool)(ds:List D)(S:Sto):Option (D × Sto):=some (.int ds.length,S)
abbrev cX(_:Bool)(ds:List D)(S:Sto):Option (D × Sto):=some (.tup ds,S)
abbrev yC:D->Bool
 |.bl _=>true
 |_=>false
abbrev v0:D->Bool
 |.bl b=>b
 |_=>false
abbrev jw(tu:Bool)(ds:List D)(S:Sto):Option (D × Sto):=if tu=false/\ds.all yC=true then some (.bl (ds.all v0),S) else none
def r1(r:V->Hp->VK->Prop):List V->Hp->VK->Prop
 |[x],H,Q=>r x H Q
 |_,_,_=>False
theorem cr(h:r1 r xs H Q):∃x,xs=[x]/\r x H Q:=by
 match xs,h with
 |[x],h=>exact⟨x,rfl,h⟩
theorem v5:aR X (.builtin "len") (r1 (rSq X.K cD)):=by
 refine aR.imp nD λxs H Q h=>?_;obtain⟨_,rfl,m,S,tu,ds,a,vs,d,S',R,rfl,sq,vd,e,q⟩:=cr h;cases e;exact⟨a,vs,rfl,iI sq,q m H _ (Aft.refl R) (by rw[vd.length];exact a9)⟩
theorem v7:aR X (.type "tuple") (r1 (rSq X.K cX)):=by
 refine aR.imp lK λxs H Q h=>?_;obtain⟨_,rfl,m,S,tu,ds,a,vs,d,S',R,rfl,sq,vd,e,q⟩:=cr h;cases e;cases tu with
 |false=>exact⟨a,vs,rfl,.inl ⟨sq,g8 R vd q⟩⟩
 |true=>exact⟨a,vs,rfl,.inr ⟨.of sq,q m H _ (Aft.refl R) (nQ sq vd)⟩⟩
theorem yD:∀ {ds:List D} {vs:List V},VDs K m H ds vs->ds.all yC=true->vs=(ds.map v0).map V.bl
 |[],vs,h,_=>by rw[VDs] at h;rw[h];rfl
 |d::ds,vs,h,f=>by
  rw[VDs] at h;obtain⟨x,r,rfl,p,q⟩:=h;rw[Yh,bAE] at f;cases d with
  |bl b=>rw[p.bls,yD q f.2];rfl
  |_=>simp[yC] at f
theorem Hy(ds:List D):(ds.map v0).all id=ds.all v0:=by rw[Y4];rfl
theorem v8(hc:X.calm=true):aR X (.builtin "all") (r1 (rSq X.K jw)):=by
 refine aR.imp (vO hc) λxs H Q h=>?_;obtain⟨_,rfl,m,S,tu,ds,a,vs,d,S',R,rfl,sq,vd,e,q⟩:=cr h;unfold jw at e;split at e
 ·rename_i hf;cases e;obtain⟨rfl,hf⟩:=hf;refine⟨a,ds.map v0,rfl,?_,q m H _ (Aft.refl R) (by rw[Hy];exact bF)⟩;rw[<-yD vd hf];exact sq
 ·cases e
def rTm(K:W6)(f:Bool->List D->Option (List D)):V->Hp->VK->Prop:=λv H Q=>∃m S tu ds a vs es,Rel K m S H/\v = .ref a/\SqB K tu H a vs/\VDs K m H ds vs/\f tu ds=some es ∧
 ∀m' H' p ws,Aft K m H S m' H'->H' p=some (.lst ws)->p ∉ m'->(∀b,b ∈ m->b ≠ p)->H p=none->VDs K m' H' es ws->Q (.ref p) H'
abbrev yE:D->D->Sto->Option (D × Sto)
 |.int i,.int j,S=>some (.int (if j > i then j else i),S)
 |_,_,_=>none
abbrev yF:D->D->Sto->Option (D × Sto)
 |.int i,.int j,S=>some (.int (if j < i then j else i),S)
 |_,_,_=>none
abbrev two(f:D->D->Sto->Option (D × Sto)):List D->Sto->Option (D × Sto)
 |[a,b],S=>f a b S
 |_,_=>none
theorem v9(h:VDs K m H [a,b] vs):∃v w,vs=[v,w]/\VD K m H a v/\VD K m H b w:=by
 rw[VDs] at h;obtain⟨v,r,rfl,p,q⟩:=h;rw[VDs] at q;obtain⟨w,r',rfl,p',q'⟩:=q;rw[VDs] at q';subst q';exact⟨v,w,rfl,p,p'⟩
theorem Hz(h:VDs K m H [a] vs):∃v,vs=[v]/\VD K m H a v:=by
 rw[VDs] at h;obtain⟨v,r,rfl,p,q⟩:=h;rw[VDs] at q;subst q;exact⟨v,rfl,p⟩
theorem pY(h:two f as S=some r):∃a b,as=[a,b]/\f a b S=some r:=by
 match as,h with
 |[a,b],h=>exact⟨a,b,rfl,h⟩
theorem rX(hc:X.calm=true):aR X (.builtin "max") (rSA X.K (two yE)):=by
 refine aR.imp (vE hc) λxs H Q h=>?_;obtain⟨m,S,as,d,S',R,vd,e,q⟩:=h;obtain⟨a,b,rfl,e2⟩:=pY e;obtain⟨v,w,rfl,p,p'⟩:=v9 vd;cases a <;> cases b <;> simp[yE] at e2;obtain⟨rfl,rfl⟩:=e2;exact⟨_,_,by rw[p.ints,p'.ints],q m H _ (Aft.refl R) a9⟩
theorem rY(hc:X.calm=true):aR X (.builtin "min") (rSA X.K (two yF)):=by
 refine aR.imp (vF hc) λxs H Q h=>?_;obtain⟨m,S,as,d,S',R,vd,e,q⟩:=h;obtain⟨a,b,rfl,e2⟩:=pY e;obtain⟨v,w,rfl,p,p'⟩:=v9 vd;cases a <;> cases b <;> simp[yF] at e2;obtain⟨rfl,rfl⟩:=e2;exact⟨_,_,by rw[p.ints,p'.ints],q m H _ (Aft.refl R) a9⟩
inductive Ty where |int |bool |tuple |list |str
abbrev Ty.nm:Ty->String
 |.int => "int" |.bool => "bool" |.tuple => "tuple" |.list => "list" |.str => "str"
abbrev tyN(d:D)(S:Sto):Option String:=match d with
 |.non=>some "NoneType" |.bl _=>some "bool" |.int _=>some "int" |.str _=>some "str" |.tup _=>some "tuple"
 | .ref n=>(match S[n]? with
  |some (.lst _)=>some "list"
  |some (.frz _)=>some "list"
  |some (.dic _ _)=>some "dict"
  | none=>none)
abbrev fc(t:Ty)(n:String):Bool:=n == t.nm || (match t with |.int=>n == "bool" |_=>false)
abbrev kh(t:Ty)(d:D)(S:Sto):Option (D × Sto):=(tyN d S).map λn=>(.bl (fc t n),S)
theorem Ct(K:W6)(t:Ty):(Vf K (.type "NoneType") (.type t.nm)=some (fc t "NoneType"))/\(Vf K (.type "bool") (.type t.nm)=some (fc t "bool"))/\(Vf K (.type "int") (.type t.nm)=some (fc t "int")) ∧
  (Vf K (.type "str") (.type t.nm)=some (fc t "str"))/\(Vf K (.type "tuple") (.type t.nm)=some (fc t "tuple"))/\(Vf K (.type "list") (.type t.nm)=some (fc t "list"))/\(Vf K (.type "dict") (.type t.nm)=some (fc t "dict")):=by
 cases t <;> exact⟨by kernel_rfl,by kernel_rfl,by kernel_rfl,by kernel_rfl,by kernel_rfl,by kernel_rfl,by kernel_rfl⟩
theorem Mf(R:Rel K m S H)(vd:VD K m H d v)(e:tyN d S=some n):TyOf K H v (.type n):=by
 cases d with
 |non=>cases e;cases vd.nons;exact .non
 |bl _=>cases e;cases vd.bls;exact .bl _
 |int _=>cases e;cases vd.ints;exact .int _
 |str _=>cases e;cases vd.strs;exact .str _
 |tup ds=>cases e;obtain⟨a,vs,rfl,sq,_⟩:=vd.tups;exact .tup sq
 |ref k=>
  simp only[tyN] at e;obtain⟨a,ha,rfl⟩:=vd.refs;cases hk:S[k]? with
  |none=>rw[hk] at e;cases e
  |some o=>
   rw[hk] at e;obtain⟨a',ha',r⟩:=R.ob k o hk;rw[ha] at ha';cases ha';cases o with
   |lst ds=>cases e;obtain⟨vs,h,_⟩:=r;exact .lst h
   |frz ds=>cases e;obtain⟨o,vs,h,_⟩:=r;exact .frz h
   |dic ks ds=>cases e;obtain⟨vs,h,_⟩:=r;exact .dT h
theorem yG(e:tyN d S=some n):n = "NoneType"\/n = "bool"\/n = "int"\/n = "str"\/n = "tuple"\/n = "list"\/n = "dict" := by
 cases d with
 |ref k=>
  simp only[tyN] at e;cases hk:S[k]? with
  |none=>rw[hk] at e;cases e
  |some o=>rw[hk] at e;cases o <;> cases e <;> simp
 |_=>cases e <;> simp
theorem HA(K:W6)(t:Ty)(h:n = "NoneType"\/n = "bool"\/n = "int"\/n = "str"\/n = "tuple"\/n = "list"\/n = "dict"):Vf K (.type n) (.type t.nm)=some (fc t n):=by
 obtain⟨a,b,c,d,e,f,g⟩:=Ct K t;rcases h with rfl |rfl |rfl |rfl |rfl |rfl |rfl <;> assumption
def Mg(K:W6)(t:Ty)(te:TE):TE:=tCB (FE K) (bW te (bW (tC (.ty t.nm)) iw))
theorem Cu(h:tE K (xUn (kh t) x) σ H Q):Mg K t (tE K x) σ H Q:=by
 obtain⟨m,ρ,S,d,S',E,R,e,q⟩:=h;obtain⟨a,S1,e1,e⟩:=ab e;refine⟨m,ρ,S,a,S1,E,R,e1,λm1 H1 v A1 va=>?_⟩;unfold kh at e;cases hn:tyN a S1 with
 |none=>rw[hn] at e;cases e
 |some n=>
  rw[hn] at e;cases e;exact⟨v,t.nm,_,_,rfl,Mf A1.rel va hn,HA K t (yG hn),q m1 H1 _ A1 bF⟩
end
end Ev
namespace HT
open PySem PySem.Spec PyProof.Rows
section
variable {prog:Program} {w:World} {A:Around} {E:Value->Shared->Prop} {s:Shared}
theorem iJ{sl:Addr}{n:Nat}{tk:Tok}{Q:Int × Int × Nat->Shared->Prop}(hs:s.heap.IsSliceOf sl .none .none (.int (-1) tk))
  (h:Q ((n:Int) - 1,-1,n) s):wpAny (model prog w) A (Builtin.Slice.sliceApplied (.ref sl) (pure (n:Int))) Q E s:=by
 obtain⟨os,hos,hcs,hds⟩:=id hs;unfold Builtin.Slice.sliceApplied Builtin.Slice.sliceFields;refine Uf (Uf (Ul hos hds (x:=.none) rfl (Uf (Ul hos hds (x:=.none) rfl (Uf (Ul hos hds (x:=.int (-1) tk) rfl (Ux ?_)))))));refine Uf (slicePart_int ?_);show wpAny _ _ (if ((-1:Int) == 0)=true then _ else _) _ _ s;rw[if_neg (by decide)];refine Uf (slicePart_none (Uf (slicePart_none (Uf (Ux ?_)))));show wpAny _ _ (match Builtin.Slice.sliceAdjust none none (-1) (n:Int) with |(lo,hi)=>pure (lo,(-1:Int),Builtin.Slice.slicePlaces lo hi (-1))) _ _ s
 have e1:Builtin.Slice.sliceAdjust none none (-1) (n:Int)=((n:Int) - 1,-1):=by
  unfold Builtin.Slice.sliceAdjust;simp
 rw[e1];show wpAny _ _ (pure ((n:Int) - 1,(-1:Int),Builtin.Slice.slicePlaces ((n:Int) - 1) (-1) (-1))) _ _ s
 have e2:Builtin.Slice.slicePlaces ((n:Int) - 1) (-1) (-1)=n:=by
  unfold Builtin.Slice.slicePlaces;have h1:¬ ((-1:Int) > 0):=by decide
  simp only[h1,if_false,show(- -1:Int)=1 from rfl,We];split <;> omega
 rw[e2];exact Ux h
theorem yH(xs:Array Value):((Zl xs.size).filterMap λ(m:Nat)=>xs[((xs.size:Int) - 1+(m:Int) * -1).toNat]?).toArray=xs.toList.reverse.toArray:=by
 have e:(Zl xs.size).filterMap (λ(m:Nat)=>xs[((xs.size:Int) - 1+(m:Int) * -1).toNat]?)=((Zl xs.size).map λk=>xs.size - 1 - k).filterMap (xs[·]?):=by
  rw[XD]
  congr 1
  funext m
  show xs[((xs.size:Int) - 1+(m:Int) * -1).toNat]?=xs[xs.size - 1 - m]?
  congr 1
  omega
 rw[e,PySem.W.krv_range,List.filterMap_reverse,PySem.W.krv_all]
theorem hF{t sl:Addr}{items:Array Value}{tk:Tok}{Q:Value->Shared->Prop}(ht:IsTup s.heap t items)(hs:s.heap.IsSliceOf sl .none .none (.int (-1) tk))
  (h:Q (.ref s.heap.objs.size) { s with heap:=s.heap.push { cls:=.type "tuple", data:=.seq items.toList.reverse.toArray } })
  (hsz:items.size<=sizeLine):wpAny (model prog w) A (getItem (.ref t) (.ref sl)) Q E s:=by
 have htake:sizeOk (.seq items.toList.reverse.toArray):=by
  show items.toList.reverse.toArray.size<=sizeLine;rw[Zk,ZU,Zw];exact hsz
 obtain⟨os,hos,hcs,hds⟩:=id hs;have hTs:s.TypeIs (.ref sl) "slice" := ⟨os,hos,hcs⟩;unfold getItem
 try with_reducible refine Up ?_
 first |refine Uf (Ux ?_) |skip
 refine Uf (UH ht.typeIs (by decide) ?_)
 refine Uf (wpAny_callSpecial?_slot (name:=Str.ofString "__getitem__") ht.typeIs Wq
  (Uh Wq ht.typeIs entry_tuple_getitem ?_ (args_tuple_getitem _ _)))
 show wpAny _ _ (Builtin.Tuple.tupleItemsOf (.ref t) >>= _) _ _ s;refine Uf (tupleItemsOf_ ht ?_);refine Uf (UM hTs ?_);rw[if_pos (by decide)];refine Uf (iJ hs ?_);show wpAny _ _ (if (((items.size:Int) - 1) == 0 && (-1:Int) == 1 && items.size == items.size)=true then _ else _) _ _ s;rw[if_neg (by rw[show((-1:Int) == 1)=false from rfl,Bool.and_false,Y7];exact Ze),yH]
 first
  |exact Uf (m:=Builtin.Tuple.tupleExact _) (Uu (Ux ⟨_,rfl,Ux h⟩) htake)
  |exact Uf (m:=Builtin.Tuple.tupleExact _) (Uu (Uf (Ux (Ux ⟨_,rfl,Ux h⟩))) htake)
  |exact Uf (Uf (m:=Builtin.Tuple.tupleExact _) (Uu (Ux (Ux ⟨_,rfl,Ux h⟩)) htake))
  |exact Uf (Uf (m:=Builtin.Tuple.tupleExact _) (Uu (Ux ⟨_,rfl,Ux h⟩) htake))
end
end HT
namespace Ev
open PySem PySem.Spec PyProof.Rows L2
section
variable {X:Cx} {e:Expr} {te:TE} {pos p2 p3 p4:Pos}
theorem aH.rev:∀ {xs:List V} {us:List Value},aH xs us->aH xs.reverse us.reverse
 |[],_,.nil=>.nil
 |_::_,_,.cons r t=>by rw[Z5,Z5];exact(aH.rev t).append (.cons r .nil)
theorem VDs.rev{K:W6}:∀ {ds:List D} {vs:List V},VDs K m H ds vs->VDs K m H ds.reverse vs.reverse
 |[],vs,h=>by rw[VDs] at h;subst h;exact .nil
 |d::ds,vs,h=>by
  rw[VDs] at h;obtain⟨y,r,rfl,p,q⟩:=h;rw[Z5,Z5];exact(VDs.rev q).append (.cons p .nil)
abbrev pZ(d:D)(S:Sto):Option (D × Sto):=match d with
 |.tup ds=>some (.tup ds.reverse,S)
 | .ref n=>(match am S n with
  |some ds=>some (.ref S.length,S++[.lst ds.reverse])
  | none=>none)
 |_=>none
theorem HB{k:Nat}(he:PE X e te):PE X (.Subscript e (.Slice none none (some (.UnaryOp .USub (.Constant (.int 1) k p3) p4)) p2) pos) (tUn (rS1 X.K pZ) te):=by
 intro pins s σ H Q I h;refine Subscript_ (thn (he pins s σ H _ I h) λv s1 ⟨x,H1,I1,r1,q1⟩=>?_);refine wpAny_Slice ?_;rw[VF];refine Ux (Ux ?_);refine thn (tP (xF rh nu) pins s1 σ H1 (λo H2=>o=some (-1)/\H2=H1) I1 ⟨_,rfl,_,rfl,rfl,rfl⟩) λvk s2 ⟨o,H2,I2,pk,ho,hH⟩=>?_;subst ho hH;cases pk with
 |int i tk=>
  have I3:L2.Inv X pins σ H2 { s2 with heap:=s2.heap.push { cls:=.type "slice", data:=.fields #[.none,.none,.int (-1) tk] } }:=I2.kept (t':=s2.toks) λb ob q=>Zc _ q;obtain⟨m,S,a,d,S',R,va,e1,q⟩:=q1;cases a with
  |tup ds=>
   cases e1;obtain⟨p,vs,rfl,sq,vds⟩:=va.tups;cases r1;obtain⟨its,r,ht,hz⟩:=I3.tuple (.of sq);have hlen:its.toArray.size=vs.length:=by rw[Zk];exact r.length.symm
   refine tail_any (ops:=[.ref p,.ref s2.heap.objs.size]) ht.typeIs PyProof.Rows.slot_tuple_getitem.lookup (HT.hF ht (Heap.IsSliceOf.new ..) ?_ (by rw[hlen];exact hz)) (by with_unfolding_all rfl);refine⟨.ref _,_,I3.laid (o:=.tup vs.reverse) (λb ob q=>Zc _ q) (Zd _) ?_,rfl,g8 R (VDs.rev vds) q _ (I3.hok.fresh (Zd _))⟩;exact⟨by rw[ZU];exact hz,_,aH.rev r,nq.new _ _⟩
  |ref n=>
   simp only[pZ] at e1;cases hn:am S n with
   |none=>rw[hn] at e1;cases e1
   |some ds=>
    rw[hn] at e1;cases e1;obtain⟨p,vs,hp,sq,vds⟩:=R.seq hn;obtain⟨p',hp',rfl⟩:=va.refs;rw[hp] at hp';cases hp';cases r1;obtain⟨its,r,pl,hz⟩:=I3.list sq;have hlen:its.toArray.size=vs.length:=by rw[Zk];exact r.length.symm
    refine tail_any (ops:=[.ref p,.ref s2.heap.objs.size]) pl.isList.typeIs PySem.slot_list_getitem.lookup (Uo pl.isList (Heap.IsSliceOf.new ..) .none .none (.int (-1) tk) (by decide) ?_ (by rw[hlen];exact hz)) (by with_unfolding_all rfl);rw[PySem.W.krv_pick];refine⟨.ref _,_,I3.laid (o:=.lst vs.reverse) (λb ob q=>Zc _ q) (Zd _) ?_,rfl,jy R (VDs.rev vds) q _ (I3.hok.fresh (Zd _))⟩;exact⟨by rw[ZU];exact hz,_,0,aH.rev r,Zx _ rfl⟩
  |_=>cases e1
end
end Ev
namespace Ev
open PySem PySem.Spec PyProof.Rows L2
open PySem.W (KasT kas_sort kas_asc kas_desc kas_tail3 kas_descPart kas_count kas_place kas_bin kas_rev kas_ask KatTups)
abbrev fX{α:Type}(lt:Nat->Nat->Bool):KasT α->α
 |.ret a=>a
 |.ask i j k=>fX lt (k (lt i j))
def KT{α:Type}(n:Nat)(P:α->Prop):KasT α->Prop
 |.ret a=>P a
 |.ask i j k=>i < n/\j < n/\∀b,KT n P (k b)
theorem KT.bind{α β:Type}{n:Nat}{P:α->Prop}{R:β->Prop}{f:α->KasT β}(hf:∀a,P a->KT n R (f a)):∀ {t:KasT α},KT n P t->KT n R (t.bind f)
 |.ret a,h=>hf a h
 |.ask i j k,h=>⟨h.1,h.2.1,λb=>KT.bind hf (h.2.2 b)⟩
theorem KT.run{α:Type}{n:Nat}{P:α->Prop}{lt:Nat->Nat->Bool}:∀ {t:KasT α},KT n P t->P (fX lt t)
 |.ret a,h=>h
 |.ask i j k,h=>KT.run (t:=k (lt i j)) (h.2.2 (lt i j))
theorem p9{α:Type}{n:Nat}{P:α->Prop}{lt:Nat->Nat->Bool}{cmp:Nat->Nat->(Bool->Shared->Prop)->Shared->Prop}{s:Shared}(hc:∀i j,i < n->j < n->∀C:Bool->Shared->Prop,C (lt i j) s->cmp i j C s){Q:α->Shared->Prop} :
  ∀ {t:KasT α},KT n P t->Q (fX lt t) s->t.kasWp cmp Q s
 |.ret a,_,q=>q
 |.ask i j k,h,q=>hc i j h.1 h.2.1 _ (p9 hc (h.2.2 (lt i j)) q)
def Pm(n:Nat)(p:Array Nat):Prop:=p.Perm (Xh (Zl n))
theorem Pm.at{n i:Nat}(h:Pm n p)(hn:0 < n):p.getD i 0 < n:=by
 by_cases hi:i < p.size
 ·have e:p.getD i 0=p[i]:=by simp[Array.getD,hi]
  rw[e];have hm:p[i] ∈ p:=Array.getElem_mem hi;have:=h.mem_iff.mp hm
  simpa using this
 ·have e:p.getD i 0=0:=by simp[Array.getD,hi]
  omega
theorem Pm.rev{n i j:Nat}(h:Pm n p):Pm n (kas_rev p i j):=(mirror_perm p i j _).trans h
theorem rZ{n:Nat}(h:Pm n p)(hn:0 < n):∀f m,KT n (λ_=>True) (kas_asc p f m)
 |0,_=>trivial
 | f+1,m=>⟨h.at hn,h.at hn,λb=>by
  cases b with
  |true=>exact trivial
  | false=>exact rZ h hn f (m+1)⟩
theorem jB{n:Nat}(hn:0 < n):∀f (p:Array Nat) m q,Pm n p->KT n (λr:Array Nat × Nat × Nat=>Pm n r.1) (kas_desc f p m q)
 |0,p,m,q,h=>h
 | f+1,p,m,q,h=>⟨h.at hn,h.at hn,λb=>by
  cases b with
  |true=>
   show KT n _ (if q > 0 then kas_desc f (kas_rev p (m - (q+1)) m) (m+1) 0 else kas_desc f p (m+1) 0);split
   ·exact jB hn f _ _ _ h.rev
   ·exact jB hn f _ _ _ h
  | false=>exact⟨h.at hn,h.at hn,λd=>by
   cases d with
   |true=>exact h
   | false=>exact jB hn f _ _ _ h⟩⟩
theorem qa{n:Nat}{p:Array Nat}(hn:0 < n)(h:Pm n p)(m r:Nat):KT n (λr:Nat × Array Nat=>Pm n r.2) (kas_tail3 m r p):=KT.bind (P:=λ_=>True) (f:=λm=>KasT.ret (m,kas_rev p 0 _)) (λ_ _=>(show KT n (λr:Nat × Array Nat=>Pm n r.2) (KasT.ret (_,kas_rev p 0 _)) from h.rev)) (rZ h.rev hn _ _)
theorem i7{n:Nat}{p:Array Nat}(hn:0 < n)(h:Pm n p)(m r:Nat):KT n (λr:Nat × Array Nat=>Pm n r.2) (kas_descPart m r p):=KT.bind (λa ha=>by
 show KT n _ (if a.2.2 > 0 then _ else _);split
 ·exact qa hn (Pm.rev ha) _ _
 ·exact qa hn ha _ _) (jB hn _ _ _ _ h)
theorem yI{n:Nat}{p:Array Nat}(hn:0 < n)(h:Pm n p)(r:Nat):KT n (λr:Nat × Array Nat=>Pm n r.2) (kas_count r p):=KT.bind (λa _=>by
 show KT n _ (if (a == r)=true then _ else if a > 1 then _ else _);split
 ·exact h
 ·split
  ·exact⟨h.at hn,h.at hn,λb=>by
    cases b with
    |true=>exact h
    | false=>exact i7 hn h.rev _ _⟩
  ·exact i7 hn h _ _) (rZ h hn _ _)
theorem kj{n:Nat}{p:Array Nat}(hn:0 < n)(h:Pm n p)(m:Nat):∀f l r,KT n (λ_=>True) (kas_place p m f l r)
 |0,_,_=>trivial
 |f+1,l,r=>by
  show KT n _ (if l ≥ r then _ else _);split
  ·exact trivial
  ·exact⟨h.at hn,h.at hn,λb=>by
    cases b with
    |true=>exact kj hn h m f _ _
    | false=>exact kj hn h m f _ _⟩
theorem yJ{n:Nat}(hn:0 < n):∀f (p:Array Nat) m,Pm n p->KT n (Pm n) (kas_bin f p m)
 |0,p,_,h=>h
 |f+1,p,m,h=>KT.bind (λl _=>yJ hn f _ _ ((bubble_perm p m _).trans h)) (kj hn h m _ _ _)
theorem ua{n:Nat}(hn:0 < n):KT n (Pm n) (kas_sort n):=KT.bind (λr hr=>by
 show KT n _ (if r.1 < n then _ else _);split
 ·exact yJ hn _ _ _ hr
 ·exact hr) (yI hn (Array.Perm.refl _) n)
section
variable {prog:Program} {w:World} {A:Around} {E:Value->Shared->Prop} {s:Shared}
theorem nY{a:Addr}{vs:List Value}{n:Nat}{P:PySem.Fin->Shared->Prop}(ho:s.heap.get? a=some (seqObj "list" vs.toArray n))(h64:vs.length < 64)(κ:SortKind)(lt:Nat->Nat->Bool)
  (hk:2<=vs.length->∀ (Q:SortKind->Shared->Prop),Q κ { s with heap:=((s.heap.update a (Obj.mapSeq λ_=>#[])).push (seqObj "tuple" vs.toArray 0)).push (seqObj "list" #[] 0) }->wpAny (model prog w) A (keyKind' vs.toArray) Q E { s with heap:=((s.heap.update a (Obj.mapSeq λ_=>#[])).push (seqObj "tuple" vs.toArray 0)).push (seqObj "list" #[] 0) })
  (hlt:∀i j,i < vs.length->j < vs.length->∀C:Bool->Shared->Prop,C (lt i j) { s with heap:=((s.heap.update a (Obj.mapSeq λ_=>#[])).push (seqObj "tuple" vs.toArray 0)).push (seqObj "list" #[] 0) } ->
   kas_ask prog w A κ vs i j C { s with heap:=((s.heap.update a (Obj.mapSeq λ_=>#[])).push (seqObj "tuple" vs.toArray 0)).push (seqObj "list" #[] 0) })
  (h:P (.done (.ret .none)) { s with heap:=sortedHeap s.heap a vs (if vs.length < 2 then vs.toArray else Xh ((fX lt (kas_sort vs.length)).toList.map λi=>vs.getD i Value.none)) }) :
  wpAny (model prog w) A (Builtin.«list.sort» ⟨[.ref a],[]⟩) P E s:=by
 rw[list_sort_plain];have ha:a < s.heap.objs.size:=Zq ho;refine Uf (listItems_at ho rfl ?_);refine Uf (listUpdate_at ho rfl ?_);obtain⟨e1,ho1⟩:∃e1,(s.heap.update a (Obj.mapSeq λ_=>#[])).get? a=some (seqObj "list" #[] e1):=⟨_,get?_update_seq ho (λ_=>#[])⟩;refine Uf (seqEpoch_at ho1 rfl ?_);refine Uf (wpAny_newTuple ?_);refine Uf (wpAny_newList ?_);refine Up ?_
 have ho6:(((s.heap.update a (Obj.mapSeq λ_=>#[])).push (seqObj "tuple" vs.toArray 0)).push (seqObj "list" #[] 0)).get? a=some (seqObj "list" #[] e1):=by
  rw[XJ _ _ _ (by rw[size_push',Xf];exact ZE (YJ ha)),XJ _ _ _ (by rw[Xf];exact ZE ha)];exact ho1
 show wpAny (model prog w) A _ P E { s with heap:=((s.heap.update a (Obj.mapSeq λ_=>#[])).push (seqObj "tuple" vs.toArray 0)).push (seqObj "list" #[] 0) };dsimp only;have hsz:vs.toArray.size=vs.length:=by simp
 by_cases h2:vs.toArray.size < 2
 ·rw[if_pos h2,if_pos h2];refine Uf (Ux ?_);rw[StateT.run_pure];refine Uf (Ux ?_);dsimp only;refine Uf (seqEpoch_at ho6 rfl ?_);refine Uf (listUpdate_at ho6 rfl ?_ (hsz2:=by rw[Array.size_map];show(pairsOf vs).size<=_;rw[pairsOf_size,V4];omega));simp only[bne_self_eq_false,ZN,if_false];rw[if_pos (by rw[<-hsz];exact h2)] at h
  have e:Array.map (λx:Keyed=>x.2) (vs.toArray.zip vs.toArray)=vs.toArray:=by
   apply Array.toList_inj.mp;rw[Array.toList_map,Array.toList_zip,List.map_snd_zip (by simp)]
  refine Ux ?_;show P _ { s with heap:=sortedHeap s.heap a vs (Array.map (λx:Keyed=>x.2) (vs.toArray.zip vs.toArray)) };rw[e];exact h
 ·have h2':2<=vs.length:=by omega
  rw[if_neg h2,if_neg h2];rw[if_neg (by omega)] at h;refine Uf (hk h2' _ ?_)
  refine Uf (Ut (PySem.W.kat_run (κ:=κ) (ks:=vs) (Q:=λst' s'=>s'={ s with heap:=((s.heap.update a (Obj.mapSeq λ_=>#[])).push (seqObj "tuple" vs.toArray 0)).push (seqObj "list" #[] 0) }/\arrOf st'=(fX lt (kas_sort vs.length)).map (PySem.W.kas_item (vs.toArray.zip vs.toArray))/\(fX lt (kas_sort vs.length)).size=vs.length/\failedOf st'=none)
   (G:=λp s'=>s'={ s with heap:=((s.heap.update a (Obj.mapSeq λ_=>#[])).push (seqObj "tuple" vs.toArray 0)).push (seqObj "list" #[] 0) }/\p=fX lt (kas_sort vs.length)) rfl h2' h64 (λp st' s' a1 a2 a3 a4=>⟨a4.1,a4.2 ▸ a2,a4.2 ▸ a1,a3⟩) (p9 hlt (ua (by omega)) ⟨rfl,rfl⟩)) ?_ λ_ _ e=>e)
  rintro⟨⟨⟩,st'⟩ s' ⟨rfl,har,hsz',hf⟩;dsimp only;have hout:=PySem.W.kat_snds rfl har;refine Uf (seqEpoch_at ho6 rfl ?_);rw[hout];refine Uf (listUpdate_at ho6 rfl ?_ (hsz2:=by rw[Zk,Za,Zw,hsz',V4];omega));rw[hf];simp only[bne_self_eq_false,ZN,if_false];exact Ux h
end
section
variable {prog:Program} {w:World} {A:Around} {E:Value->Shared->Prop} {s:Shared}
theorem wa(hl:s.heap.IsList l vs.toArray)(h64:vs.length < 64)(κ:SortKind)(lt:Nat->Nat->Bool)
  (hk:2<=vs.length->∀ (A:Around) (s':Shared),(∀b o,s.heap.get? b=some o->s'.heap.get? b=some o)->∀ (E:Value->Shared->Prop) (Q:SortKind->Shared->Prop),Q κ s'->wpAny (model prog w) A (keyKind' vs.toArray) Q E s')
  (hlt:∀ (A:Around) (s':Shared),(∀b o,s.heap.get? b=some o->s'.heap.get? b=some o)->∀i j,i < vs.length->j < vs.length->∀C:Bool->Shared->Prop,C (lt i j) s'->kas_ask prog w A κ vs i j C s')
  (h:Q (.ref (s.heap.objs.size+1)) { s with heap:=sortedAll s.heap vs (if vs.length < 2 then vs.toArray else Xh ((fX lt (kas_sort vs.length)).toList.map λi=>vs.getD i Value.none)) }) :
  wpAny (model prog w) A (call (.builtin "sorted") [.ref l]) Q E s:=by
 refine Calls.call_function_entry kind_sorted plain_sorted entry_sorted (args_sorted1 _) ?_;unfold Builtin.«sorted»;refine Uf (m:=checkCount "sorted" 1 1 _) (Ux ?_);refine Uf (collect_list hl ?_);refine Uf (wpAny_newList ?_)
 have hsz:((s.heap.push (seqObj "list" #[] 0)).update s.heap.objs.size (Obj.mapSeq (·++vs.toArray))).objs.size=s.heap.objs.size+1:=by
  rw[Xf,size_push']
 have hoL:(((s.heap.push (seqObj "list" #[] 0)).update s.heap.objs.size (Obj.mapSeq (·++vs.toArray))).push (seqObj "list" vs.toArray 0)).get? (s.heap.objs.size+1)=some (seqObj "list" vs.toArray 0):=by
  rw[<-hsz];exact Zx _ rfl
 have keep:∀b o,s.heap.get? b=some o->(((((s.heap.push (seqObj "list" #[] 0)).update s.heap.objs.size (Obj.mapSeq (·++vs.toArray))).push (seqObj "list" vs.toArray 0)).update (s.heap.objs.size+1) (Obj.mapSeq λ_=>#[])).push (seqObj "tuple" vs.toArray 0)).get? b=some o:=λb o q=>by
  have hlt:b < s.heap.objs.size:=Zq q;refine Zc _ ?_;rw[Xx _ _ _ _ (ZE (YJ hlt))];refine Zc _ ?_;rw[Xx _ _ _ _ (ZE hlt)];exact Zc _ q
 show wpAny _ _ _ _ _ { s with heap:=((s.heap.push (seqObj "list" #[] 0)).update s.heap.objs.size (Obj.mapSeq (·++vs.toArray))).push (seqObj "list" vs.toArray 0) };rw[hsz];refine Uf (Up (Uh slot_list_sort ⟨_,hoL,rfl⟩ entry_list_sort (nY hoL h64 κ lt (λh2 Q q=>hk h2 _ _ (λb o z=>Zc _ (keep b o z)) _ Q q) (λi j hi hj C c=>hlt _ _ (λb o z=>Zc _ (keep b o z)) i j hi hj C c) ⟨_,rfl,?_⟩) (args_list_sort _)));exact Ux ⟨_,rfl,h⟩
abbrev r9(x y:Int × Int):Bool:=if x.1 == y.1 then (if x.2 == y.2 then false else decide (x.2 < y.2)) else decide (x.1 < y.1)
theorem yK{a b c d:Int}{n k:Nat}(hx:s.heap.get? x=some ox)(dx:ox.data = .seq #[.int a t1,.int b t2] n)(hy:s.heap.get? y=some oy)(dy:oy.data = .seq #[.int c t3,.int d t4] k)
  (h:C (r9 (a,b) (c,d)) s):wpAny (model prog w) A (keyLt' (tuples' true) (.ref x) (.ref y)) C E s:=by
 refine PySem.W.kat_lt hx dx hy dy ?_;show PySem.W.KatLex prog w A true _ C [(.int a t1,.int c t3),(.int b t2,.int d t4)] 0 s;unfold r9 at h;refine Uj ?_;cases h1:a == c with
 |true=>
  rw[if_pos rfl];simp only[h1,if_true] at h;refine Uj ?_;cases h2:b == d with
  |true=>rw[if_pos rfl];simp only[h2,if_true] at h;exact h
  |false=>
   rw[if_neg Ze];simp only[h2,ZN,if_false] at h;exact PySem.W.kat_one _ _ (lt_int h)
 |false=>
  rw[if_neg Ze];simp only[h1,ZN,if_false] at h;exact oneLt_int h
end
end Ev
namespace Ev
open PySem PySem.Spec PyProof.Rows L2
open PySem.W (kas_sort KatTups)
section
variable {X:Cx} {K:W6} {m:List Addr} {H:Hp} {S:Sto}
inductive PairsV(H:Hp):List V->List (Int × Int)->Prop where
 |nil:PairsV H [] []
 |cons {r:Addr} {x y:Int} {vs:List V} {ps:List (Int × Int)}:H r=some (.tup [.int x,.int y])->PairsV H vs ps->PairsV H (.ref r::vs) ((x,y)::ps)
abbrev wb(ps:List (Int × Int))(i j:Nat):Bool:=r9 (ps.getD i (0,0)) (ps.getD j (0,0))
abbrev fe{α:Type}(ps:List (Int × Int))(d:α)(vs:List α):List α:=if vs.length < 2 then vs else (fX (wb ps) (kas_sort vs.length)).toList.map λi=>vs.getD i d
theorem PairsV.len{vs:List V}{ps:List (Int × Int)}(h:PairsV H vs ps):vs.length=ps.length:=by
 induction h with
 |nil=>rfl
 |cons _ _ ih=>simp[ih]
def FG(h:Heap)(v:Value)(q:Int × Int):Prop:=∃r o t1 t2 n,v = .ref r/\h.get? r=some o/\o.cls = .type "tuple"/\o.data = .seq #[.int q.1 t1,.int q.2 t2] n
theorem PairsV.heap{pins:List (Addr × Obj)}{s:Shared}{σ:L2.St}(I:Inv X pins σ H s){vs:List V}{ps:List (Int × Int)}(h:PairsV H vs ps):∀ {its:List Value},aH vs its->∀ (i:Nat),i < its.length->FG s.heap (its.getD i Value.none) (ps.getD i (0,0)):=by
 induction h with
 |nil=>intro its r i hi;cases r;simp at hi
 |@cons r x y vs ps hr _ ih=>
  intro its rv i hi;cases rv with
  |@cons _ u _ us r1 r2=>
   cases i with
   |zero=>
    cases r1;obtain⟨it2,rr,⟨o,e,hc,n,hd⟩,_⟩:=I.tuple (SqT.of (K:=X.K) hr);obtain⟨a,b,rfl,⟨t1,rfl⟩,⟨t2,rfl⟩⟩:=pd rr;exact⟨r,o,t1,t2,n,rfl,e,hc,hd⟩
   |succ i=>
    have:=ih r2 i (by simpa using hi)
    simpa using this
theorem ub{h:Heap}:∀ {its:List Value} {ps:List (Int × Int)},(∀i,i < its.length->FG h (its.getD i Value.none) (ps.getD i (0,0)))->∃fs:List Value,KatTups h its fs/\fs.length=its.length/\∀v ∈ fs,∃i t,v = .int i t
 |[],_,_=>⟨[],KatTups.nil,rfl,λv hv=>by simp at hv⟩
 |v::its,ps,hp=>by
  obtain⟨r,o,t1,t2,n,ev,e,hc,hd⟩:=hp 0 (by simp)
  obtain⟨fs,k,hl,hi⟩:=ub (its:=its) (ps:=ps.tail) λi hi=>by
   have:=hp (i+1) (by simpa using hi);cases ps with
   |nil=>simpa using this
   |cons _ _=>simpa using this
  have ev':v = .ref r:=by simpa using ev
  subst ev'
  exact⟨.int (ps.getD 0 (0,0)).1 t1::fs,KatTups.cons e hc hd rfl k,by simp[hl],λw hw=>by
   rcases Zn.mp hw with rfl |hw
   ·exact⟨_,_,rfl⟩
   ·exact hi w hw⟩
theorem Cv(r:aH vs its){i:Nat}(hi:i < vs.length):az (vs.getD i .non) (its.getD i Value.none):=by
 obtain⟨u,e,ru⟩:=r.get (gEG hi);rw[ZF,ZF,gEG hi,e];exact ru
theorem mH{vs:List V}{its:List Value}(r:aH vs its):∀ (l:List Nat),(∀i ∈ l,i < vs.length)->aH (l.map λi=>vs.getD i .non) (l.map λi=>its.getD i Value.none)
 |[],_=>.nil
 |i::l,h=>.cons (Cv r (h i Zh)) (mH r l λj hj=>h j (Zf _ hj))
theorem iK{n:Nat}{lt:Nat->Nat->Bool}(hn:0 < n):(∀i ∈ (fX lt (kas_sort n)).toList,i < n)/\(fX lt (kas_sort n)).toList.length=n:=by
 have h:Pm n (fX lt (kas_sort n)):=(ua hn).run;refine⟨λi hi=>?_,?_⟩
 ·have:=h.mem_iff.mp (Xq.mp hi)
  simpa using this
 ·have:=h.size_eq;rw[Zw,this];simp
theorem sd{α:Type}{ps:List (Int × Int)}{d:α}{vs:List α}:(fe ps d vs).length=vs.length:=by
 unfold fe;split
 ·rfl
 ·rw[Za,(iK (by lia)).2]
theorem se:aR X (.builtin "sorted") (λxs H Q=>∃a vs ps,xs=[.ref a]/\SqL X.K H a vs/\PairsV H vs ps/\vs.length < 64/\∀p,H p=none->Q (.ref p) (upd H p (.lst (fe ps .non vs)))):=by
 intro pins s σ H xs us Q I r h;obtain⟨a,vs,ps,rfl,sq,pv,h64,q⟩:=h;obtain⟨u,rfl,ru⟩:=ce r;cases ru;obtain⟨its,rv,pl,hz⟩:=I.list sq;have hlen:=rv.length;have ph:=pv.heap I rv;have hl2:=pv.len;refine wa pl.isList (by lia) (tuples' true) (wb ps) (λh2 A s' kp E Q' hq=>?_) (λA s' kp i j hi hj C hC=>?_) ?_
 ·obtain⟨fs,kt,hf,hi⟩:=ub (h:=s'.heap) λi hi=>by
   obtain⟨r,o,t1,t2,n,e1,e2,e3,e4⟩:=ph i hi;exact⟨r,o,t1,t2,n,e1,kp _ _ e2,e3,e4⟩
  refine PySem.W.kat_kind (T:=.type "int") kt (by lia) (λv hv=>?_) (by decide) hq;obtain⟨i,t,rfl⟩:=hi v hv;exact PySem.W.Looks.of_pure rfl
 ·obtain⟨r1,o1,t1,t2,n1,a1,a2,a3,a4⟩:=ph i hi;obtain⟨r2,o2,t3,t4,n2,b1,b2,b3,b4⟩:=ph j hj;show wpAny _ A (keyLt' (tuples' true) (its.getD i Value.none) (its.getD j Value.none)) C _ s';rw[a1,b1];exact yK (kp _ _ a2) a4 (kp _ _ b2) b4 hC
 ·have hv:aH (fe ps .non vs) (if its.length < 2 then its else (fX (wb ps) (kas_sort its.length)).toList.map λi=>its.getD i Value.none):=by
   unfold fe;rw[hlen];split
   ·exact rv
   ·exact mH rv _ λi hi=>by rw[hlen];exact(iK (by lia)).1 i hi
  have eo:(if its.length < 2 then its.toArray else Xh ((fX (wb ps) (kas_sort its.length)).toList.map λi=>its.getD i Value.none))=(if its.length < 2 then its else (fX (wb ps) (kas_sort its.length)).toList.map λi=>its.getD i Value.none).toArray:=by split <;> rfl
  rw[eo];obtain⟨e,he⟩:=sortedAll_at s.heap its (if its.length < 2 then its else (fX (wb ps) (kas_sort its.length)).toList.map λi=>its.getD i Value.none).toArray;exact⟨.ref (s.heap.objs.size+1),_,I.laid (t':=s.toks) (a:=s.heap.objs.size+1) (o:=.lst (fe ps .non vs)) (λb o z=>sortedAll_old z) (Yp _) ⟨by rw[sd];exact hz,_,e,hv,he⟩,rfl,q _ (I.hok.fresh (Yp _))⟩
abbrev sf(x:Int):List Int->List Int
 |[]=>[x]
 |y::l=>if x<=y then x::y::l else y::sf x l
abbrev f9:List Int->List Int
 |[]=>[]
 |x::l=>sf x (f9 l)
theorem iL(x:Int):∀l,(sf x l).Perm (x::l)
 |[]=>List.Perm.refl _
 |y::l=>by
  unfold sf;split
  ·exact List.Perm.refl _
  ·exact((iL x l).cons y).trans (List.Perm.swap x y l)
theorem cE:∀l,(f9 l).Perm l
 |[]=>List.Perm.refl _
 |x::l=>(iL x (f9 l)).trans ((cE l).cons x)
theorem i8(x:Int):∀l:List Int,l.Pairwise (·<=·)->(sf x l).Pairwise (·<=·)
 |[],_=>by unfold sf;simp
 |y::l,h=>by
  unfold sf;rw[Yy] at h;split
  ·rename_i c;refine Yy.mpr ⟨λz hz=>?_,Yy.mpr h⟩;rcases Zn.mp hz with rfl |hz
   ·exact c
   ·have:=h.1 z hz;lia
  ·rename_i c;refine Yy.mpr ⟨λz hz=>?_,i8 x l h.2⟩;rcases Zn.mp ((iL x l).mem_iff.mp hz) with rfl |hz
   ·lia
   ·exact h.1 z hz
theorem hJ:∀l,(f9 l).Pairwise (·<=·)
 |[]=>List.Pairwise.nil
 |x::l=>i8 x _ (hJ l)
theorem kl:∀ {a b:List Int},a.Perm b->a.Pairwise (·<=·)->b.Pairwise (·<=·)->a=b
 |[],b,p,_,_=>(List.Perm.nil_eq p)
 |x::a,[],p,_,_=>(List.Perm.nil_eq p.symm).symm
 |x::a,y::b,p,ha,hb=>by
  rw[Yy] at ha hb
  have e:x=y:=by
   have h1:=p.mem_iff.mp (Zh (a:=x) (l:=a));have h2:=p.mem_iff.mpr (Zh (a:=y) (l:=b));rcases Zn.mp h1 with rfl |h1
   ·rfl
   ·rcases Zn.mp h2 with h2 |h2
    ·exact h2.symm
    ·have:=ha.1 y h2;have:=hb.1 x h1
     lia
  subst e;rw[kl (List.Perm.cons_inv p) ha.2 hb.2]
theorem bm:∀ {ns:List Int} {us:List Value},aH (ns.map V.int) us->IntsAre us ns
 |[],_,h=>by cases h;exact .nil
 |n::ns,_,h=>by
  cases h with
  |cons r1 r2=>obtain⟨t,rfl⟩:=r1;exact .cons n t (bm r2)
theorem sg:aR X (.builtin "sorted") (λxs H Q=>∃a ns,xs=[.ref a]/\SqL X.K H a (ns.map V.int)/\ns.length < 64/\∀p,H p=none->Q (.ref p) (upd H p (.lst ((f9 ns).map V.int)))):=by
 intro pins s σ H xs us Q I r h;obtain⟨a,ns,rfl,sq,h64,q⟩:=h;obtain⟨u,rfl,ru⟩:=ce r;cases ru;obtain⟨its,rv,pl,hz⟩:=I.list sq;have hlen:=rv.length;rw[Za] at hlen hz;refine sorted_ints pl.isList (bm rv) (by lia) λout ns' h1 h2 h3=>?_;have e:ns'=f9 ns:=kl (h2.trans (cE ns).symm) h3 (hJ ns);subst e;obtain⟨e,he⟩:=sortedAll_at s.heap its out;refine⟨.ref (s.heap.objs.size+1),_,I.laid (t':=s.toks) (a:=s.heap.objs.size+1) (o:=.lst ((f9 ns).map V.int)) (λb o z=>sortedAll_old z) (Yp _) ⟨by rw[Za,(cE ns).length_eq];exact hz,out.toList,e,iz h1,by simpa using he⟩,rfl,q _ (I.hok.fresh (Yp _))⟩
abbrev nZ:D->Option (Int × Int)
 |.tup [.int a,.int b]=>some (a,b)
 |_=>none
abbrev ff:List D->Option (List (Int × Int))
 |[]=>some []
 |d::ds=>match nZ d,ff ds with
  |some p,some ps=>some (p::ps)
  |_,_=>none
abbrev eK:List D->Option (List Int)
 |[]=>some []
 |d::ds=>match d,eK ds with
  |.int i,some ms=>some (i::ms)
  |_,_=>none
abbrev yL(_:Bool)(ds:List D):Option (List D):=match ff ds with
 |some ps=>if ds.length < 64 then some (fe ps .non ds) else none
 | none=>(match eK ds with
  |some ns=>if ns.length < 64 then some ((f9 ns).map D.int) else none
  | none=>none)
theorem dr:∀ {ds:List D} {ns:List Int},eK ds=some ns->ds=ns.map D.int
 |[],_,e=>by cases e;rfl
 |d::ds,ns,e=>by
  simp only[eK] at e;split at e
  ·rename_i i ms h1;cases e;rw[dr h1];rfl
  ·cases e
theorem cy:∀ {ns:List Int} {vs:List V},VDs K m H (ns.map D.int) vs->vs=ns.map V.int
 |[],_,h=>by rw[Ye,VDs] at h;exact h
 |n::ns,_,h=>by
  rw[Zz,VDs] at h;obtain⟨v,r,rfl,h1,h2⟩:=h;rw[h1.ints,cy h2];rfl
theorem mI:∀ (ns:List Int),VDs K m H (ns.map D.int) (ns.map V.int)
 |[]=>by rw[Ye,Ye,VDs]
 |n::ns=>by rw[Zz,Zz,VDs];exact⟨_,_,rfl,a9,mI ns⟩
theorem qb:∀ {ds:List D} {vs:List V} {ps:List (Int × Int)},ff ds=some ps->VDs K m H ds vs->PairsV H vs ps
 |[],vs,ps,e,h=>by rw[VDs] at h;subst h;cases e;exact .nil
 |d::ds,vs,ps,e,h=>by
  rw[VDs] at h;obtain⟨v,r,rfl,h1,h2⟩:=h;simp only[ff] at e;cases hd:nZ d with
  |none=>rw[hd] at e;cases e
  |some p=>
   cases hr:ff ds with
   |none=>rw[hd,hr] at e;cases e
   |some qs=>
    rw[hd,hr] at e;cases e;unfold nZ at hd;split at hd
    ·cases hd;obtain⟨a,xs,rfl,hH,vx⟩:=h1.tups;obtain⟨x,y,rfl,v1,v2⟩:=v9 vx;cases v1.ints;cases v2.ints;exact .cons hH (qb hr h2)
    ·cases hd
theorem uc(h:VDs K m H ds vs):∀ (l:List Nat),(∀i ∈ l,i < ds.length)->VDs K m H (l.map λi=>ds.getD i .non) (l.map λi=>vs.getD i .non)
 |[],_=>by rw[Ye,Ye,VDs]
 |i::l,hl=>by
  rw[Zz,Zz,VDs];obtain⟨v,e,vv⟩:=h.get (gEG (hl i Zh));refine⟨_,_,rfl,?_,uc h l λj hj=>hl j (Zf _ hj)⟩;rw[ZF,ZF,gEG (hl i Zh),e];exact vv
theorem mJ:aR X (.builtin "sorted") (r1 (rTm X.K λtu ds=>if tu=false then yL tu ds else none)):=by
 refine aR.imp (aR.or se sg) λxs H Q h=>?_;obtain⟨_,rfl,m,S,tu,ds,a,vs,es,R,rfl,sq,vd,e,q⟩:=cr h;cases tu with
 |true=>cases e
 |false=>
  have e:yL false ds=some es:=by simpa using e
  unfold yL at e;cases hp:ff ds with
  |none=>
   rw[hp] at e;dsimp only at e;cases hi:eK ds with
   |none=>rw[hi] at e;cases e
   |some ns=>
    rw[hi] at e;dsimp only at e;split at e
    ·rename_i hl;cases e;have ed:=dr hi;subst ed;have ev:=cy vd;subst ev;exact .inr ⟨a,ns,rfl,sq,hl,nR R (mI _) q⟩
    ·cases e
  |some ps=>
   rw[hp] at e;dsimp only at e;split at e
   ·rename_i hl;cases e;have hlen:=vd.length;refine .inl ⟨a,vs,ps,rfl,sq,qb hp vd,by lia,nR R ?_ q⟩;unfold fe;rw[<-hlen];split
    ·exact vd
    ·exact uc vd _ λi hi=>(iK (by lia)).1 i hi
   ·cases e
end
end Ev
namespace Ev
open PySem PySem.Spec PyProof.Rows L2
abbrev gx:List Int->Int
 |[]=>0
 |n::ns=>ns.foldl (λa b=>if a < b then b else a) n
theorem hU:∀ (ns:List Int) (n:Int),(ns.foldl (λa b=>if a < b then b else a) n) ∈ n::ns/\∀x ∈ n::ns,x<=ns.foldl (λa b=>if a < b then b else a) n
 |[],n=>⟨Zh,λx hx=>by simp at hx;subst hx;exact ZP _⟩
 |m::ns,n=>by
  obtain⟨h1,h2⟩:=hU ns (if n < m then m else n);rw[Y0];refine⟨?_,λx hx=>?_⟩
  ·rcases Zn.mp h1 with h |h
   ·rw[h];split <;> simp
   ·exact Zf _ (Zf _ h)
  ·have h0:=h2 _ Zh;rcases Zn.mp hx with rfl |hx
   ·split at h0 <;> split <;> omega
   ·rcases Zn.mp hx with rfl |hx
    ·split at h0 <;> split <;> omega
    ·exact h2 x (Zf _ hx)
theorem si{M:Int}(h1:M ∈ ns)(h2:∀a,a ∈ ns->a<=M):M=gx ns:=by
 cases ns with
 |nil=>simp at h1
 |cons n ns=>
  obtain⟨a,b⟩:=hU ns n;have:=h2 _ a;have:=b _ h1;show M=ns.foldl _ n;omega
section
variable {X:Cx} {K:W6} {m:List Addr} {H:Hp} {S:Sto}
theorem wc(hc:X.calm=true):aR X (.builtin "max") (λxs H Q=>∃a ns,xs=[.ref a]/\SqL X.K H a (ns.map V.int)/\ns ≠ []/\Q (.int (gx ns)) H):=by
 intro pins s σ H xs us Q I r h;obtain⟨a,ns,rfl,sq,hne,q⟩:=h;obtain⟨u,rfl,ru⟩:=ce r;cases ru;obtain⟨its,rv,pl,hz⟩:=I.list sq;have hi:=bm rv;have hl:=pl.isList;obtain⟨ys,e⟩:=hi.allInts.items
 have hns:ns=ys.toList.map (·.1):=by
  have h1:=hi.numsOf;rw[<-VT,<-e];exact h1.symm
 have hsz:0 < ys.size:=by
  have h3:0 < ns.length:=Xy.mpr hne;rw[hns,Za,Zw] at h3;exact h3
 rw[e] at hl;refine max_intList (I.ok.hd hc) hl hsz λv h' tk hv hk=>?_;obtain⟨t,rfl⟩:=VI hv;obtain⟨b1,b2⟩:=argBest_gt (numAt ys) (ys.size - 1);have key:∀M:Int,M ∈ ns->(∀a,a ∈ ns->a<=M)->∃x H',Inv X pins σ H' { s with heap:=h',toks:=tk }/\az x (.int M t)/\Q x H':=λM h1 h2=>⟨.int (gx ns),H,I.kept hk,⟨t,by rw[si h1 h2]⟩,q⟩;refine key _ ?_ λa ha=>?_
 ·rw[hns,VS];exact getD_mem (by rw[Za,Zw];omega)
 ·rw[hns] at ha;obtain⟨j,hj,rfl⟩:=mem_getD ha;rw[Za,Zw] at hj;rw[<-VS];exact b2 j (by omega)
theorem n4(hh:A.handled=none)(hl:s.heap.IsTuple l (VH xs))(hne:0 < xs.size)
  (h:∀v h' tk,(VH xs)[argBest (λi j=>decide (numAt xs i > numAt xs j)) (xs.size - 1)]?=some v->(∀b o,s.heap.get? b=some o->h'.get? b=some o)->Q v { s with heap:=h',toks:=tk }) :
  wpAny (model prog w) A (call (.builtin "max") [.ref l]) Q E s:=by
 have hlt:l < s.heap.objs.size:=by obtain⟨_,e,_⟩:=hl;exact Zq e
 refine call_max_walk (UB hl ?_);refine⟨_,[_,l],[_],_,_,_,_,rfl,Walks.tuple (A:=A.in1) hh _ l (ZE hlt) (VH xs),⟨⟨_,Zx _ rfl,rfl,rfl⟩,hl.push _⟩,λc hc=>?_,by simpa[VH] using hne,CmpOf.ints_gt (numAt xs) (λ_ _=>VI),λv h' tk hP hk=>?_⟩
 ·show c < (s.heap.push _).objs.size;rw[Ym];rcases Zn.mp hc with rfl |hc
  ·exact YC _
  ·rcases Zn.mp hc with rfl |hc
   ·exact YJ hlt
   ·cases hc
 ·refine h v h' tk (by simpa[VH] using hP) λb o e=>hk b o (λhm=>?_) (Zc _ e);rcases Zn.mp hm with e1 |hm
  ·exact absurd (e1 ▸ Zq e) (ZM _)
  ·cases hm
theorem wg(hc:X.calm=true):aR X (.builtin "max") (λxs H Q=>∃a ns,xs=[.ref a]/\SqT X.K H a (ns.map V.int)/\ns ≠ []/\Q (.int (gx ns)) H):=by
 intro pins s σ H xs us Q I r h;obtain⟨a,ns,rfl,sq,hne,q⟩:=h;obtain⟨u,rfl,ru⟩:=ce r;cases ru;obtain⟨its,rv,pl,hz⟩:=I.tuple sq;have hi:=bm rv;have hl:s.heap.IsTuple a its.toArray:=pl;obtain⟨ys,e⟩:=hi.allInts.items
 have hns:ns=ys.toList.map (·.1):=by
  have h1:=hi.numsOf;rw[<-VT,<-e];exact h1.symm
 have hsz:0 < ys.size:=by
  have h3:0 < ns.length:=Xy.mpr hne;rw[hns,Za,Zw] at h3;exact h3
 rw[e] at hl;refine n4 (I.ok.hd hc) hl hsz λv h' tk hv hk=>?_;obtain⟨t,rfl⟩:=VI hv;obtain⟨b1,b2⟩:=argBest_gt (numAt ys) (ys.size - 1);have key:∀M:Int,M ∈ ns->(∀a,a ∈ ns->a<=M)->∃x H',Inv X pins σ H' { s with heap:=h',toks:=tk }/\az x (.int M t)/\Q x H':=λM h1 h2=>⟨.int (gx ns),H,I.kept hk,⟨t,by rw[si h1 h2]⟩,q⟩;refine key _ ?_ λa ha=>?_
 ·rw[hns,VS];exact getD_mem (by rw[Za,Zw];omega)
 ·rw[hns] at ha;obtain⟨j,hj,rfl⟩:=mem_getD ha;rw[Za,Zw] at hj;rw[<-VS];exact b2 j (by omega)
abbrev lW(tu:Bool)(ds:List D)(S:Sto):Option (D × Sto):=match eK ds with
 |some (n::ns)=>some (.int (gx (n::ns)),S)
 |_=>none
theorem wj(hc:X.calm=true):aR X (.builtin "max") (r1 (rSq X.K lW)):=by
 refine aR.imp (aR.or (wc hc) (wg hc)) λxs H Q h=>?_;obtain⟨_,rfl,m,S,tu,ds,a,vs,d,S',R,rfl,sq,vd,e,q⟩:=cr h;unfold lW at e;split at e
 ·rename_i n ns hi;cases e;have ed:=dr hi;subst ed;have ev:=cy vd;subst ev;rcases iI sq with sq |sq
  ·exact .inl ⟨a,n::ns,rfl,sq,by simp,q m H _ (Aft.refl R) a9⟩
  ·exact .inr ⟨a,n::ns,rfl,sq,by simp,q m H _ (Aft.refl R) a9⟩
 ·cases e
abbrev lX(tu:Bool)(ds:List D)(S:Sto):Option (D × Sto):=match tu,eK ds with
 |false,some ns=>some (.int (Wi ns),S)
 |_,_=>none
theorem wk(hc:X.calm=true):aR X (.builtin "sum") (λxs H Q=>∃ (a:Addr) (ns:List Int),xs=[.ref a]/\SqL X.K H a (ns.map V.int)/\Q (.int (Wi ns)) H):=by
 intro pins s σ H xs us Q I r h;obtain⟨a,ns,rfl,sq,q⟩:=h;obtain⟨u,rfl,ru⟩:=ce r;cases ru;obtain⟨its,rv,pl,hz⟩:=I.list sq;have hi:=bm rv;have hl:=pl.isList;obtain⟨ys,e⟩:=hi.allInts.items
 have hns:ns=ys.toList.map (·.1):=by
  have h1:=hi.numsOf;rw[<-VT,<-e];exact h1.symm
 rw[e] at hl;refine sum_intListG (I.ok.hd hc) hl λh' tk t' hk=>⟨.int (Wi ns),H,I.kept hk,⟨t',?_⟩,q⟩;rw[preSum_eq,hns,Z6 (by rw[Za,Zw];exact Zd _)]
theorem wm(hc:X.calm=true):aR X (.builtin "sum") (r1 (rSq X.K lX)):=by
 refine aR.imp (wk hc) λxs H Q h=>?_;obtain⟨_,rfl,m,S,tu,ds,a,vs,d,S',R,rfl,sq,vd,e,q⟩:=cr h;unfold lX at e;split at e
 ·rename_i ns hi;cases e;have ed:=dr hi;subst ed;have ev:=cy vd;subst ev;exact⟨a,ns,rfl,sq,q m H _ (Aft.refl R) a9⟩
 ·cases e
end
theorem yM(a d:Value):argsOk "max" ⟨[a],[(Str.ofString "default", d)]⟩:=by unfold argsOk;kernel_rfl
section
variable {prog:Program} {w:World} {A:Around} {R:Result->Shared->Prop} {I S:Addr} {fp wr:List Addr} {n:Nat} {P:Nat->Value->Prop} {St:Nat->Heap->Prop} {bt:Nat->Nat->Bool} {kw:List (Str × Value)}
theorem ud:(toString "max" ++ toString ".loop" : String) = "max.loop" := by decide
theorem km(W:Walks prog w A.in1 I fp wr n P St)(gc:CmpOf prog w A.in1 .Gt P bt)(gS:S ∉ fp):∀ (m i:Nat) (s:Shared) (b:Value) (c:Nat),i+1+m=n->St (i+1) s.heap->P (argBest bt i) b->s.heap.get? S=some { cls:=.type "list", dict:=none,data:=.seq #[b,b] c,slots:=#[] } ->
  (∀v h' tk,P (argBest bt (n - 1)) v->(∀a o,a ∉ wr->a ≠ S->s.heap.get? a=some o->h'.get? a=some o)->R (.ok (.ret v)) { s with heap:=h',toks:=tk })->codeAny (model prog w) A (.builtin "max.loop" ⟨[.ref I,.none,.ref S],kw⟩) R s
 |0,i,s,b,c,e,st,pb,gs,r=>by
  have sw:S ∉ wr:=λh=>gS (W.sub _ h);refine Vy Wx ?_;rw[Around.under_plainId WD _];show wpAny _ A.in1 (V2 (.ref S) >>= _) _ _ s;refine Uf (UG gs rfl ?_);show wpAny _ A.in1 (tryCatch (pyNext (.ref I)) _ >>= _) _ _ s;refine Uf (UL (W.done s _ _ (by rw[<-e];exact st) λh' tk kk=>?_));show wpAny _ A.in1 (Ud S (λ_=>#[]) >>= _) _ _ _;refine Uf (UN (kk S _ sw gs) rfl (Uf (Uq (Ux ?_))));exact r b _ tk (by rw[<-e];exact pb) λa o aw aS z=>(ZH _ _ (Ne.symm aS)).trans (kk a o aw z)
 |m+1,i,s,b,c,e,st,pb,gs,r=>by
  have sw:S ∉ wr:=λh=>gS (W.sub _ h);refine Vy Wx ?_;rw[Around.under_plainId WD _];show wpAny _ A.in1 (V2 (.ref S) >>= _) _ _ s;refine Uf (UG gs rfl ?_);show wpAny _ A.in1 (tryCatch (pyNext (.ref I)) _ >>= _) _ _ s;refine Uf (UL (W.item (i+1) s _ _ (by lia) st λv h' tk pv st' kk=>?_));have gs':=kk S _ sw gs;show wpAny _ A.in1 (tryCatch (holding [v,v] (VY .Gt v b >>= _)) _ >>= _) _ _ _;refine Uf (UL (Up (Uf (gc (i+1) (argBest bt i) v b _ _ _ pv pb ?_))));refine Uf (Up (UK ?_));refine Uf (Uq (Ux ?_));cases hb:bt (i+1) (argBest bt i) with
  |true=>
   simp only[if_true];refine Uf (UN gs' rfl (Uf (Uq ?_)));rw[ud];refine Ux ⟨VV WD _,km W gc gS m (i+1) _ v _ (by lia) (W.frame _ _ _ st' λa af o z=>?_) (by simp only[argBest,hb,if_true];exact pv) (Yc _ gs' rfl) λv' h'' tk'' pv' k2=>?_⟩
   ·exact(ZH _ _ (λz:S=a=>gS (by rw[z];exact af))).trans z
   ·exact r v' h'' tk'' pv' λa o aw aS z=>k2 a o aw aS ((ZH _ _ (Ne.symm aS)).trans (kk a o aw z))
  |false=>
   simp only[ZN,if_false];refine Uf (Uq ?_);rw[ud];refine Ux ⟨VV WD _,km W gc gS m (i+1) _ b c (by lia) st' (by simp only[argBest,hb,ZN,if_false];exact pb) gs' λv' h'' tk'' pv' k2=>?_⟩;exact r v' h'' tk'' pv' λa o aw aS z=>k2 a o aw aS (kk a o aw z)
theorem wn(W:Walks prog w A.in1 I fp wr n P St)(gc:CmpOf prog w A.in1 .Gt P bt)(gS:S ∉ fp)(gn:0 < n){c:Nat}(st:St 0 s.heap)(gs:s.heap.get? S=some { cls:=.type "list", dict:=none,data:=.seq #[] c,slots:=#[] })
  (r:∀v h' tk,P (argBest bt (n - 1)) v->(∀a o,a ∉ wr->a ≠ S->s.heap.get? a=some o->h'.get? a=some o)->R (.ok (.ret v)) { s with heap:=h',toks:=tk }):codeAny (model prog w) A (.builtin "max.loop" ⟨[.ref I,.none,.ref S],kw⟩) R s:=by
 have sw:S ∉ wr:=λh=>gS (W.sub _ h);refine Vy Wx ?_;rw[Around.under_plainId WD _];show wpAny _ A.in1 (V2 (.ref S) >>= _) _ _ s;refine Uf (UG gs rfl ?_);show wpAny _ A.in1 (tryCatch (pyNext (.ref I)) _ >>= _) _ _ s;refine Uf (UL (W.item 0 s _ _ gn st λv h' tk pv st' kk=>?_));have gs':=kk S _ sw gs;show wpAny _ A.in1 (Ud S (λ_=>#[v,v]) >>= _) _ _ _;refine Uf (UN gs' rfl ?_);rw[ud];refine Ux ⟨VV WD _,km W gc gS (n - 1) 0 _ v _ (by lia) (W.frame _ _ _ st' λa af o z=>?_) pv (Yc _ gs' rfl) λv' h'' tk'' pv' k2=>?_⟩
 ·exact(ZH _ _ (λz:S=a=>gS (by rw[z];exact af))).trans z
 ·exact r v' h'' tk'' pv' λa o aw aS z=>k2 a o aw aS ((ZH _ _ (Ne.symm aS)).trans (kk a o aw z))
theorem yN(W:Walks prog w A.in1 I fp wr 0 P St)(gS:S ∉ fp){c:Nat}(st:St 0 s.heap)(gs:s.heap.get? S=some { cls:=.type "list", dict:=none,data:=.seq #[] c,slots:=#[] })
  (r:∀h' tk,(∀a o,a ∉ wr->s.heap.get? a=some o->h'.get? a=some o)->R (.ok (.ret d)) { s with heap:=h',toks:=tk }):codeAny (model prog w) A (.builtin "max.loop" ⟨[.ref I,.none,.ref S],[(Str.ofString "default", d)]⟩) R s:=by
 refine Vy Wx ?_;rw[Around.under_plainId WD _];show wpAny _ A.in1 (V2 (.ref S) >>= _) _ _ s;refine Uf (UG gs rfl ?_);show wpAny _ A.in1 (tryCatch (pyNext (.ref I)) _ >>= _) _ _ s;refine Uf (UL (W.done s _ _ st λh' tk kk=>?_));exact Uf (UF (Ux (r h' tk kk)))
variable {E:Value->Shared->Prop} {s:Shared} {l:Addr} {xs:Array (Int × Tok)}
theorem yO(hh:A.handled=none)(hl:s.heap.IsList l (VH xs))
  (h1:0 < xs.size->∀v h' tk,(VH xs)[argBest (λi j=>decide (numAt xs i > numAt xs j)) (xs.size - 1)]?=some v->(∀b o,s.heap.get? b=some o->h'.get? b=some o)->Q v { s with heap:=h',toks:=tk })
  (h2:xs.size=0->∀h' tk,(∀b o,s.heap.get? b=some o->h'.get? b=some o)->Q d { s with heap:=h',toks:=tk }):wpAny (model prog w) A (call (.builtin "max") [.ref l] [(Str.ofString "default", d)]) Q E s:=by
 refine kmb_tree F.kind_max F.plain_max F.entry_max (yM _ _) ?_;show wpAny _ A.in1 (Builtin.Builtins.bindParams "max" ["key", "default"] 0 ⟨[],[(Str.ofString "default", d)]⟩ >>= _) _ _ s;refine Uf (Uv (show Builtin.Builtins.bindParams "max" ["key", "default"] 0 ⟨[],[(Str.ofString "default", d)]⟩=pure [none,some d] from rfl) ?_);refine Uf (Ux ?_);refine Uf (iter_intList hl λs2 e st fpl lI=>?_);subst e;have W:=Walks.list (prog:=prog) (w:=w) (A:=A.in1) hh s.heap.objs.size l lI (VH xs);refine Uf (Uu ?_);have gS:∀b ∈ [s.heap.objs.size,l],b < (s.heap.push { cls:=.type "list_iterator", data:=.fields #[.ref l,.int 0 0] }).objs.size:=fpl;rw[ud];by_cases hz:xs.size=0
 ·have e0:(VH xs).size=0:=by simpa[VH] using hz
  rw[e0] at W;refine Ux ⟨VV WD _,yN W (λhm=>ZM _ (fpl _ hm)) (W.frame _ _ _ st λb _ o e=>Zc _ e) (Zx _ rfl) λh' tk hk=>?_⟩;exact h2 hz h' tk (VU λb o hb e=>hk b o hb (Zc _ e))
 ·refine Ux ⟨VV WD _,wn W (CmpOf.ints_gt (numAt xs) (λ_ _=>VI)) (λhm=>ZM _ (fpl _ hm)) (by simp[VH];lia) (W.frame _ _ _ st λb _ o e=>Zc _ e) (Zx _ rfl) λv h' tk pv hk=>?_⟩;exact h1 (by lia) v h' tk (by simpa[VH] using pv) (VU λb o hb e=>hk b o hb (ZE (Zq e)) (Zc _ e))
end
abbrev qc(c:Int):List Int->Int
 |[]=>c
 |n::ns=>gx (n::ns)
abbrev eM(c:Int)(tu:Bool)(ds:List D)(S:Sto):Option (D × Sto):=match tu,eK ds with
 |false,some ns=>some (.int (qc c ns),S)
 |_,_=>none
section
variable {X:Cx} {K:W6} {m:List Addr} {H:Hp} {S:Sto} {e:Expr} {t:TA} {p pos kp vp:Pos} {c:Int} {j:Nat}
theorem HC(hc:X.calm=true)(hg:Gl X "max")(hm:X.mg "max" = none)(hdb:(("max" : Str) == ("__debug__" : Str))=false)(ha:PA X [e] t)(he:V6 [e] X.env=(false,eval e X.env)::V6 [] X.env) :
  PE X (.Call (.Name "max" p) [e] [⟨some "default", .Constant (.int c) j vp,kp⟩] pos) (tCB (r1 (rSq X.K (eM c))) t):=by
 intro pins s σ H Q I h;refine Ue (cV I hg hm Wl ?_ (by decide) hdb);refine callWith_kw (thn (ha pos pins s σ H _ I h) λus s1 ⟨vs,H1,I1,r,q1⟩=>?_) (by rw[he];rfl) (by rw[he];rfl) rfl rfl;refine thn (tM (nm:=some "default") (kpos:=kp) (nu (X:=X) (i:=c) (j:=j) (pos:=vp)) xL pos pins s1 σ H1 _ I1 (show bW (tC (.int c)) iw σ H1 (λzs H2=>zs=[.int c]/\H2=H1) from ⟨rfl,rfl⟩)) λks s2 ⟨zs,H2,I2,rz,ez,eH⟩=>?_;subst ez eH;obtain⟨u,rfl,ru⟩:=ce rz;obtain⟨tk,rfl⟩:=ru;obtain⟨_,rfl,m,S,tu,ds,a,ws,d,S',R,rfl,sq,vd,e',q⟩:=cr q1;obtain⟨u',rfl,ru'⟩:=ce r;cases ru';unfold eM at e';split at e'
 ·rename_i ns hi;cases e';have ed:=dr hi;subst ed;have ev:=cy vd;subst ev;have sq:SqL X.K H2 a (ns.map V.int):=sq;obtain⟨its,rv,pl,hz⟩:=I2.list sq;have hi:=bm rv;have hl:=pl.isList;obtain⟨ys,ey⟩:=hi.allInts.items
  have hns:ns=ys.toList.map (·.1):=by
   have h1:=hi.numsOf;rw[<-VT,<-ey];exact h1.symm
  have hlen:ns.length=ys.size:=by rw[hns,Za,Zw]
  rw[ey] at hl;refine yO (I2.ok.hd hc) hl (λhsz v h' tk' hv hk=>?_) (λhsz h' tk' hk=>?_)
  ·obtain⟨t',rfl⟩:=VI hv;obtain⟨b1,b2⟩:=argBest_gt (numAt ys) (ys.size - 1)
   have et:qc c ns=gx ns:=by
    cases ns with
    |nil=>rw[Z1] at hlen;lia
    |cons n ns=>rfl
   have key:∀M:Int,M ∈ ns->(∀a,a ∈ ns->a<=M)->∃x H',Inv X pins σ H' { s2 with heap:=h',toks:=tk' }/\az x (.int M t')/\Q x H':=λM h1 h2=>⟨.int (qc c ns),H2,I2.kept hk,⟨t',by rw[si h1 h2,et]⟩,q m H2 _ (Aft.refl R) a9⟩;refine key _ ?_ λa ha=>?_
   ·rw[hns,VS];exact getD_mem (by rw[Za,Zw];lia)
   ·rw[hns] at ha;obtain⟨j,hj,rfl⟩:=mem_getD ha;rw[Za,Zw] at hj;rw[<-VS];exact b2 j (by lia)
  ·have en:ns=[]:=Z3.mp (by lia);subst en;exact⟨.int c,H2,I2.kept hk,⟨tk,rfl⟩,q m H2 _ (Aft.refl R) a9⟩
 ·cases e'
end
section
variable {X:Cx} {K:W6} {m:List Addr} {H:Hp} {S:Sto}
abbrev cN(d:D)(S:Sto):Bool:=match d with
 |.ref n=>(am S n).isSome
 |_=>false
abbrev isTup:D->Bool
 |.tup _=>true
 |_=>false
abbrev sj(c:D->Sto->Bool)(f:D->List D->Sto->Option (D × Sto))(x:XE)(y:XA):XE:=λρ S=>bnd (x ρ S) λd S1=>if c d S1=true then bnd (y ρ S1) λas S2=>f d as S2 else none
def rM(K:W6)(f:D->List D->Sto->Option (D × Sto)):V->List V->Hp->VK->Prop:=λv vs H Q=>∃m S a as d S',Rel K m S H/\VD K m H a v/\VDs K m H as vs/\f a as S=some (d,S')/\∀m' H' u,Aft K m H S' m' H'->VD K m' H' d u->Q u H'
theorem sr(hT:∀ {m H S d v},Rel K m S H->VD K m H d v->c d S=true->tyV K T v H)(h:tE K (sj c f x y) σ H Q):tBM K T (rM K f) (tE K x) (tAr K y) σ H Q:=by
 obtain⟨m,ρ,S,d,S',E,R,e,q⟩:=h;obtain⟨a,S1,e1,e⟩:=ab e;split at e
 ·rename_i hc;obtain⟨as,S2,e2,e⟩:=ab e;refine⟨m,ρ,S,a,S1,E,R,e1,λm1 H1 v A1 va=>⟨hT A1.rel va hc,m1,ρ,S1,as,S2,E.mono R A1.ext,A1.rel,e2,λm2 H2 vs A2 vb=>?_⟩⟩;exact⟨m2,S2,a,as,d,S',A2.rel,va.mono A1.rel A2.ext,vb,e,λm3 H3 u A3 vd=>q m3 H3 u ((A1.trans A2).trans A3) vd⟩
 ·cases e
theorem Cw(hT:∀ {m H S d v},Rel K m S H->VD K m H d v->c d S=true->tyV K T v H)(h:tE K (sj c f x vU) σ H Q):L3 K T (rM K f) (tE K x) σ H Q:=by
 obtain⟨m,ρ,S,d,S',E,R,e,q⟩:=h;obtain⟨a,S1,e1,e⟩:=ab e;split at e
 ·rename_i hc;obtain⟨as,S2,e2,e⟩:=ab e;cases e2;exact⟨m,ρ,S,a,S1,E,R,e1,λm1 H1 v A1 va=>⟨hT A1.rel va hc,m1,S1,a,[],d,S',A1.rel,va,.nil,e,λm3 H3 u A3 vd=>q m3 H3 u (A1.trans A3) vd⟩⟩
 ·cases e
theorem su(R:Rel K m S H)(vd:VD K m H d v)(h:cN d S=true):tyV K "list" v H:=by
 cases d with
 |ref n=>
  simp only[cN] at h;obtain⟨ds,hs⟩:=Z0.mp h;obtain⟨p,vs,hp,sq,vds⟩:=R.seq hs;obtain⟨p',hp',rfl⟩:=vd.refs;rw[hp] at hp';cases hp';exact .inl ⟨rfl,vs,sq⟩
 |_=>cases h
theorem HD(R:Rel K m S H)(vd:VD K m H d v)(h:(λd (_:Sto)=>isTup d) d S=true):tyV K "tuple" v H:=by
 cases d with
 |tup ds=>
  obtain⟨a,vs,rfl,sq,_⟩:=vd.tups;exact .inr (.inl ⟨rfl,.inr ⟨vs,sq⟩⟩)
 |_=>cases h
abbrev chg(n:Nat)(S:Sto)(f:List D->Option (D × List D)):Option (D × Sto):=match S[n]? with
 |some (.lst ds)=>(f ds).map λr=>(r.1,S.set n (.lst r.2))
 |_=>none
theorem ko{n:Nat}(h:chg n S f=some (d,S')):∃ds es,S[n]?=some (.lst ds)/\f ds=some (d,es)/\S'=S.set n (.lst es):=by
 unfold chg at h;cases hn:S[n]? with
 |none=>rw[hn] at h;cases h
 |some o=>
  rw[hn] at h;cases o with
  |lst ds=>
   dsimp only at h;cases hf:f ds with
   |none=>rw[hf] at h;cases h
   |some r=>rw[hf] at h;cases h;exact⟨ds,r.2,rfl,hf,rfl⟩
  |_=>cases h
abbrev qd(d:D)(as:List D)(S:Sto):Option (D × Sto):=match d,as with
 |.ref n,[e]=>chg n S λds=>if ds.length < 100000 then some (.non,ds++[e]) else none
 |_,_=>none
abbrev sv(d:D)(as:List D)(S:Sto):Option (D × Sto):=match d,as with
 |.ref n,[]=>chg n S λds=>(ds[ds.length - 1]?).map λx=>(x,ds.dropLast)
 |_,_=>none
abbrev gy(d:D)(as:List D)(S:Sto):Option (D × Sto):=match d,as with
 |.ref n,[.int i]=>chg n S λds=>match ixN ds.length i with
  |some k=>(ds[k]?).map λx=>(x,ds.eraseIdx k)
  |none=>none
 |_,_=>none
theorem n5{n:Nat}(R:Rel K m S H)(vd:VD K m H (.ref n) v)(hn:S[n]?=some (.lst ds)):∃a vs,v = .ref a/\m[n]?=some a/\H a=some (.lst vs)/\VDs K m H ds vs:=by
 obtain⟨a,vs,ha,hH,q⟩:=R.lst hn;obtain⟨a',ha',e⟩:=vd.refs;rw[ha] at ha';cases ha';exact⟨a,vs,e,ha,hH,q⟩
theorem fO{n:Nat}(R:Rel K m S H)(ha:m[n]?=some a)(vd:VDs K m H es ws):Aft K m H (S.set n (.lst es)) m (upd H a (.lst ws)):=let ⟨x,y⟩:=R.write ha vd;⟨x,y⟩
theorem HE:MtR X "list.append" (rM X.K qd):=by
 intro pins s σ H x xs v us Q I rx rs h;refine mq pins s σ H x xs v us Q I rx rs ?_;obtain⟨m,S,a,as,d,S',R,va,vs,e,q⟩:=h;unfold qd at e;split at e
 ·rename_i n z;obtain⟨ds,es,hn,hf,rfl⟩:=ko e;split at hf
  ·rename_i hl;cases hf;obtain⟨p,ws,rfl,hp,hH,vds⟩:=n5 R va hn;obtain⟨y,rfl,vy⟩:=Hz vs;refine⟨p,ws,y,rfl,rfl,hH,by rw[V4,<-vds.length];lia,q m _ _ (fO R hp (vds.append (.cons vy .nil))) nM⟩
  ·cases hf
 ·cases e
theorem Cy(h:VDs K m H ds vs)(e:ds[ds.length - 1]?=some x):∃v,vs[vs.length - 1]?=some v/\VD K m H x v:=by rw[<-h.length];exact h.get e
theorem kq:∀ {ds:List D} {vs:List V} (k:Nat),VDs K m H ds vs->VDs K m H (ds.eraseIdx k) (vs.eraseIdx k)
 |[],vs,k,h=>by rw[VDs] at h;subst h;exact .nil
 |d::ds,vs,0,h=>by
  rw[VDs] at h;obtain⟨y,r,rfl,p,q⟩:=h;exact q
 |d::ds,vs,k+1,h=>by
  rw[VDs] at h;obtain⟨y,r,rfl,p,q⟩:=h;exact .cons p (kq k q)
theorem qe(h:VDs K m H ds vs):VDs K m H ds.dropLast vs.dropLast:=by
 rw[<-gq,<-gq,<-h.length];exact kq _ h
theorem Cz:MtR X "list.pop" (rM X.K sv):=by
 intro pins s σ H x xs v us Q I rx rs h;refine G2 pins s σ H x xs v us Q I rx rs ?_;obtain⟨m,S,a,as,d,S',R,va,vs,e,q⟩:=h;unfold sv at e;split at e
 ·rename_i n;obtain⟨ds,es,hn,hf,rfl⟩:=ko e;cases hl:ds[ds.length - 1]? with
  |none=>rw[hl] at hf;cases hf
  |some z=>
   rw[hl] at hf;cases hf;obtain⟨p,ws,rfl,hp,hH,vds⟩:=n5 R va hn;rw[VDs] at vs;subst vs;obtain⟨y,hy,vy⟩:=Cy vds hl;have A:=fO R hp (qe vds);exact⟨p,ws,y,rfl,rfl,hH,hy,q m _ _ A (vy.mono R A.ext)⟩
 ·cases e
theorem wo:MtR X "list.pop" (rM X.K gy):=by
 intro pins s σ H x xs v us Q I rx rs h;refine xV pins s σ H x xs v us Q I rx rs ?_;obtain⟨m,S,a,as,d,S',R,va,vs,e,q⟩:=h;unfold gy at e;split at e
 ·rename_i n i;obtain⟨ds,es,hn,hf,rfl⟩:=ko e;cases hk:ixN ds.length i with
  |none=>rw[hk] at hf;cases hf
  |some k=>
   rw[hk] at hf;dsimp only at hf;cases hl:ds[k]? with
   |none=>rw[hl] at hf;cases hf
   |some z=>
    rw[hl] at hf;cases hf;obtain⟨p,ws,rfl,hp,hH,vds⟩:=n5 R va hn;obtain⟨y,rfl,vi⟩:=Hz vs;cases vi.ints;obtain⟨y,hy,vy⟩:=vds.get hl;have A:=fO R hp (kq k vds);obtain⟨h1,h2,h3,h4⟩:=nv hk;have hz:=(I.lst hH).choose_spec.choose_spec.2.2;have hle:=vds.length;rw[V4] at hz;exact⟨p,ws,i,k,y,rfl,rfl,hH,by lia,by lia,by rw[<-vds.length];exact h1,hy,q m _ _ A (vy.mono R A.ext)⟩
 ·cases e
abbrev sx(d:D)(as:List D)(S:Sto):Option (D × Sto):=match d,as with
 |.tup ds,[x]=>if cf x=true/\ds.all cf=true then some (.int (ds.countP λz=>eqF z x:Nat),S) else none
 |_,_=>none
theorem CA:MtR X "tuple.count" (rM X.K sx):=by
 intro pins s σ H x xs v us Q I rx rs h;refine vS X.K rfl pins s σ H x xs v us Q I rx rs ?_;obtain⟨m,S,a,as,d,S',R,va,vs,e,q⟩:=h;unfold sx at e;split at e
 ·rename_i ds z;split at e
  ·rename_i hf;cases e;obtain⟨p,ws,rfl,sq,vds⟩:=va.tups;obtain⟨y,rfl,vy⟩:=Hz vs;exact⟨p,ws,y,rfl,rfl,.of sq,jA vy hf.1,g9 vds hf.2,q m H _ (Aft.refl R) (by rw[mG vy hf.1 vds hf.2];exact a9)⟩
  ·cases e
 ·cases e
abbrev iM(o i v:D)(S:Sto):Option Sto:=match o,i with
 | .ref n,.int k=>(match S[n]? with
  |some (.lst ds)=>(ixN ds.length k).map λj=>S.set n (.lst (ds.set j v))
  | _=>none)
 |o,i=>yv o i v S
def Mh(K:W6):BH:=λo i v H Q=>∃m S a b c S',Rel K m S H/\VD K m H a o/\VD K m H b i/\VD K m H c v/\iM a b c S=some S'/\∀m' H',Aft K m H S' m' H'->Q H'
theorem Mi(hu:X.A.units+64 < cLine):GC X (Mh X.K):=by
 intro pins s σ H o i v ov iv u Q I ro ri rv h;obtain⟨m,S,a,b,c,S',R,va,vb,vc,e,q⟩:=h;unfold iM at e;split at e
 ·rename_i n k;cases hn:S[n]? with
  |none=>rw[hn] at e;cases e
  |some ob=>
   rw[hn] at e;cases ob with
   |lst ds=>
    dsimp only at e;cases hj:ixN ds.length k with
    |none=>rw[hj] at e;cases e
    |some j=>
     rw[hj] at e;cases e;obtain⟨p,ws,rfl,hp,hH,vds⟩:=n5 R va hn;cases vb.ints;exact xR pins s σ H _ _ v ov iv u Q I ro ri rv ⟨p,ws,k,j,rfl,rfl,hH,by rw[<-vds.length];exact hj,q m _ (fO R hp (vds.set vc))⟩
   |_=>cases e
 ·obtain⟨k,n,kss,ds,hk,rfl,hn,hl,rfl⟩:=vW e;obtain⟨a,b,H',rfl,rfl,g,A⟩:=Cm R hk hn hl vb va vc;cases ro;cases ri;exact vR (show X.A.units+2 < cLine by lia) I g rfl rv λs' I'=>⟨H',I',q m H' A⟩
mutual
noncomputable def eN(t:D->Option Dw.D):List D->Option (List Dw.D)
 |[]=>some []
 |d::ds=>match t d,eN t ds with
  |some x,some xs=>some (x::xs)
  |_,_=>none
end
abbrev cL:Nat->Sto->D->Option Dw.D
 |0,_,_=>none
 |n+1,S,d=>match d with
  |.non=>some .non
  |.bl b=>some (.bl b)
  |.int i=>some (.int i)
  |.str x=>some (.str x)
  |.tup ds=>(eN (cL n S) ds).map .tup
  | .ref k=>(match S[k]? with
   |some (.lst ds)=>(eN (cL n S) ds).map .lst
   | _=>none)
theorem kr(ht:∀d x v,t d=some x->VD K m H d v->Dw.Br [] H x v):∀ {ds:List D} {xs:List Dw.D} {vs:List V},eN t ds=some xs->VDs K m H ds vs->Dw.BrL [] H xs vs
 |[],xs,vs,e,h=>by rw[VDs] at h;simp only[eN] at e;cases e;rw[h,Dw.BrL]
 |d::ds,xs,vs,e,h=>by
  rw[VDs] at h;obtain⟨y,r,rfl,p,q⟩:=h;simp only[eN] at e;cases h1:t d with
  |none=>rw[h1] at e;cases e
  |some x=>
   cases h2:eN t ds with
   |none=>rw[h1,h2] at e;cases e
   |some ys=>
    rw[h1,h2] at e;cases e;rw[Dw.BrL];exact⟨y,r,rfl,ht _ _ _ h1 p,kr ht h2 q⟩
theorem n6(R:Rel K m S H):∀ (n:Nat) (d:D) (x:Dw.D) (v:V),cL n S d=some x->VD K m H d v->Dw.Br [] H x v
 |0,_,_,_,e,_=>by simp[cL] at e
 |n+1,d,x,v,e,h=>by
  cases d with
  |non=>simp only[cL] at e;cases e;rw[Dw.Br];exact h.nons
  |bl _=>simp only[cL] at e;cases e;rw[Dw.Br];exact h.bls
  |int _=>simp only[cL] at e;cases e;rw[Dw.Br];exact h.ints
  |str _=>simp only[cL] at e;cases e;rw[Dw.Br];exact h.strs
  |tup ds=>
   simp only[cL] at e;cases ht:eN (cL n S) ds with
   |none=>rw[ht] at e;cases e
   |some xs=>
    rw[ht] at e;cases e;obtain⟨a,vs,rfl,sq,p⟩:=h.tups;rw[Dw.Br];exact⟨a,vs,rfl,sq,kr (n6 R n) ht p⟩
  |ref k=>
   simp only[cL] at e;obtain⟨a,ha,rfl⟩:=h.refs;cases hk:S[k]? with
   |none=>rw[hk] at e;cases e
   |some o=>
    rw[hk] at e;obtain⟨a',ha',r⟩:=R.ob k o hk;rw[ha] at ha';cases ha';cases o with
    |lst ds=>
     dsimp only at e;cases ht:eN (cL n S) ds with
     |none=>rw[ht] at e;cases e
     |some xs=>
      rw[ht] at e;cases e;obtain⟨vs,hH,p⟩:=r;rw[Dw.Br];exact⟨a,vs,rfl,by simp,hH,kr (n6 R n) ht p⟩
    |frz ds=>cases e
    |dic ks ds=>cases e
open Classical in
abbrev ku(d:D)(S:Sto):Option (D × Sto):=match cL 100 S d with
 |some t=>if Dw.Shn t then some (.str (Dw.aX t).shown,S) else none
 |none=>none
theorem sy{k:Nat}(hr:Room k X.A):aR X (.builtin "repr") (r1 (rS1 X.K ku)):=by
 refine aR.imp (Dw.rL hr) λxs H Q h=>?_;obtain⟨x,rfl,m,S,a,d,S',R,va,e,q⟩:=cr h;unfold ku at e;cases ht:cL 100 S a with
 |none=>rw[ht] at e;cases e
 |some t=>
  rw[ht] at e;dsimp only at e;split at e
  ·rename_i hs;cases e;exact⟨x,[],t,rfl,n6 R 100 a t x ht va,hs,q m H _ (Aft.refl R) nP⟩
  ·cases e
end
@[inline]abbrev Nxt:=Nat->Sto->Option (Option D)
@[inline]abbrev XI:=Rho->Sto->Option (Nxt × Sto)
structure ExtB(B:List Addr)(m:List Addr)(H:Hp)(m':List Addr)(H':Hp):Prop where
 pre:m <+: m'
 keep:∀a o,H a=some o->a ∉ m->a ∉ B->H' a=some o
 new:∀a,a ∈ m'->a ∉ m->H a=none
 nb:∀b,b ∈ B->b ∉ m'
def AtB(B:List Addr)(m:List Addr)(H:Hp):Prop:=∀b,b ∈ B->(∃vs,H b=some (.lst vs))/\b ∉ m
theorem Ext.toB(hB:AtB B m H)(x:Ext m H m' H'):ExtB B m H m' H':=⟨x.pre,λa o h n _=>x.keep a o h n,x.new,λb hb z=>by
 obtain⟨⟨vs,e⟩,n⟩:=hB b hb;have:=x.new b z n;rw[e] at this;cases this⟩
theorem ExtB.trans(x:ExtB B m H m1 H1)(y:ExtB B m1 H1 m2 H2):ExtB B m H m2 H2:=by
 refine⟨x.pre.trans y.pre,λa o h n nb=>?_,λa h n=>?_,y.nb⟩
 ·have n1:a ∉ m1:=λz=>by have:=x.new a z n;rw[this] at h;cases h
  exact y.keep a o (x.keep a o h n nb) n1 nb
 ·by_cases h1:a ∈ m1
  ·exact x.new a h1 n
  ·cases e:H a with
   |none=>rfl
   |some o=>
    by_cases hb:a ∈ B
    ·exact absurd h (y.nb a hb)
    ·have:=x.keep a o e n hb;rw[y.new a h h1] at this;cases this
theorem AtB.ext(hB:AtB B m H)(x:Ext m H m' H'):AtB B m' H':=λb hb=>by
 obtain⟨⟨vs,e⟩,n⟩:=hB b hb;exact⟨⟨vs,x.keep _ _ e n⟩,(x.toB hB).nb b hb⟩
def IOk(K:W6)(B:List Addr)(J:It)(nx:Nxt)(m0:List Addr)(H0:Hp):Prop:=∀ (m:List Addr) (S:Sto) (H:Hp) (i:Nat),ExtB B m0 H0 m H->Rel K m S H ->
 (nx i S=some none->J.stop i H)/\(∀d,nx i S=some (some d)->J.go i H/\∀x H',J.yld i H x H'->Aft K m H S m H'/\VD K m H' d x)
def tIt(K:W6)(B:List Addr)(x:XI):TI:=λσ H R=>∃m ρ S nx S',EnvR K m H ρ σ/\Rel K m S H/\AtB B m H/\x ρ S=some (nx,S')/\∀m' H' J,Aft K m H S' m' H'->IOk K B J nx m' H'->R J H'
abbrev nxL(ds:List D):Nxt:=λi _=>some ds[i]?
abbrev nxS(n:Nat):Nxt:=λi S=>(am S n).map λds=>ds[i]?
abbrev nxR(lo:Int)(n:Nat):Nxt:=λi _=>some (if i < n then some (.int (lo+i)) else none)
abbrev mD(i:Nat)(d:D):D:=.tup [.int i,d]
abbrev enm(ds:List D)(i:Nat):Option (Option D):=if i<=ds.length then some (ds[i]?.map (mD i)) else none
abbrev sC(ds:List D):Nxt:=λi _=>enm ds i
abbrev CB(n:Nat):Nxt:=λi S=>(am S n).bind λds=>enm ds i
section
variable {X:Cx} {K:W6} {m B:List Addr} {H:Hp} {S:Sto}
theorem CC(R:Rel K m0 S0 H0)(hB:AtB B m0 H0)(x:ExtB B m0 H0 m H)(h:H0 a=some (.tup xs)):H a=some (.tup xs):=x.keep _ _ h (R.notTup h) λz=>by
 obtain⟨⟨vs,e⟩,_⟩:=hB a z;rw[e] at h;cases h
theorem VDs.monoB(R:Rel K m0 S0 H0)(hB:AtB B m0 H0)(x:ExtB B m0 H0 m H)(h:VDs K m0 H0 ds vs):VDs K m H ds vs:=VDs.mono0 x.pre (λ_ _=>CC R hB x) h
theorem VD.monoB(R:Rel K m0 S0 H0)(hB:AtB B m0 H0)(x:ExtB B m0 H0 m H)(h:VD K m0 H0 d v):VD K m H d v:=VD.mono0 x.pre (λ_ _=>CC R hB x) h
theorem EnvR.monoB(R:Rel K m0 S0 H0)(hB:AtB B m0 H0)(x:ExtB B m0 H0 m H)(h:EnvR K m0 H0 ρ σ):EnvR K m H ρ σ:=
 ⟨h.len,λi d e=>let ⟨v,p,q⟩:=h.at_ i d e;⟨v,p,VD.monoB R hB x q⟩⟩
theorem qg(h:∀m S H i o,ExtB B m0 H0 m H->Rel K m S H->nx i S=some o->∃ds vs,o=ds[i]?/\SqL K H a vs/\VDs K m H ds vs):IOk K B (Itl K a) nx m0 H0:=by
 intro m S H i x R;refine⟨λe=>?_,λd e=>?_⟩
 ·obtain⟨ds,vs,e',sq,vd⟩:=h m S H i _ x R e;exact⟨vs,sq,by rw[<-vd.length];exact Yb.mp e'.symm⟩
 ·obtain⟨ds,vs,e',sq,vd⟩:=h m S H i _ x R e;obtain⟨v,hv,vv⟩:=vd.get e'.symm;refine⟨⟨vs,v,sq,hv⟩,λy H' ⟨eH,hy⟩=>?_⟩;subst eH;have:=hy vs sq;rw[hv] at this;cases this;exact⟨Aft.refl R,vv⟩
theorem CD(R0:Rel K m0 S0 H0)(hB:AtB B m0 H0)(sq:H0 a=some (.tup vs))(vd:VDs K m0 H0 ds vs):IOk K B (Itt K a) (nxL ds) m0 H0:=by
 intro m S H i x R;have sq':SqT K H a vs:=.of (CC R0 hB x sq);have vd':=vd.monoB R0 hB x;refine⟨λe=>⟨vs,sq',?_⟩,λd e=>?_⟩
 ·rw[<-vd'.length];exact Yb.mp (Option.some.inj e)
 ·obtain⟨v,hv,vv⟩:=vd'.get (Option.some.inj e);refine⟨⟨vs,v,sq',hv⟩,λy H' ⟨eH,hy⟩=>?_⟩;subst eH;have:=hy vs sq';rw[hv] at this;cases this;exact⟨Aft.refl R,vv⟩
theorem ue{lo:Int}{n:Nat}:IOk K B (Itr lo n) (nxR lo n) m0 H0:=by
 intro m S H i x R;unfold nxR;refine⟨λe=>?_,λd e=>?_⟩
 ·split at e
  ·cases e
  ·show n<=i;lia
 ·split at e
  ·rename_i hi;cases e;exact⟨hi,λy H' ⟨eH,hy⟩=>by subst eH;subst hy;exact⟨Aft.refl R,a9⟩⟩
  ·cases e
theorem n8(h:∀m S H i o,ExtB B m0 H0 m H->Rel K m S H->nx i S=some o->∃ds vs,enm ds i=some o/\sqf K H a vs/\VDs K m H ds vs):IOk K B (Ite K a sqf) nx m0 H0:=by
 intro m S H i x R;refine⟨λe=>?_,λd e=>?_⟩
 ·obtain⟨ds,vs,e',sq,vd⟩:=h m S H i _ x R e;unfold enm at e';split at e'
  ·rename_i hl;refine⟨vs,sq,?_⟩;rw[<-vd.length];cases hd:ds[i]? with
   |none=>have:=Yb.mp hd;lia
   |some z=>rw[hd] at e';cases e'
  ·cases e'
 ·obtain⟨ds,vs,e',sq,vd⟩:=h m S H i _ x R e;unfold enm at e';split at e'
  ·cases hd:ds[i]? with
   |none=>rw[hd] at e';cases e'
   |some z=>
    rw[hd] at e';cases e';obtain⟨v,hv,vv⟩:=vd.get hd;refine⟨⟨vs,v,sq,hv⟩,λy H' ⟨T,hT,ey,hy⟩=>?_⟩;subst ey;have eH:=hy vs v sq hv;subst eH;have xb:=Ext.beside R hT (.tup [.int i,v]);exact⟨⟨xb,R.beside hT _⟩,nQ a7 (.cons a9 (.cons (vv.mono R xb) .nil))⟩
  ·cases e'
abbrev Pl(d:D):Option Nxt:=match d with
 |.tup ds=>some (nxL ds)
 |.ref n=>some (nxS n)
 |_=>none
abbrev xIV(x:XE):XI:=λρ S=>bnd (x ρ S) λd S1=>match d with
 |.tup ds=>some (nxL ds,S1)
 |.ref n=>if (am S1 n).isSome=true then some (nxS n,S1) else none
 |_=>none
abbrev xIT(x:XA):XI:=λρ S=>bnd (x ρ S) λds S1=>some (nxL ds,S1)
abbrev xEV(x:XE):XI:=λρ S=>bnd (x ρ S) λd S1=>match d with
 |.tup ds=>some (sC ds,S1)
 |.ref n=>if (am S1 n).isSome=true then some (CB n,S1) else none
 |_=>none
abbrev xET(x:XA):XI:=λρ S=>bnd (x ρ S) λds S1=>some (sC ds,S1)
abbrev lim(i:Int):Bool:=decide (-(2 ^ 62)<=i) && decide (i < 2 ^ 62)
abbrev xR1(x:XE):XI:=λρ S=>bnd (x ρ S) λd S1=>match d with
 |.int j=>if lim j=true then some (nxR 0 j.toNat,S1) else none
 |_=>none
abbrev xR2(x y:XE):XI:=λρ S=>bnd (x ρ S) λd S1=>bnd (y ρ S1) λe S2=>match d,e with
 |.int i,.int j=>if lim i=true/\lim j=true then some (nxR i (j - i).toNat,S2) else none
 |_,_=>none
theorem fg{i:Int}(h:lim i=true):-(2 ^ 62)<=i/\i < 2 ^ 62:=by simpa[lim] using h
theorem jC{n:Nat}(ha:m0[n]?=some a)(x:m0 <+: m)(R:Rel K m S H)(hs:am S n=some ds):∃vs,SqL K H a vs/\VDs K m H ds vs:=by
 obtain⟨p,vs,hp,sq,vd⟩:=R.seq hs;have:=jx x ha;rw[this] at hp;cases hp;exact⟨vs,sq,vd⟩
theorem Mj(hB:AtB B m H)(h:H a=none):a ∉ B:=λz=>by
 obtain⟨⟨vs,e⟩,_⟩:=hB a z;rw[h] at e;cases e
theorem OQ(h:tIt K B (xIV x) σ H R):xE K (tE K x) σ H R\/LJ K (tE K x) σ H R:=by
 obtain⟨m,ρ,S,nx,S',E,Rl,hB,e,q⟩:=h;obtain⟨d,S1,e1,e⟩:=ab e;cases d with
 |tup ds=>
  cases e;refine .inr ⟨m,ρ,S,_,_,E,Rl,e1,λm1 H1 v A1 vd=>?_⟩;obtain⟨a,vs,rfl,sq,vds⟩:=vd.tups;exact⟨a,rfl,⟨vs,.of sq⟩,q m1 H1 _ A1 (CD A1.rel (hB.ext A1.ext) sq vds)⟩
 |ref n=>
  dsimp only at e;split at e
  ·rename_i hs;cases e;refine .inl ⟨m,ρ,S,_,_,E,Rl,e1,λm1 H1 v A1 vd=>?_⟩;obtain⟨a,ha,rfl⟩:=vd.refs;obtain⟨ds,hds⟩:=Z0.mp hs;obtain⟨vs,sq,vds⟩:=jC ha (Yd _) A1.rel hds;refine⟨a,rfl,⟨vs,sq⟩,q m1 H1 _ A1 (qg λm2 S2 H2 i o x2 R2 e2=>?_)⟩;unfold nxS at e2;cases h2:am S2 n with
   |none=>rw[h2] at e2;cases e2
   |some es=>
    rw[h2] at e2;cases e2;obtain⟨ws,sq2,vd2⟩:=jC ha x2.pre R2 h2;exact⟨es,ws,rfl,sq2,vd2⟩
  ·cases e
 |_=>cases e
theorem OT(h:tIt K B (xIT x) σ H R):xE K (gw K x) σ H R:=by
 obtain⟨m,ρ,S,nx,S',E,Rl,hB,e,q⟩:=h;obtain⟨ds,S1,e1,e⟩:=ab e;cases e;refine⟨m,ρ,S,_,_,E,Rl,e1,λm1 H1 a vs A1 sq n1 n2 n3 vd=>⟨a,rfl,⟨vs,.of sq⟩,q m1 H1 _ A1 (qg λm2 S2 H2 i o x2 R2 e2=>?_)⟩⟩;cases e2;exact⟨ds,vs,rfl,.of (x2.keep _ _ sq n1 (Mj hB n3)),vd.monoB A1.rel (hB.ext A1.ext) x2⟩
theorem Ml(h:tIt K B (xEV x) σ H R):G9 K (bW (tE K x) iw) σ H R\/Ma K (bW (tE K x) iw) σ H R:=by
 obtain⟨m,ρ,S,nx,S',E,Rl,hB,e,q⟩:=h;obtain⟨d,S1,e1,e⟩:=ab e;cases d with
 |tup ds=>
  cases e;refine .inr ⟨m,ρ,S,_,_,E,Rl,e1,λm1 H1 v A1 vd=>?_⟩;obtain⟨a,vs,rfl,sq,vds⟩:=vd.tups;refine⟨a,vs,rfl,.of sq,q m1 H1 _ A1 (n8 λm2 S2 H2 i o x2 R2 e2=>⟨ds,vs,e2,.of (CC A1.rel (hB.ext A1.ext) x2 sq),vds.monoB A1.rel (hB.ext A1.ext) x2⟩)⟩
 |ref n=>
  dsimp only at e;split at e
  ·rename_i hs;cases e;refine .inl ⟨m,ρ,S,_,_,E,Rl,e1,λm1 H1 v A1 vd=>?_⟩;obtain⟨a,ha,rfl⟩:=vd.refs;obtain⟨ds,hds⟩:=Z0.mp hs;obtain⟨vs,sq,vds⟩:=jC ha (Yd _) A1.rel hds;refine⟨a,vs,rfl,sq,q m1 H1 _ A1 (n8 λm2 S2 H2 i o x2 R2 e2=>?_)⟩;unfold CB at e2;cases h2:am S2 n with
   |none=>rw[h2] at e2;cases e2
   |some es=>
    rw[h2] at e2;obtain⟨ws,sq2,vd2⟩:=jC ha x2.pre R2 h2;exact⟨es,ws,e2,sq2,vd2⟩
  ·cases e
 |_=>cases e
theorem Mm(h:tIt K B (xET x) σ H R):G9 K (bW (gw K x) iw) σ H R:=by
 obtain⟨m,ρ,S,nx,S',E,Rl,hB,e,q⟩:=h;obtain⟨ds,S1,e1,e⟩:=ab e;cases e;exact⟨m,ρ,S,_,_,E,Rl,e1,λm1 H1 a vs A1 sq n1 n2 n3 vd=>⟨a,vs,rfl,.of sq,q m1 H1 _ A1 (n8 λm2 S2 H2 i o x2 R2 e2=>⟨ds,vs,e2,.of (x2.keep _ _ sq n1 (Mj hB n3)),vd.monoB A1.rel (hB.ext A1.ext) x2⟩)⟩⟩
theorem Mn(h:tIt K B (xR1 x) σ H R):Fv (bW (tE K x) iw) σ H R:=by
 obtain⟨m,ρ,S,nx,S',E,Rl,hB,e,q⟩:=h;obtain⟨d,S1,e1,e⟩:=ab e;refine⟨m,ρ,S,d,S1,E,Rl,e1,λm1 H1 v A1 vd=>?_⟩;cases d with
 |int j=>
  dsimp only at e;split at e
  ·rename_i hl;cases e;exact⟨j,by rw[vd.ints],(fg hl).1,(fg hl).2,q m1 H1 _ A1 ue⟩
  ·cases e
 |_=>cases e
theorem Mo(h:tIt K B (xR2 x y) σ H R):Fw (bW (tE K x) (bW (tE K y) iw)) σ H R:=by
 obtain⟨m,ρ,S,nx,S',E,Rl,hB,e,q⟩:=h;obtain⟨d,S1,e1,e⟩:=ab e;obtain⟨c,S2,e2,e⟩:=ab e;refine⟨m,ρ,S,d,S1,E,Rl,e1,λm1 H1 v A1 vd=>⟨m1,ρ,S1,c,S2,E.mono Rl A1.ext,A1.rel,e2,λm2 H2 w A2 vc=>?_⟩⟩;cases d with
 |int i=>
  cases c with
  |int j=>
   dsimp only at e;split at e
   ·rename_i hl;cases e;exact⟨i,j,by rw[vd.ints,vc.ints],⟨(fg hl.1).1,(fg hl.1).2,(fg hl.2).1,(fg hl.2).2⟩,q m2 H2 _ (A1.trans A2) ue⟩
   ·cases e
  |_=>cases e
 |_=>cases e
inductive Tg where
 |name (i:Nat) |tup (ts:List Tg)
mutual
noncomputable def au:Tg->D->Rho->Option Rho
 |.name i,d,ρ=>if i < ρ.length then some (ρ.set i (some d)) else none
 |.tup ts,.tup ds,ρ=>aK ts ds ρ
 |_,_,_=>none
noncomputable def aK:List Tg->List D->Rho->Option Rho
 |[],[],ρ=>some ρ
 |t::ts,d::ds,ρ=>match au t d ρ with
  |some ρ'=>aK ts ds ρ'
  |none=>none
 |_,_,_=>none
end
def tTg(K:W6)(t:Tg):TG:=λx σ H Q=>∃m S ρ d ρ',Rel K m S H/\EnvR K m H ρ σ/\VD K m H d x/\au t d ρ=some ρ'/\∀σ',EnvR K m H ρ' σ'->Q σ' H
def yP(K:W6)(ts:List Tg):TGs:=λxs σ H Q=>∃m S ρ ds ρ',Rel K m S H/\EnvR K m H ρ σ/\VDs K m H ds xs/\aK ts ds ρ=some ρ'/\∀σ',EnvR K m H ρ' σ'->Q σ' H
theorem EnvR.set{i:Nat}(E:EnvR K m H ρ σ)(h:VD K m H d v):EnvR K m H (ρ.set i (some d)) (σ.set i (some v)):=by
 refine⟨by simp[E.len],λj d' e=>?_⟩;rw[Yq] at e;rw[Yq,<-E.len];by_cases hj:i=j
 ·rw[if_pos hj] at e ⊢;split at e
  ·rename_i hl;rw[if_pos hl];cases e;exact⟨v,rfl,h⟩
  ·cases e
 ·rw[if_neg hj] at e ⊢;exact E.at_ j d' e
theorem n9{i:Nat}(h:tTg K (.name i) x σ H Q):o9 i x σ H Q:=by
 obtain⟨m,S,ρ,d,ρ',R,E,vd,e,q⟩:=h;simp only[au] at e;split at e
 ·cases e;exact q _ (E.set vd)
 ·cases e
theorem HF{n:Nat}(hn:n=ts.length)(h:tTg K (.tup ts) x σ H Q):LG K n (yP K ts) x σ H Q:=by
 obtain⟨m,S,ρ,d,ρ',R,E,vd,e,q⟩:=h;cases d with
 |tup ds=>
  simp only[au] at e;obtain⟨a,vs,rfl,sq,vds⟩:=vd.tups;refine⟨a,vs,rfl,.of sq,?_,m,S,ρ,ds,ρ',R,E,vds,e,q⟩
  have len:∀ (ts:List Tg) (ds:List D) (ρ ρ':Rho),aK ts ds ρ=some ρ'->ts.length=ds.length:=by
   intro ts
   induction ts with
   |nil=>intro ds ρ ρ' e;cases ds with |nil=>rfl |cons _ _=>simp[aK] at e
   |cons t ts ih=>
    intro ds ρ ρ' e;cases ds with
    |nil=>simp[aK] at e
    |cons d ds=>
     simp only[aK] at e;split at e
     ·simp[ih _ _ _ e]
     ·cases e
  rw[hn,<-vds.length];exact(len _ _ _ _ e).symm
 |_=>simp[au] at e
theorem CF(h:yP K [] xs σ H Q):LC xs σ H Q:=by
 obtain⟨m,S,ρ,ds,ρ',R,E,vd,e,q⟩:=h;cases ds with
 |nil=>simp[aK] at e;subst e;rw[VDs] at vd;exact⟨vd,q _ E⟩
 |cons _ _=>simp[aK] at e
theorem yQ(h:yP K (t::ts) xs σ H Q):Fu (tTg K t) (yP K ts) xs σ H Q:=by
 obtain⟨m,S,ρ,ds,ρ',R,E,vd,e,q⟩:=h;cases ds with
 |nil=>simp[aK] at e
 |cons d ds=>
  simp only[aK] at e;rw[VDs] at vd;obtain⟨y,r,rfl,p,p'⟩:=vd;cases hb:au t d ρ with
  |none=>rw[hb] at e;cases e
  |some ρ1=>
   rw[hb] at e;exact⟨y,r,rfl,m,S,ρ,d,ρ1,R,E,p,hb,λσ' E'=>⟨m,S,ρ1,ds,ρ',R,E',p',e,q⟩⟩
theorem PG.imp(h:PG X e t)(f:∀x σ H Q,t' x σ H Q->t x σ H Q):PG X e t':=λpins s σ H v u Q I r q=>h pins s σ H v u Q I r (f v σ H Q q)
theorem PGs.imp(h:PGs X es t)(f:∀x σ H Q,t' x σ H Q->t x σ H Q):PGs X es t':=λpins s σ H v u Q I r q=>h pins s σ H v u Q I r (f v σ H Q q)
end
inductive Fl where
 |nx |bk |ct |rt (d:D)
@[inline]abbrev XS:=Rho->Sto->Option (Fl × Rho × Sto)
def yR(K:W6)(m:List Addr)(H:Hp)(fl:Fl)(ρ:Rho)(D:Ends):Prop:=match fl with
 |.nx=>∀σ,EnvR K m H ρ σ->D.nx σ H
 |.bk=>∀σ,EnvR K m H ρ σ->D.bk σ H
 |.ct=>∀σ,EnvR K m H ρ σ->D.ct σ H
 |.rt d=>∀v,VD K m H d v->D.rt v H
def tSt(K:W6)(x:XS):TS:=λD σ H=>∃m ρ S fl ρ' S',EnvR K m H ρ σ/\Rel K m S H/\x ρ S=some (fl,ρ',S')/\∀m' H',Aft K m H S' m' H'->yR K m' H' fl ρ' D
section
variable {X:Cx} {K:W6} {m:List Addr} {H:Hp} {S:Sto}
abbrev yS(x y:XS):XS:=λρ S=>match x ρ S with
 |none=>none
 |some (.nx,ρ1,S1)=>y ρ1 S1
 |some r=>some r
abbrev FH:XS:=λρ S=>some (.nx,ρ,S)
theorem CG{D:Ends}{σ:L2.St}{H:Hp}(h:tSt K FH D σ H):Fq D σ H:=by
 obtain⟨m,ρ,S,fl,ρ',S',E,R,e,q⟩:=h;cases e;exact q m H (Aft.refl R) σ E
theorem HG{x y:XS}{D:Ends}{σ:L2.St}{H:Hp}(h:tSt K (yS x y) D σ H):Ly (tSt K x) (tSt K y) D σ H:=by
 obtain⟨m,ρ,S,fl,ρ',S',E,R,e,q⟩:=h;unfold yS at e;cases hx:x ρ S with
 |none=>rw[hx] at e;cases e
 |some r=>
  obtain⟨f1,ρ1,S1⟩:=r;rw[hx] at e;refine⟨m,ρ,S,f1,ρ1,S1,E,R,hx,λm1 H1 A1=>?_⟩;cases f1 with
  |nx=>exactλσ1 E1=>⟨m1,ρ1,S1,fl,ρ',S',E1,A1.rel,e,λm2 H2 A2=>q m2 H2 (A1.trans A2)⟩
  |bk=>cases e;exact q m1 H1 A1
  |ct=>cases e;exact q m1 H1 A1
  |rt d=>cases e;exact q m1 H1 A1
abbrev qh(x:XE):XS:=λρ S=>match x ρ S with
 |none=>none
 |some (_,S1)=>some (.nx,ρ,S1)
abbrev yT(x:XE):XS:=λρ S=>match x ρ S with
 |none=>none
 |some (d,S1)=>some (.rt d,ρ,S1)
abbrev Mp:XS:=λρ S=>some (.ct,ρ,S)
theorem CH{x:XE}{D:Ends}{σ:L2.St}{H:Hp}(h:tSt K (qh x) D σ H):Ft (tE K x) D σ H:=by
 obtain⟨m,ρ,S,fl,ρ',S',E,R,e,q⟩:=h;unfold qh at e;cases hx:x ρ S with
 |none=>rw[hx] at e;cases e
 |some r=>
  obtain⟨d,S1⟩:=r;rw[hx] at e;cases e;exact⟨m,ρ,S,d,_,E,R,hx,λm1 H1 v A1 _=>q m1 H1 A1 σ (E.mono R A1.ext)⟩
theorem HH{x:XE}{D:Ends}{σ:L2.St}{H:Hp}(h:tSt K (yT x) D σ H):Lz (tE K x) D σ H:=by
 obtain⟨m,ρ,S,fl,ρ',S',E,R,e,q⟩:=h;unfold yT at e;cases hx:x ρ S with
 |none=>rw[hx] at e;cases e
 |some r=>
  obtain⟨d,S1⟩:=r;rw[hx] at e;cases e;exact⟨m,ρ,S,d,_,E,R,hx,λm1 H1 v A1 vd=>q m1 H1 A1 v vd⟩
theorem HI{D:Ends}{σ:L2.St}{H:Hp}(h:tSt K Mp D σ H):Fs D σ H:=by
 obtain⟨m,ρ,S,fl,ρ',S',E,R,e,q⟩:=h;cases e;exact q m H (Aft.refl R) σ E
abbrev xIf(c:XT)(x y:XS):XS:=λρ S=>match c ρ S with
 |none=>none
 |some (b,S1)=>if b=true then x ρ S1 else y ρ S1
theorem Mq{c:XT}{x y:XS}{D:Ends}{σ:L2.St}{H:Hp}(h:tSt K (xIf c x y) D σ H):LA (tT K c) (tSt K x) (tSt K y) D σ H:=by
 obtain⟨m,ρ,S,fl,ρ',S',E,R,e,q⟩:=h;unfold xIf at e;cases hc:c ρ S with
 |none=>rw[hc] at e;cases e
 |some r=>
  obtain⟨b,S1⟩:=r;rw[hc] at e;dsimp only at e;refine⟨m,ρ,S,b,S1,E,R,hc,λm1 H1 A1=>?_⟩;dsimp only;split
  ·rename_i hb;rw[if_pos hb] at e;exact⟨m1,ρ,S1,fl,ρ',S',E.mono R A1.ext,A1.rel,e,λm2 H2 A2=>q m2 H2 (A1.trans A2)⟩
  ·rename_i hb;rw[if_neg hb] at e;exact⟨m1,ρ,S1,fl,ρ',S',E.mono R A1.ext,A1.rel,e,λm2 H2 A2=>q m2 H2 (A1.trans A2)⟩
abbrev kx(x:XE)(t:Tg):XS:=λρ S=>match x ρ S with
 |none=>none
 |some (d,S1)=>(au t d ρ).map λρ1=>(.nx,ρ1,S1)
theorem sD{x:XE}{t:Tg}{D:Ends}{σ:L2.St}{H:Hp}(h:tSt K (kx x t) D σ H):xw (tE K x) (tTg K t) D σ H:=by
 obtain⟨m,ρ,S,fl,ρ',S',E,R,e,q⟩:=h;unfold kx at e;cases hx:x ρ S with
 |none=>rw[hx] at e;cases e
 |some r=>
  obtain⟨d,S1⟩:=r;rw[hx] at e;dsimp only at e;cases hb:au t d ρ with
  |none=>rw[hb] at e;cases e
  |some ρ1=>
   rw[hb] at e;cases e;exact⟨m,ρ,S,d,_,E,R,hx,λm1 H1 v A1 vd=>⟨m1,_,ρ,d,_,A1.rel,E.mono R A1.ext,vd,hb,λσ' E'=>q m1 H1 A1 σ' E'⟩⟩
abbrev qi(v o i:XE):XS:=λρ S=>match v ρ S with
 |none=>none
 |some (dv,S1)=>match o ρ S1 with
  |none=>none
  |some (d_o,S2)=>match i ρ S2 with
   |none=>none
   |some (di,S3)=>(iM d_o di dv S3).map λS4=>(.nx,ρ,S4)
theorem CJ{v o i:XE}{D:Ends}{σ:L2.St}{H:Hp}(h:tSt K (qi v o i) D σ H):xw (tE K v) (LH (tE K o) (tE K i) (Mh K)) D σ H:=by
 obtain⟨m,ρ,S,fl,ρ',S',E,R,e,q⟩:=h;unfold qi at e;cases h1:v ρ S with
 |none=>rw[h1] at e;cases e
 |some r1=>
  obtain⟨dv,S1⟩:=r1;rw[h1] at e;dsimp only at e;cases h2:o ρ S1 with
  |none=>rw[h2] at e;cases e
  |some r2=>
   obtain⟨d2,S2⟩:=r2;rw[h2] at e;dsimp only at e;cases h3:i ρ S2 with
   |none=>rw[h3] at e;cases e
   |some r3=>
    obtain⟨d3,S3⟩:=r3;rw[h3] at e;dsimp only at e;cases h4:iM d2 d3 dv S3 with
    |none=>rw[h4] at e;cases e
    |some S4=>
     rw[h4] at e;cases e;refine⟨m,ρ,S,dv,S1,E,R,h1,λm1 H1 v1 A1 vd1=>⟨m1,ρ,S1,d2,S2,E.mono R A1.ext,A1.rel,h2,λm2 H2 v2 A2 vd2=>⟨m2,ρ,S2,d3,S3,E.mono R (A1.trans A2).ext,A2.rel,h3,λm3 H3 v3 A3 vd3=>?_⟩⟩⟩;exact⟨m3,S3,d2,d3,dv,_,A3.rel,vd2.mono A2.rel A3.ext,vd3,vd1.mono A1.rel (A2.trans A3).ext,h4,λm4 H4 A4=>q m4 H4 (((A1.trans A2).trans A3).trans A4) σ (E.mono R (((A1.trans A2).trans A3).trans A4).ext)⟩
abbrev dI(nx:Nxt)(tg:Tg)(b:XS):Nat->Nat->XS
 |0,_=>λ_ _=>none
 |k+1,i=>λρ S=>match nx i S with
  |none=>none
  |some none=>some (.nx,ρ,S)
  |some (some d)=>match au tg d ρ with
   |none=>none
   |some ρ1=>match b ρ1 S with
    |none=>none
    |some (.nx,ρ2,S2)=>dI nx tg b k (i+1) ρ2 S2
    |some (.ct,ρ2,S2)=>dI nx tg b k (i+1) ρ2 S2
    |some (.bk,ρ2,S2)=>some (.nx,ρ2,S2)
    |some (.rt d,ρ2,S2)=>some (.rt d,ρ2,S2)
abbrev yU(it:XI)(tg:Tg)(b:XS)(k:Nat):XS:=λρ S=>match it ρ S with
 |none=>none
 |some (nx,S1)=>dI nx tg b k 0 ρ S1
def lpW(K:W6)(nx:Nxt)(tg:Tg)(b:XS)(m1:List Addr)(H1:Hp)(D:Ends)(i k:Nat)(σ:L2.St)(H:Hp):Prop:=∃m ρ S fl ρ' S',EnvR K m H ρ σ/\Rel K m S H/\Ext m1 H1 m H/\dI nx tg b k i ρ S=some (fl,ρ',S')/\∀m' H',Aft K m H S' m' H'->yR K m' H' fl ρ' D
theorem CK{nx:Nxt}{tg:Tg}{b:XS}{J:It}{m1:List Addr}{H1:Hp}{D:Ends}(hI:IOk K [] J nx m1 H1)(k:Nat){m:List Addr}{ρ:Rho}{S:Sto}{σ:L2.St}{H:Hp}{fl:Fl}{ρ':Rho}{S':Sto}(E:EnvR K m H ρ σ)(R:Rel K m S H)(x:Ext m1 H1 m H)(e:dI nx tg b k 0 ρ S=some (fl,ρ',S'))(q:∀m' H',Aft K m H S' m' H'->yR K m' H' fl ρ' D) :
  ∃W:Nat->Nat->L2.St->Hp->Prop,(∃m,W 0 m σ H)/\∀i m σ H,W i m σ H ->
   (J.stop i H/\D.nx σ H)\/(J.go i H/\∃N:L2.St->Hp->Prop,(∀σ' H',N σ' H'->∃m',m' < m/\W (i+1) m' σ' H')/\∀x H',J.yld i H x H'->tTg K tg x σ H' λσ2 H2=>tSt K b { D with nx:=N,ct:=N,bk:=D.nx } σ2 H2):=by
 refine⟨lpW K nx tg b m1 H1 D,⟨k,m,ρ,S,fl,ρ',S',E,R,x,e,q⟩,?_⟩;intro i k σ H z;obtain⟨m,ρ,S,fl,ρ',S',E,R,x,e,q⟩:=z;cases k with
 |zero=>simp[dI] at e
 |succ k=>
  simp only[dI] at e;cases hn:nx i S with
  |none=>rw[hn] at e;cases e
  |some o=>
   rw[hn] at e;obtain⟨h1,h2⟩:=hI m S H i (x.toB λb hb=>absurd hb (by simp)) R;cases o with
   |none=>cases e;exact .inl ⟨h1 hn,q m H (Aft.refl R) σ E⟩
   |some d=>
    obtain⟨go,hy⟩:=h2 d hn;dsimp only at e;cases hb:au tg d ρ with
    |none=>rw[hb] at e;cases e
    |some ρ1=>
     rw[hb] at e;dsimp only at e;cases hx:b ρ1 S with
     |none=>rw[hx] at e;cases e
     |some r=>
      obtain⟨f2,ρ2,S2⟩:=r;rw[hx] at e;refine .inr ⟨go,lpW K nx tg b m1 H1 D (i+1) k,λσ' H' z=>⟨k,YC k,z⟩,λy H' yl=>?_⟩;obtain⟨A,vd⟩:=hy y H' yl;refine⟨m,S,ρ,d,ρ1,A.rel,E.mono R A.ext,vd,hb,λσ2 E2=>⟨m,ρ1,S,f2,ρ2,S2,E2,A.rel,hx,λm3 H3 A3=>?_⟩⟩;cases f2 with
      |nx=>exactλσ3 E3=>⟨m3,ρ2,S2,fl,ρ',S',E3,A3.rel,(x.trans A.ext).trans A3.ext,e,λm4 H4 A4=>q m4 H4 ((A.trans A3).trans A4)⟩
      |ct=>exactλσ3 E3=>⟨m3,ρ2,S2,fl,ρ',S',E3,A3.rel,(x.trans A.ext).trans A3.ext,e,λm4 H4 A4=>q m4 H4 ((A.trans A3).trans A4)⟩
      |bk=>cases e;exactλσ3 E3=>q m3 H3 (A.trans A3) σ3 E3
      |rt d=>cases e;exactλv vd=>q m3 H3 (A.trans A3) v vd
theorem HJ{it:XI}{tg:Tg}{b:XS}{k:Nat}{D:Ends}{σ:L2.St}{H:Hp}(h:tSt K (yU it tg b k) D σ H):LK (tIt K [] it) (tTg K tg) (tSt K b) D σ H:=by
 obtain⟨m,ρ,S,fl,ρ',S',E,R,e,q⟩:=h;unfold yU at e;cases hi:it ρ S with
 |none=>rw[hi] at e;cases e
 |some r=>
  obtain⟨nx,S1⟩:=r;rw[hi] at e;exact⟨m,ρ,S,nx,S1,E,R,λb hb=>absurd hb (by simp),hi,λm1 H1 J A1 hI=>CK hI k (E.mono R A1.ext) A1.rel (Ext.refl _ _) e λm2 H2 A2=>q m2 H2 (A1.trans A2)⟩
abbrev bB(c:XT)(b:XS):Nat->XS
 |0=>λ_ _=>none
 |k+1=>λρ S=>match c ρ S with
  |none=>none
  |some (false,S1)=>some (.nx,ρ,S1)
  |some (true,S1)=>match b ρ S1 with
   |none=>none
   |some (.nx,ρ2,S2)=>bB c b k ρ2 S2
   |some (.ct,ρ2,S2)=>bB c b k ρ2 S2
   |some (.bk,ρ2,S2)=>some (.nx,ρ2,S2)
   |some (.rt d,ρ2,S2)=>some (.rt d,ρ2,S2)
theorem yV{c:XT}{b:XS}{k:Nat}{D:Ends}{σ:L2.St}{H:Hp}(h:tSt K (bB c b k) D σ H):xz (tT K c) (tSt K b) D σ H:=by
 refine⟨λk σ H=>tSt K (bB c b k) D σ H,⟨k,h⟩,λk σ H h=>?_⟩;obtain⟨m,ρ,S,fl,ρ',S',E,R,e,q⟩:=h;cases k with
 |zero=>simp[bB] at e
 |succ k=>
  simp only[bB] at e;cases hc:c ρ S with
  |none=>rw[hc] at e;cases e
  |some r=>
   obtain⟨bb,S1⟩:=r;rw[hc] at e;refine⟨m,ρ,S,bb,S1,E,R,hc,λm1 H1 A1=>?_⟩;cases bb with
   |false=>cases e;exact q m1 H1 A1 σ (E.mono R A1.ext)
   |true=>
    dsimp only at e;cases hx:b ρ S1 with
    |none=>rw[hx] at e;cases e
    |some r=>
     obtain⟨f2,ρ2,S2⟩:=r;rw[hx] at e;refine⟨λσ' H'=>tSt K (bB c b k) D σ' H',λσ' H' z=>⟨k,YC k,z⟩,m1,ρ,S1,f2,ρ2,S2,E.mono R A1.ext,A1.rel,hx,λm3 H3 A3=>?_⟩;cases f2 with
     |nx=>exactλσ3 E3=>⟨m3,ρ2,S2,fl,ρ',S',E3,A3.rel,e,λm4 H4 A4=>q m4 H4 ((A1.trans A3).trans A4)⟩
     |ct=>exactλσ3 E3=>⟨m3,ρ2,S2,fl,ρ',S',E3,A3.rel,e,λm4 H4 A4=>q m4 H4 ((A1.trans A3).trans A4)⟩
     |bk=>cases e;exactλσ3 E3=>q m3 H3 (A1.trans A3) σ3 E3
     |rt d=>cases e;exactλv vd=>q m3 H3 (A1.trans A3) v vd
end
mutual
noncomputable def cO:Tg->Rho->Bool
 |.name i,ρ=>match ρ[i]? with
  |some none=>true
  |_=>false
 |.tup ts,ρ=>fh ts ρ
noncomputable def fh:List Tg->Rho->Bool
 |[],_=>true
 |t::ts,ρ=>cO t ρ && fh ts ρ
end
structure LeR(ρ ρ':Rho):Prop where
 len:ρ.length=ρ'.length
 at_:∀ (i:Nat) (d:D),ρ[i]?=some (some d)->ρ'[i]?=some (some d)
theorem LeR.refl(ρ:Rho):LeR ρ ρ:=⟨rfl,λ_ _ h=>h⟩
mutual
theorem qj:∀ {t:Tg} {d:D} {ρ ρ':Rho},LeR ρ0 ρ->cO t ρ0=true->au t d ρ=some ρ'->LeR ρ0 ρ'
 |.name i,d,ρ,ρ',l,f,e=>by
  simp only[au] at e;split at e
  ·cases e;refine⟨by simp[l.len],λj d' h=>?_⟩;rw[Yq];by_cases hj:i=j
   ·subst hj;simp only[cO] at f;rw[h] at f;cases f
   ·rw[if_neg hj];exact l.at_ j d' h
  ·cases e
 |.tup ts,.tup ds,ρ,ρ',l,f,e=>by
  simp only[au] at e;simp only[cO] at f;exact mL l f e
 |.tup ts,.non,_,_,_,_,e=>by simp[au] at e
 |.tup ts,.bl _,_,_,_,_,e=>by simp[au] at e
 |.tup ts,.int _,_,_,_,_,e=>by simp[au] at e
 |.tup ts,.str _,_,_,_,_,e=>by simp[au] at e
 |.tup ts,.ref _,_,_,_,_,e=>by simp[au] at e
theorem mL:∀ {ts:List Tg} {ds:List D} {ρ ρ':Rho},LeR ρ0 ρ->fh ts ρ0=true->aK ts ds ρ=some ρ'->LeR ρ0 ρ'
 |[],[],ρ,ρ',l,_,e=>by simp only[aK] at e;cases e;exact l
 |[],_::_,_,_,_,_,e=>by simp[aK] at e
 |_::_,[],_,_,_,_,e=>by simp[aK] at e
 |t::ts,d::ds,ρ,ρ',l,f,e=>by
  simp only[aK] at e;simp only[fh,bAE] at f;cases hb:au t d ρ with
  |none=>rw[hb] at e;cases e
  |some ρ1=>rw[hb] at e;exact mL (qj l f.1 hb) f.2 e
end
section
variable {X:Cx} {K:W6} {m:List Addr} {H:Hp} {S:Sto}
theorem EnvR.weaken(E:EnvR K m H ρ' σ)(l:LeR ρ ρ'):EnvR K m H ρ σ:=⟨l.len.trans E.len,λi d h=>E.at_ i d (l.at_ i d h)⟩
abbrev bg(nx:Nxt)(tg:Tg)(c:XA)(ρ:Rho):Nat->Nat->Sto->Option (List D × Sto)
 |0,_,_=>none
 |k+1,i,S=>match nx i S with
  |none=>none
  |some none=>some ([],S)
  |some (some d)=>match au tg d ρ with
   |none=>none
   |some ρ1=>bnd (c ρ1 S) λes S1=>bnd (bg nx tg c ρ k (i+1) S1) λrs S2=>some (es++rs,S2)
abbrev yW(t:XT)(c:XA):XA:=λρ S=>bnd (t ρ S) λb S1=>if b=true then c ρ S1 else some ([],S1)
abbrev FI(x:XE):XA:=λρ S=>bnd (x ρ S) λd S1=>some ([d],S1)
abbrev iO(it:XI)(tg:Tg)(c:XA)(k:Nat):XA:=λρ S=>if cO tg ρ=true then bnd (it ρ S) λnx S1=>bg nx tg c ρ k 0 S1 else none
abbrev ky(own:Nat)(it:XI)(tg:Tg)(c:XA)(k:Nat):XA:=λρ S=>bnd (it ρ S) λnx S1=>if cO tg (ρ++Zu own none)=true then
 (bnd (bg nx tg c (ρ++Zu own none) k 0 S1) λes S2=>if es.length<=100000 then some (es,S2) else none) else none
def tCl(K:W6)(acc:Addr)(c:XA):TS:=λD σ H=>∃m ρ S es S' zs vs,EnvR K m H ρ σ/\Rel K m S H/\acc ∉ m/\H acc=some (.lst vs)/\VDs K m H zs vs/\zs.length+es.length<=100000/\c ρ S=some (es,S') ∧
 ∀m' H' σ' vs',ExtB [acc] m H m' H'->Rel K m' S' H'->H' acc=some (.lst vs')->VDs K m' H' (zs++es) vs'->EnvR K m' H' ρ σ'->D.nx σ' H'
theorem yX(h:H acc=some (.lst vs))(n:acc ∉ m):AtB [acc] m H:=λb hb=>by simp at hb;subst hb;exact⟨⟨vs,h⟩,n⟩
theorem ExtB.refl(n:acc ∉ m):ExtB [acc] m H m H:=⟨Yd m,λ_ _ h _ _=>h,λ_ h n=>absurd h n,λb hb=>by simp at hb;subst hb;exact n⟩
theorem ExtB.put(n:acc ∉ m)(o:HO):ExtB [acc] m H m (upd H acc o):=⟨Yd m,λa u h _ nb=>by
 rw[av (λz=>nb (by simp[z]))];exact h,λ_ h n=>absurd h n,λb hb=>by simp at hb;subst hb;exact n⟩
theorem Rel.extB(R:Rel K m S H)(hB:AtB [acc] m H)(x:ExtB [acc] m H m H')(k:∀b ∈ m,H' b=H b):Rel K m S H':=by
 refine⟨R.len,R.nd,λi o e=>?_⟩;obtain⟨b,hb,r⟩:=R.ob i o e;have hm:b ∈ m:=Zi hb;refine⟨b,hb,?_⟩;cases o with
 |lst ds=>obtain⟨vs,p,q⟩:=r;exact⟨vs,(k b hm).trans p,VDs.monoB R hB x q⟩
 |frz ds=>obtain⟨o,vs,p,q⟩:=r;exact⟨o,vs,(k b hm).trans p,VDs.monoB R hB x q⟩
 |dic ks ds=>obtain⟨vs,p,l,q⟩:=r;exact⟨vs,(k b hm).trans p,l,VDs.monoB R hB x q⟩
theorem CL{acc:Addr}{x:XE}{D:Ends}{σ:L2.St}{H:Hp}(h:tCl K acc (FI x) D σ H):FB acc (tE K x) D σ H:=by
 obtain⟨m,ρ,S,es,S',zs,vs,E,R,na,ha,vz,hl,e,q⟩:=h;obtain⟨d,S1,e1,e⟩:=ab e;cases e;refine⟨m,ρ,S,d,_,E,R,e1,λm1 H1 v A1 vd=>?_⟩;have hB:=yX ha na;have ha1:H1 acc=some (.lst vs):=A1.ext.keep _ _ ha na;have xB:=A1.ext.toB hB;have na1:acc ∉ m1:=xB.nb acc (by simp);have xp:=ExtB.put (H:=H1) na1 (.lst (vs++[v]));have hB1:=yX ha1 na1;have lz:=vz.length;simp only[Zm] at hl;refine⟨vs,ha1,by rw[V4];lia,q m1 _ σ (vs++[v]) (xB.trans xp) (A1.rel.extB hB1 xp λb hb=>av λz=>na1 (z ▸ hb)) a7 ?_ ((E.mono R A1.ext).monoB A1.rel hB1 xp)⟩;exact VDs.append ((vz.mono R A1.ext).monoB A1.rel hB1 xp) (.cons (vd.monoB A1.rel hB1 xp) .nil)
theorem CM{acc:Addr}{t:XT}{c:XA}{D:Ends}{σ:L2.St}{H:Hp}(h:tCl K acc (yW t c) D σ H):eJ (tT K t) (tCl K acc c) D σ H:=by
 obtain⟨m,ρ,S,es,S',zs,vs,E,R,na,ha,vz,hl,e,q⟩:=h;obtain⟨b,S1,e1,e⟩:=ab e;refine⟨m,ρ,S,b,S1,E,R,e1,λm1 H1 A1=>?_⟩;have hB:=yX ha na;have ha1:H1 acc=some (.lst vs):=A1.ext.keep _ _ ha na;have xB:=A1.ext.toB hB;have na1:acc ∉ m1:=xB.nb acc (by simp);dsimp only;split
 ·rename_i hb;rw[if_pos hb] at e;exact⟨m1,ρ,S1,es,S',zs,vs,E.mono R A1.ext,A1.rel,na1,ha1,vz.mono R A1.ext,hl,e,λm2 H2 σ2 vs2 x2 R2 h2 v2 E2=>q m2 H2 σ2 vs2 (xB.trans x2) R2 h2 v2 E2⟩
 ·rename_i hb;rw[if_neg hb] at e;cases e;refine q m1 H1 σ vs xB A1.rel ha1 ?_ (E.mono R A1.ext);rw[Z9];exact vz.mono R A1.ext
theorem qk{t:TS}{D:Ends}{σ:L2.St}{H:Hp}(h:t D σ H):eJ B2 t D σ H:=by
 show if true=true then t D σ H else D.nx σ H
 rw[if_pos rfl];exact h
theorem HK{acc:Addr}{c:XA}{D:Ends}{σ:L2.St}{H:Hp}(h:tCl K acc c D σ H):eJ B2 (tCl K acc c) D σ H:=by
 exact qk h
def clW(K:W6)(acc:Addr)(nx:Nxt)(tg:Tg)(c:XA)(ρ:Rho)(m1:List Addr)(H1:Hp)(EE:Ends)(i k:Nat)(σ:L2.St)(H:Hp):Prop:=∃m S S' es zs vs,EnvR K m H ρ σ/\Rel K m S H/\ExtB [acc] m1 H1 m H/\H acc=some (.lst vs)/\VDs K m H zs vs/\zs.length+es.length<=100000/\bg nx tg c ρ k i S=some (es,S')/\∀m' H' σ' vs',ExtB [acc] m H m' H'->Rel K m' S' H'->H' acc=some (.lst vs')->VDs K m' H' (zs++es) vs'->EnvR K m' H' ρ σ'->EE.nx σ' H'
theorem uf(hI:IOk K [acc] J nx m1 H1)(hts:∀D σ H,tCl K acc c D σ H->ts D σ H)(k:Nat)
  (fr:cO tg ρ=true) (E:EnvR K m H ρ σ) (R:Rel K m S H) (x:ExtB [acc] m1 H1 m H) (ha:H acc=some (.lst vs)) (vz:VDs K m H zs vs) (hl:zs.length+es.length<=100000) (e:bg nx tg c ρ k 0 S=some (es,S'))
  (q:∀m' H' σ' vs',ExtB [acc] m H m' H'->Rel K m' S' H'->H' acc=some (.lst vs')->VDs K m' H' (zs++es) vs'->EnvR K m' H' ρ σ'->EE.nx σ' H'):pB J (tTg K tg) ts EE σ H:=by
 refine⟨clW K acc nx tg c ρ m1 H1 EE,⟨k,m,S,S',es,zs,vs,E,R,x,ha,vz,hl,e,q⟩,?_⟩;intro i k σ H z;obtain⟨m,S,S',es,zs,vs,E,R,x,ha,vz,hl,e,q⟩:=z;have na:acc ∉ m:=x.nb acc (by simp);have hB:=yX ha na;cases k with
 |zero=>simp[bg] at e
 |succ k=>
  simp only[bg] at e;cases hn:nx i S with
  |none=>rw[hn] at e;cases e
  |some o=>
   rw[hn] at e;obtain⟨h1,h2⟩:=hI m S H i x R;cases o with
   |none=>
    cases e;exact .inl ⟨h1 hn,q m H σ vs (ExtB.refl na) R ha (by rw[Z9];exact vz) E⟩
   |some d=>
    obtain⟨go,hy⟩:=h2 d hn;dsimp only at e;cases hb:au tg d ρ with
    |none=>rw[hb] at e;cases e
    |some ρ1=>
     rw[hb] at e;dsimp only at e;obtain⟨e1,S1,c1,e⟩:=ab e;obtain⟨rs,S2,c2,e⟩:=ab e;cases e;rw[Zg] at hl;refine .inr ⟨go,clW K acc nx tg c ρ m1 H1 EE (i+1) k,λσ' H' z=>⟨k,YC k,z⟩,λy H' yl=>?_⟩;obtain⟨A,vd⟩:=hy y H' yl;have xA:=A.ext.toB hB;have ha':H' acc=some (.lst vs):=A.ext.keep _ _ ha na;refine⟨m,S,ρ,d,ρ1,A.rel,E.mono R A.ext,vd,hb,λσ2 E2=>hts _ _ _ ⟨m,ρ1,S,e1,S1,zs,vs,E2,A.rel,na,ha',vz.mono R A.ext,by lia,c1,λm3 H3 σ3 vs3 x3 R3 h3 v3 E3=>?_⟩⟩;refine⟨m3,S1,_,rs,zs++e1,vs3,E3.weaken (qj (LeR.refl ρ) fr hb),R3,(x.trans xA).trans x3,h3,v3,by rw[Zg];lia,c2,λm4 H4 σ4 vs4 x4 R4 h4 v4 E4=>?_⟩;refine q m4 H4 σ4 vs4 ((xA.trans x3).trans x4) R4 h4 ?_ E4;rw[<-Z4];exact v4
theorem yY{acc:Addr}{it:XI}{tg:Tg}{t:TT}{c c':XA}{k:Nat}{D:Ends}{σ:L2.St}{H:Hp}(hts:∀D σ H,tCl K acc c D σ H->eJ t (tCl K acc c') D σ H)(h:tCl K acc (iO it tg c k) D σ H):xZ (tIt K [acc] it) (tTg K tg) t (tCl K acc c') D σ H:=by
 obtain⟨m,ρ,S,es,S',zs,vs,E,R,na,ha,vz,hl,e,q⟩:=h;unfold iO at e;split at e
 ·rename_i fr;obtain⟨nx,S1,e1,e⟩:=ab e;have hB:=yX ha na;refine⟨m,ρ,S,nx,S1,E,R,hB,e1,λm1 H1 J A1 hI=>?_⟩;have xB:=A1.ext.toB hB;have na1:acc ∉ m1:=xB.nb acc (by simp);exact uf hI hts k fr (E.mono R A1.ext) A1.rel (ExtB.refl na1) (A1.ext.keep _ _ ha na) (vz.mono R A1.ext) hl e λm2 H2 σ2 vs2 x2 R2 h2 v2 E2=>q m2 H2 σ2 vs2 (xB.trans x2) R2 h2 v2 E2
 ·cases e
theorem EnvR.more(E:EnvR K m H ρ σ)(n:Nat):EnvR K m H (ρ++Zu n none) (σ++Zu n none):=by
 refine⟨by simp[E.len],λi d e=>?_⟩;by_cases hi:i < ρ.length
 ·rw[Zt hi] at e;rw[Zt (by rw[<-E.len];exact hi)];exact E.at_ i d e
 ·rw[Zo (by lia),Yt] at e;split at e <;> cases e
theorem ug{own:Nat}{k:Nat}(hts:∀acc D σ H,tCl K acc c D σ H->eJ t (tCl K acc c') D σ H)(h:gw K (ky own it tg c k) σ H Q):x5 own (tIt K [] it) (tTg K tg) (λacc=>eJ t (tCl K acc c')) σ H Q:=by
 obtain⟨m,ρ,S,es,S',E,R,e,q⟩:=h;obtain⟨nx,S1,e1,e⟩:=ab e;split at e
 ·rename_i fr;obtain⟨es',S2,e2,e⟩:=ab e;split at e
  ·rename_i hl;cases e;refine⟨m,ρ,S,nx,S1,E,R,λb hb=>absurd hb (by simp),e1,λm1 H1 J A1 hI acc hacc=>?_⟩;have x0:=Ext.beside A1.rel hacc (.lst []);have R0:=A1.rel.beside hacc (.lst []);have na:=A1.rel.no hacc
   have hI':IOk K [acc] J nx m1 (upd H1 acc (.lst [])):=by
    intro m2 S2 H2 i x2 R2;refine hI m2 S2 H2 i ⟨x2.pre,λa o h n _=>?_,λa h n=>?_,λb hb=>absurd hb (by simp)⟩ R2
    ·have ne:a ≠ acc:=aO h hacc;exact x2.keep a o (by rw[av ne];exact h) n (by simp[ne])
    ·have:=x2.new a h n;by_cases hz:a=acc
     ·subst hz;exact hacc
     ·rw[av hz] at this;exact this
   refine uf (zs:=[]) (vs:=[]) hI' (hts acc) k fr ((E.mono R A1.ext |>.mono A1.rel x0).more own) R0 (ExtB.refl na) a7 .nil (by simpa using hl) e2 λm2 H2 σ2 vs2 x2 R2 h2 v2 E2=>?_
   have xx:Ext m1 H1 m2 H2:=⟨x2.pre,λa o h n=>by
    have ne:a ≠ acc:=aO h hacc;exact x2.keep a o (by rw[av ne];exact h) n (by simp[ne]),λa h n=>by
    have:=x2.new a h n;by_cases hz:a=acc
    ·subst hz;exact hacc
    ·rw[av hz] at this;exact this⟩
   have hn:H acc=none:=by
    cases eh:H acc with
    |none=>rfl
    |some o=>
     by_cases hm:acc ∈ m
     ·exact absurd (A1.ext.pre.subset hm) na
     ·have:=A1.ext.keep acc o eh hm;rw[hacc] at this;cases this
   exact q m2 H2 acc vs2 (A1.trans ⟨xx,R2⟩) h2 (x2.nb acc (by simp)) (λb hb z=>na (A1.ext.pre.subset (z ▸ hb))) hn (by simpa using v2)
  ·cases e
 ·cases e
end
section
variable {X:Cx} {K:W6} {m:List Addr} {H:Hp} {S:Sto}
abbrev yZ(x y:XE):XE:=λρ S=>bnd (x ρ S) λd S1=>match d with
 |.bl true=>y ρ S1
 |.bl false=>some (.bl false,S1)
 |_=>none
abbrev xOr(x y:XE):XE:=λρ S=>bnd (x ρ S) λd S1=>match d with
 |.bl true=>some (.bl true,S1)
 |.bl false=>y ρ S1
 |_=>none
abbrev wp:D->Sto->Option (D × Sto)
 |.bl b,S=>some (.bl (!b),S)
 |_,_=>none
abbrev HL:D->Sto->Option (D × Sto)
 |.int i,S=>some (.int (-i),S)
 |_,_=>none
abbrev HM(c:XT)(x y:XE):XE:=λρ S=>bnd (c ρ S) λb S1=>if b=true then x ρ S1 else y ρ S1
theorem y3(h:tE K (yZ x y) σ H Q):Fn (tE K x) (tE K y) σ H Q:=by
 obtain⟨m,ρ,S,d,S',E,R,e,q⟩:=h;obtain⟨a,S1,e1,e⟩:=ab e;refine⟨m,ρ,S,a,S1,E,R,e1,λm1 H1 v A1 va=>?_⟩;cases a with
 |bl b=>
  refine⟨b,va.bls,?_⟩;cases b with
  |true=>exact⟨m1,ρ,S1,d,S',E.mono R A1.ext,A1.rel,e,λm2 H2 w A2 vd=>q m2 H2 w (A1.trans A2) vd⟩
  |false=>cases e;exact q m1 H1 _ A1 bF
 |_=>cases e
theorem FJ(h:tE K (xOr x y) σ H Q):Lx (tE K x) (tE K y) σ H Q:=by
 obtain⟨m,ρ,S,d,S',E,R,e,q⟩:=h;obtain⟨a,S1,e1,e⟩:=ab e;refine⟨m,ρ,S,a,S1,E,R,e1,λm1 H1 v A1 va=>?_⟩;cases a with
 |bl b=>
  refine⟨b,va.bls,?_⟩;cases b with
  |false=>exact⟨m1,ρ,S1,d,S',E.mono R A1.ext,A1.rel,e,λm2 H2 w A2 vd=>q m2 H2 w (A1.trans A2) vd⟩
  |true=>cases e;exact q m1 H1 _ A1 bF
 |_=>cases e
theorem HN(h:tE K (xUn wp x) σ H Q):Fo (tE K x) σ H Q:=by
 obtain⟨m,ρ,S,d,S',E,R,e,q⟩:=h;obtain⟨a,S1,e1,e⟩:=ab e;refine⟨m,ρ,S,a,S1,E,R,e1,λm1 H1 v A1 va=>?_⟩;cases a with
 |bl b=>cases e;exact⟨b,va.bls,q m1 H1 _ A1 bF⟩
 |_=>cases e
theorem CN:UnR X (unaryOp .USub) (rS1 X.K HL):=by
 intro pins s σ H x v Q I rx h;refine rh pins s σ H x v Q I rx ?_;obtain⟨m,S,a,d,S',R,va,e,q⟩:=h;cases a with
 |int i=>cases e;exact⟨i,va.ints,q m H _ (Aft.refl R) a9⟩
 |_=>cases e
theorem HP(h:tE K (HM c x y) σ H Q):tIf (tT K c) (tE K x) (tE K y) σ H Q:=by
 obtain⟨m,ρ,S,d,S',E,R,e,q⟩:=h;obtain⟨b,S1,e1,e⟩:=ab e;refine⟨m,ρ,S,b,S1,E,R,e1,λm1 H1 A1=>?_⟩;dsimp only;split
 ·rename_i hb;rw[if_pos hb] at e;exact⟨m1,ρ,S1,d,S',E.mono R A1.ext,A1.rel,e,λm2 H2 w A2 vd=>q m2 H2 w (A1.trans A2) vd⟩
 ·rename_i hb;rw[if_neg hb] at e;exact⟨m1,ρ,S1,d,S',E.mono R A1.ext,A1.rel,e,λm2 H2 w A2 vd=>q m2 H2 w (A1.trans A2) vd⟩
abbrev wq(f g:D->D->Sto->Option (D × Sto))(x y z:XE):XE:=λρ S=>bnd (x ρ S) λa S1=>bnd (y ρ S1) λb S2=>bnd (f a b S2) λr S3=>match r with
 |.bl true=>bnd (z ρ S3) λc S4=>g b c S4
 |.bl false=>some (.bl false,S3)
 |_=>none
theorem y4(h:tE K (wq f g x y z) σ H Q):rj (rS K f) (rS K g) (tE K x) (tE K y) (tE K z) σ H Q:=by
 obtain⟨m,ρ,S,d,S',E,R,e,q⟩:=h;obtain⟨a,S1,e1,e⟩:=ab e;obtain⟨b,S2,e2,e⟩:=ab e;obtain⟨r,S3,e3,e⟩:=ab e;refine⟨m,ρ,S,a,S1,E,R,e1,λm1 H1 v A1 va=>⟨m1,ρ,S1,b,S2,E.mono R A1.ext,A1.rel,e2,λm2 H2 w A2 vb=>?_⟩⟩;refine⟨m2,S2,a,b,r,S3,A2.rel,va.mono A1.rel A2.ext,vb,e3,λm3 H3 u A3 vr=>?_⟩;cases r with
 |bl k=>
  refine⟨k,vr.bls,?_⟩;cases k with
  |true=>
   dsimp only at e;obtain⟨c,S4,e4,e⟩:=ab e;exact⟨m3,ρ,S3,c,S4,E.mono R ((A1.trans A2).trans A3).ext,A3.rel,e4,λm4 H4 y A4 vc=>⟨m4,S4,b,c,d,S',A4.rel,vb.mono A2.rel (A3.trans A4).ext,vc,e,λm5 H5 t A5 vd=>q m5 H5 t ((((A1.trans A2).trans A3).trans A4).trans A5) vd⟩⟩
  |false=>cases e;exact q m3 H3 _ ((A1.trans A2).trans A3) bF
 |_=>cases e
abbrev y6(x y:XT):XT:=λρ S=>bnd (x ρ S) λb S1=>if b=true then y ρ S1 else some (false,S1)
abbrev HQ(x y:XT):XT:=λρ S=>bnd (x ρ S) λb S1=>if b=true then some (true,S1) else y ρ S1
abbrev y7(x:XT):XT:=λρ S=>bnd (x ρ S) λb S1=>some (!b,S1)
theorem y8(h:tT K (y6 x y) σ H Q):Lu (tT K x) (tT K y) σ H Q:=by
 obtain⟨m,ρ,S,d,S',E,R,e,q⟩:=h;obtain⟨b,S1,e1,e⟩:=ab e;refine⟨m,ρ,S,b,S1,E,R,e1,λm1 H1 A1=>?_⟩;dsimp only;split
 ·rename_i hb;rw[if_pos hb] at e;exact⟨m1,ρ,S1,d,S',E.mono R A1.ext,A1.rel,e,λm2 H2 A2=>q m2 H2 (A1.trans A2)⟩
 ·rename_i hb;rw[if_neg hb] at e;cases e;exact q m1 H1 A1
theorem FK(h:tT K (HQ x y) σ H Q):tOr (tT K x) (tT K y) σ H Q:=by
 obtain⟨m,ρ,S,d,S',E,R,e,q⟩:=h;obtain⟨b,S1,e1,e⟩:=ab e;refine⟨m,ρ,S,b,S1,E,R,e1,λm1 H1 A1=>?_⟩;dsimp only;split
 ·rename_i hb;rw[if_pos hb] at e;cases e;exact q m1 H1 A1
 ·rename_i hb;rw[if_neg hb] at e;exact⟨m1,ρ,S1,d,S',E.mono R A1.ext,A1.rel,e,λm2 H2 A2=>q m2 H2 (A1.trans A2)⟩
theorem HR(h:tT K (y7 x) σ H Q):Lv (tT K x) σ H Q:=by
 obtain⟨m,ρ,S,d,S',E,R,e,q⟩:=h;obtain⟨b,S1,e1,e⟩:=ab e;cases e;exact⟨m,ρ,S,b,_,E,R,e1,λm1 H1 A1=>q m1 H1 A1⟩
@[inline]abbrev Calls:=Nat->List D->Sto->Option (D × Sto)
def spC(K:W6)(g:List D->Sto->Option (D × Sto))(n:Nat):Sp:=λvs H Q _=>∃m ds S d S',VDs K m H ds vs/\Rel K m S H/\ds.length=n/\g ds S=some (d,S')/\∀m' H' v,Aft K m H S' m' H'->VD K m' H' d v->Q v H'
abbrev ql(g:List D->Sto->Option (D × Sto))(n:Nat)(x:XA):XE:=λρ S=>bnd (x ρ S) λds S1=>if ds.length=n then g ds S1 else none
theorem CO{n:Nat}(h:tE K (ql g n x) σ H Q):Fy (spC K g n) [] E0 (tAr K x) σ H Q:=by
 obtain⟨m,ρ,S,d,S',E,R,e,q⟩:=h;obtain⟨ds,S1,e1,e⟩:=ab e;split at e
 ·rename_i hl;refine⟨m,ρ,S,ds,S1,E,R,e1,λm1 H1 vs A1 vd=>⟨m1,ds,S1,d,S',by rw[Z9];exact vd,A1.rel,hl,e,λm2 H2 v A2 vv=>q m2 H2 v (A1.trans A2) vv⟩⟩
 ·cases e
end
abbrev fj(x y:Int × List Int):Bool:=if x.1=y.1 then HT.bX x.2 y.2 else decide (x.1 < y.1)
theorem qm:∀ns:List Int,HT.bX ns ns=false
 |[]=>rfl
 |n::ns=>by rw[HT.gm,if_pos rfl];exact qm ns
theorem jD{vs:List Value}{ns:List Int}(h:IntsAre vs ns):∀ (j:Nat) v,vs[j]?=some v->∃n t,ns[j]?=some n/\v = .int n t:=by
 induction h with
 |nil=>intro j v e;simp at e
 |cons a t _ ih=>
  intro j v e;cases j with
  |zero=>cases e;exact⟨a,t,rfl,rfl⟩
  |succ j=>exact ih j v (by simpa using e)
theorem wt{A:Around}{s:Shared}{p q:Addr}{xs ys:Array Value}{ns ms:List Int}(hu:A.units < cLine)(h1:s.heap.IsTuple p xs)(h2:s.heap.IsTuple q ys)(i1:IntsAre xs.toList ns)(i2:IntsAre ys.toList ms):∃e,WY A s (.ref p) (.ref q) e/\(e=true ↔ ns=ms):=by
 by_cases e:p=q
 ·subst e;obtain⟨o,ho,_,n,hd⟩:=h1;obtain⟨o',ho',_,n',hd'⟩:=h2;rw[ho] at ho';cases ho';rw[hd] at hd';cases hd'
  have en:ns=ms:=by
   have l1:=i1.length;have l2:=i2.length;refine YI λj=>?_;cases hj:xs.toList[j]? with
   |none=>
    have:=Yb.mp hj;rw[Zv (by lia),Zv (by lia)]
   |some v=>
    obtain⟨a,t,e1,rfl⟩:=jD i1 j v hj;obtain⟨b,t',e2,e3⟩:=jD i2 j _ hj;cases e3;rw[e1,e2]
  exact⟨true,.same _,by simp[en]⟩
 ·refine⟨_,.of_refs e (SeqAt.RcAt.tuples (e:=λj=>decide (ns[j]?=ms[j]?)) h1 h2 hu λj j1 j2=>?_),?_⟩
  ·obtain⟨a,t,e1,e3⟩:=jD i1 j xs[j] (by simp[j1]);obtain⟨b,u,e2,e4⟩:=jD i2 j ys[j] (by simp[j2]);rw[e1,e2,e3,e4,show decide (some a=some b)=(a == b) by simp[YQ]];exact .int_int a t b u
  ·have l1:ns.length=xs.size:=by rw[<-i1.length];exact Zw
   have l2:ms.length=ys.size:=by rw[<-i2.length];exact Zw
   rw[<-l1,<-l2,rb,decide_eq_true_eq]
section
open PySem.SeqAt
open PySem.AutoSeq1 (wpAny_loadPart')
open PySem.MeetsSeq PySem.MeetsSeq2 PySem.MeetsSeq3
theorem lY(l b:Addr)(x y:Int)(t u:Tok)(p q:Addr)(n n2:Nat)(dd dd2:Option Addr)(sl sl2:Array (Option Value))(ns ms:List Int) :
  Meets (Builtin.«tuple.__lt__» ⟨[.ref l,.ref b],[]⟩)
   (λA R s=>s.heap.get? l=some { cls:=.type "tuple", dict:=dd,data:=.seq #[.int x t,.ref p] n,slots:=sl }/\s.heap.get? b=some { cls:=.type "tuple", dict:=dd2,data:=.seq #[.int y u,.ref q] n2,slots:=sl2 } ∧
    (∃xs ys,IsTup s.heap p xs/\IsTup s.heap q ys/\IntsAre xs.toList ns/\IntsAre ys.toList ms)/\A.in1.units < cLine ∧
    R (.ok (.ret (.bool (fj (x,ns) (y,ms))))) s):=
 .of_wp λprog w A R s h=>by
  obtain⟨hp,g,d,tk,os⟩:=s;obtain⟨hl,hb,⟨xs,ys,tp,tq,i1,i2⟩,hu,h⟩:=h;have f2:=AutoSeq1.sub_tuple_tuple
  wp_walk using Us hl,Us hb,Um _ (λrest b s'=>b.1=none/\s'=⟨hp,g,d,tk,os⟩/\((rest=[(.int x t,.int y u),(.ref p,.ref q)])\/(rest=[(.ref p,.ref q)]/\x=y)\/(rest=[]/\x=y/\ns=ms))) _
  case turn=>
   rintro⟨v,z⟩ rest b s' ⟨hb',rfl,hr⟩;rcases hr with hr |⟨hr,hxy⟩ |⟨hr,_⟩
   ·injection hr with hvz hrest;injection hvz with hv hz;subst hv hz;obtain⟨e,he,hiff⟩:=HT.pq A.in1 ⟨hp,g,d,tk,os⟩ x t y u;refine Uf (he prog w _ _ ?_);cases e with
    |true=>
     wp_walk
     exact⟨rfl,rfl,.inr (.inl ⟨hrest,hiff.mp rfl⟩)⟩
    |false=>
     have hri:=HT.pA A.in1 ⟨hp,g,d,tk,os⟩ x t y u prog w
     wp_walk using hri
     refine⟨_,rfl,?_⟩;unfold fj at h;rw[if_neg (λq=>absurd (hiff.mpr q) Ze)] at h
     simpa using h
   ·injection hr with hvz hrest;injection hvz with hv hz;subst hv hz hxy;obtain⟨e,he,hiff⟩:=wt (A:=A.in1) (s:=⟨hp,g,d,tk,os⟩) hu tp tq i1 i2;refine Uf (he prog w _ _ ?_);unfold fj at h;rw[if_pos rfl] at h;cases e with
    |true=>
     wp_walk
     exact⟨rfl,rfl,.inr (.inr ⟨hrest,rfl,hiff.mp rfl⟩)⟩
    |false=>
     have hri:∀ (E:Value->Shared->Prop) (Q:Value->Shared->Prop),Q (.bool (HT.bX ns ms)) ⟨hp,g,d,tk,os⟩->wpAny (model prog w) A.in1 (VY .Lt (.ref p) (.ref q)) Q E ⟨hp,g,d,tk,os⟩:=λE Q hq=>HT.rA (s:=⟨hp,g,d,tk,os⟩) tp tq i1 i2 hu hq
     wp_walk using hri
     exact⟨_,rfl,by simpa using h⟩
   ·cases hr
  case fin=>
   rintro⟨b1,b2⟩ s' ⟨hb',rfl,hr⟩;simp only at hb';subst hb';rcases hr with hr |⟨hr,_⟩ |⟨_,hxy,hnm⟩
   ·cases hr
   ·cases hr
   ·subst hxy hnm;unfold fj at h;rw[if_pos rfl,qm] at h
    wp_walk
    exact⟨_,rfl,by simpa[Builtin.Tuple.tupleCompareSizes] using h⟩
  case h=>exact⟨rfl,rfl,.inl rfl⟩
end
section
variable {prog:Program} {w:World} {A:Around} {R:Result->Shared->Prop} {I S:Addr} {fp wr:List Addr} {n:Nat} {P:Nat->Value->Prop} {St:Nat->Heap->Prop} {bt:Nat->Nat->Bool} {base:Heap} {d:Value}
def HS(prog:Program)(w:World)(A:Around)(base:Heap)(P:Nat->Value->Prop)(bt:Nat->Nat->Bool):Prop:=
 ∀i j vi vj (s:Shared) (Q:Value->Shared->Prop) (E:Value->Shared->Prop),(∀a o,base.get? a=some o->s.heap.get? a=some o)->P i vi->P j vj->Q (.bool (bt i j)) s->wpAny (model prog w) A (VY .Lt vi vj) Q E s
theorem y9(a d:Value):argsOk "min" ⟨[a],[(Str.ofString "default", d)]⟩:=by unfold argsOk;kernel_rfl
theorem uh:(toString "min" ++ toString ".loop" : String) = "min.loop" := by decide
theorem kz(W:Walks prog w A.in1 I fp wr n P St)(gc:HS prog w A.in1 base P bt)(gS:S ∉ fp)(bw:∀a ∈ wr,base.get? a=none)(bS:base.get? S=none):∀ (m i:Nat) (s:Shared) (b:Value) (c:Nat),i+1+m=n->St (i+1) s.heap->P (argBest bt i) b->(∀a o,base.get? a=some o->s.heap.get? a=some o)->s.heap.get? S=some { cls:=.type "list", dict:=none,data:=.seq #[b,b] c,slots:=#[] } ->
  (∀v h' tk,P (argBest bt (n - 1)) v->(∀a o,a ∉ wr->a ≠ S->s.heap.get? a=some o->h'.get? a=some o)->R (.ok (.ret v)) { s with heap:=h',toks:=tk })->codeAny (model prog w) A (.builtin "min.loop" ⟨[.ref I,.none,.ref S],[(Str.ofString "default", d)]⟩) R s
 |0,i,s,b,c,e,st,pb,kb,gs,r=>by
  have sw:S ∉ wr:=λh=>gS (W.sub _ h);refine Vy Wy ?_;rw[Around.under_plainId WE _];show wpAny _ A.in1 (V2 (.ref S) >>= _) _ _ s;refine Uf (UG gs rfl ?_);show wpAny _ A.in1 (tryCatch (pyNext (.ref I)) _ >>= _) _ _ s;refine Uf (UL (W.done s _ _ (by rw[<-e];exact st) λh' tk kk=>?_));show wpAny _ A.in1 (Ud S (λ_=>#[]) >>= _) _ _ _;refine Uf (UN (kk S _ sw gs) rfl (Uf (Uq (Ux ?_))));exact r b _ tk (by rw[<-e];exact pb) λa o aw aS z=>(ZH _ _ (Ne.symm aS)).trans (kk a o aw z)
 |m+1,i,s,b,c,e,st,pb,kb,gs,r=>by
  have sw:S ∉ wr:=λh=>gS (W.sub _ h);refine Vy Wy ?_;rw[Around.under_plainId WE _];show wpAny _ A.in1 (V2 (.ref S) >>= _) _ _ s;refine Uf (UG gs rfl ?_);show wpAny _ A.in1 (tryCatch (pyNext (.ref I)) _ >>= _) _ _ s;refine Uf (UL (W.item (i+1) s _ _ (by lia) st λv h' tk pv st' kk=>?_));have gs':=kk S _ sw gs;have nw:∀a o,base.get? a=some o->a ∉ wr/\a ≠ S:=λa o h=>⟨λz=>(by rw[bw a z] at h;cases h),λz=>(by rw[z,bS] at h;cases h)⟩;have kb':∀a o,base.get? a=some o->h'.get? a=some o:=λa o h=>kk a o (nw a o h).1 (kb a o h);show wpAny _ A.in1 (tryCatch (holding [v,v] (VY .Lt v b >>= _)) _ >>= _) _ _ _;refine Uf (UL (Up (Uf (gc (i+1) (argBest bt i) v b _ _ _ kb' pv pb ?_))));refine Uf (Up (UK ?_));refine Uf (Uq (Ux ?_));cases hb:bt (i+1) (argBest bt i) with
  |true=>
   simp only[if_true];refine Uf (UN gs' rfl (Uf (Uq ?_)));rw[uh];refine Ux ⟨VV WE _,kz W gc gS bw bS m (i+1) _ v _ (by lia) (W.frame _ _ _ st' λa af o z=>?_) (by simp only[argBest,hb,if_true];exact pv) (λa o h=>(ZH _ _ (Ne.symm (nw a o h).2)).trans (kb' a o h)) (Yc _ gs' rfl) λv' h'' tk'' pv' k2=>?_⟩
   ·exact(ZH _ _ (λz:S=a=>gS (by rw[z];exact af))).trans z
   ·exact r v' h'' tk'' pv' λa o aw aS z=>k2 a o aw aS ((ZH _ _ (Ne.symm aS)).trans (kk a o aw z))
  |false=>
   simp only[ZN,if_false];refine Uf (Uq ?_);rw[uh];refine Ux ⟨VV WE _,kz W gc gS bw bS m (i+1) _ b c (by lia) st' (by simp only[argBest,hb,ZN,if_false];exact pb) kb' gs' λv' h'' tk'' pv' k2=>?_⟩;exact r v' h'' tk'' pv' λa o aw aS z=>k2 a o aw aS (kk a o aw z)
theorem wu{s:Shared}(W:Walks prog w A.in1 I fp wr n P St)(gc:HS prog w A.in1 base P bt)(gS:S ∉ fp)(bw:∀a ∈ wr,base.get? a=none)(bS:base.get? S=none)(gn:0 < n){c:Nat}(st:St 0 s.heap)(kb:∀a o,base.get? a=some o->s.heap.get? a=some o)(gs:s.heap.get? S=some { cls:=.type "list", dict:=none,data:=.seq #[] c,slots:=#[] })
  (r:∀v h' tk,P (argBest bt (n - 1)) v->(∀a o,a ∉ wr->a ≠ S->s.heap.get? a=some o->h'.get? a=some o)->R (.ok (.ret v)) { s with heap:=h',toks:=tk }):codeAny (model prog w) A (.builtin "min.loop" ⟨[.ref I,.none,.ref S],[(Str.ofString "default", d)]⟩) R s:=by
 have sw:S ∉ wr:=λh=>gS (W.sub _ h);refine Vy Wy ?_;rw[Around.under_plainId WE _];show wpAny _ A.in1 (V2 (.ref S) >>= _) _ _ s;refine Uf (UG gs rfl ?_);show wpAny _ A.in1 (tryCatch (pyNext (.ref I)) _ >>= _) _ _ s;refine Uf (UL (W.item 0 s _ _ gn st λv h' tk pv st' kk=>?_));have gs':=kk S _ sw gs;have nw:∀a o,base.get? a=some o->a ∉ wr/\a ≠ S:=λa o h=>⟨λz=>(by rw[bw a z] at h;cases h),λz=>(by rw[z,bS] at h;cases h)⟩;show wpAny _ A.in1 (Ud S (λ_=>#[v,v]) >>= _) _ _ _;refine Uf (UN gs' rfl ?_);rw[uh];refine Ux ⟨VV WE _,kz W gc gS bw bS (n - 1) 0 _ v _ (by lia) (W.frame _ _ _ st' λa af o z=>?_) pv (λa o h=>(ZH _ _ (Ne.symm (nw a o h).2)).trans (kk a o (nw a o h).1 (kb a o h))) (Yc _ gs' rfl) λv' h'' tk'' pv' k2=>?_⟩
 ·exact(ZH _ _ (λz:S=a=>gS (by rw[z];exact af))).trans z
 ·exact r v' h'' tk'' pv' λa o aw aS z=>k2 a o aw aS ((ZH _ _ (Ne.symm aS)).trans (kk a o aw z))
theorem zd{s:Shared}(W:Walks prog w A.in1 I fp wr 0 P St)(gS:S ∉ fp){c:Nat}(st:St 0 s.heap)(gs:s.heap.get? S=some { cls:=.type "list", dict:=none,data:=.seq #[] c,slots:=#[] })
  (r:∀h' tk,(∀a o,a ∉ wr->s.heap.get? a=some o->h'.get? a=some o)->R (.ok (.ret d)) { s with heap:=h',toks:=tk }):codeAny (model prog w) A (.builtin "min.loop" ⟨[.ref I,.none,.ref S],[(Str.ofString "default", d)]⟩) R s:=by
 refine Vy Wy ?_;rw[Around.under_plainId WE _];show wpAny _ A.in1 (V2 (.ref S) >>= _) _ _ s;refine Uf (UG gs rfl ?_);show wpAny _ A.in1 (tryCatch (pyNext (.ref I)) _ >>= _) _ _ s;refine Uf (UL (W.done s _ _ st λh' tk kk=>?_));exact Uf (UF (Ux (r h' tk kk)))
variable {E:Value->Shared->Prop} {s:Shared} {l:Addr} {its:Array Value} {Q:Value->Shared->Prop}
theorem ze(hl:s.heap.IsList l its)
  (h:∀s₂:Shared,s₂={ s with heap:=s.heap.push { cls:=.type "list_iterator", data:=.fields #[.ref l,.int 0 0] } } ->
   (s₂.heap.IsListIter s.heap.objs.size l 0/\s₂.heap.IsList l its)->(∀b ∈ [s.heap.objs.size,l],b < s₂.heap.objs.size)->l ≠ s.heap.objs.size->Q (.ref s.heap.objs.size) s₂) :
  wpAny (model prog w) A (pyIter (.ref l)) Q E s:=by
 have hlt:l < s.heap.objs.size:=by obtain⟨_,e,_⟩:=hl;exact Zq e
 refine Uz hl (h _ rfl ⟨⟨_,Zx _ rfl,rfl,rfl⟩,hl.push _⟩ (λb hb=>?_) (ZE hlt));show b < (s.heap.push _).objs.size;rw[Ym];simp only[Zn,Xg,or_false] at hb;rcases hb with rfl |rfl
 ·exact YC _
 ·exact YJ hlt
theorem zf(hh:A.handled=none)(hl:s.heap.IsList l its)(gc:HS prog w A.in1 s.heap (λi v=>its[i]?=some v) bt)
  (h1:0 < its.size->∀v h' tk,its[argBest bt (its.size - 1)]?=some v->(∀b o,s.heap.get? b=some o->h'.get? b=some o)->Q v { s with heap:=h',toks:=tk })
  (h2:its.size=0->∀h' tk,(∀b o,s.heap.get? b=some o->h'.get? b=some o)->Q d { s with heap:=h',toks:=tk }):wpAny (model prog w) A (call (.builtin "min") [.ref l] [(Str.ofString "default", d)]) Q E s:=by
 refine kmb_tree F.kind_min F.plain_min F.entry_min (y9 _ _) ?_;show wpAny _ A.in1 (Builtin.Builtins.bindParams "min" ["key", "default"] 0 ⟨[],[(Str.ofString "default", d)]⟩ >>= _) _ _ s;refine Uf (Uv (show Builtin.Builtins.bindParams "min" ["key", "default"] 0 ⟨[],[(Str.ofString "default", d)]⟩=pure [none,some d] from rfl) ?_);refine Uf (Ux ?_);refine Uf (ze hl λs2 e st fpl lI=>?_);subst e;have W:=Walks.list (prog:=prog) (w:=w) (A:=A.in1) hh s.heap.objs.size l lI its;refine Uf (Uu ?_);have gS:∀b ∈ [s.heap.objs.size,l],b < (s.heap.push { cls:=.type "list_iterator", data:=.fields #[.ref l,.int 0 0] }).objs.size:=fpl;rw[uh]
 have b0:s.heap.get? s.heap.objs.size=none:=by
  cases q:s.heap.get? s.heap.objs.size with
  |none=>rfl
  |some o=>exact absurd (Zq q) (ZM _)
 by_cases hz:its.size=0
 ·rw[hz] at W;refine Ux ⟨VV WE _,zd W (λhm=>ZM _ (fpl _ hm)) (W.frame _ _ _ st λb _ o e=>Zc _ e) (Zx _ rfl) λh' tk hk=>?_⟩;exact h2 hz h' tk (VU λb o hb e=>hk b o hb (Zc _ e))
 ·refine Ux ⟨VV WE _,wu (base:=s.heap) W gc (λhm=>ZM _ (fpl _ hm)) ?_ ?_ (by lia) (W.frame _ _ _ st λb _ o e=>Zc _ e) (λa o e=>Zc _ (Zc _ e)) (Zx _ rfl) λv h' tk pv hk=>?_⟩
  ·intro a ha;rw[Zy.mp ha];exact b0
  ·cases q:s.heap.get? (s.heap.push { cls:=.type "list_iterator", data:=.fields #[.ref l,.int 0 0] }).objs.size with
   |none=>rfl
   |some o=>have:=Zq q;rw[Ym] at this;lia
  ·exact h1 (by lia) v h' tk pv (VU λb o hb e=>hk b o hb (ZE (Zq e)) (Zc _ e))
end
abbrev zg:D->Option (Int × List Int)
 |.tup [.int n,.tup es]=>(eK es).map λns=>(n,ns)
 |_=>none
abbrev mM:List D->Option (List (Int × List Int))
 |[]=>some []
 |d::ds=>match zg d,mM ds with
  |some w,some ws=>some (w::ws)
  |_,_=>none
abbrev bz(ws:List (Int × List Int))(i j:Nat):Bool:=fj (ws.getD i (0,[])) (ws.getD j (0,[]))
abbrev lZ(tu:Bool)(ds:List D)(S:Sto):Option (D × Sto):=match tu,mM ds with
 |false,some ws=>some (ds.getD (argBest (bz ws) (ds.length - 1)) .non,S)
 |_,_=>none
theorem ui:∀ {ds:List D} {ws:List (Int × List Int)},mM ds=some ws->ws.length=ds.length/\∀ (i:Nat) d,ds[i]?=some d->∃w,ws[i]?=some w/\d = .tup [.int w.1,.tup (w.2.map D.int)]
 |[],_,e=>by cases e;exact⟨rfl,λi d h=>by simp at h⟩
 |d::ds,ws,e=>by
  simp only[mM] at e;split at e
  ·rename_i w ws' h1 h2;cases e;obtain⟨l,r⟩:=ui h2;refine⟨by rw[Zr,Zr,l],λi d' h=>?_⟩;cases i with
   |zero=>
    cases h;refine⟨w,rfl,?_⟩;unfold zg at h1;split at h1
    ·rename_i n es;obtain⟨ns,e1,rfl⟩:=ZK.mp h1;rw[dr e1]
    ·cases h1
   |succ i=>exact r i d' (by simpa using h)
  ·cases e
section
variable {X:Cx} {K:W6} {m:List Addr} {H:Hp} {S:Sto} {e:Expr} {t:TA} {p pos kp vp:Pos} {j:Nat}
theorem mN{pins:List (Addr × Obj)}{σ:L2.St}{s:Shared}(I:Inv X pins σ H s){n:Int}{ns:List Int}{v:V}{u:Value}(vd:VD X.K m H (.tup [.int n,.tup (ns.map D.int)]) v)(r:az v u) :
  ∃l t q o nn dd sl xs,u = .ref l/\o=(⟨.type "tuple", dd,.seq #[.int n t,.ref q] nn,sl⟩:Obj)/\s.heap.get? l=some o/\IsTup s.heap q xs/\IntsAre xs.toList ns:=by
 obtain⟨l,vs,rfl,hl,q0⟩:=vd.tups;obtain⟨a,b,rfl,va,vb⟩:=v9 q0;clear q0;cases va.ints;obtain⟨q,ws,rfl,hq,qs⟩:=vb.tups;have ew:=cy qs;subst ew;cases r;obtain⟨_,its,rv,o,h1,h2,nn,h3,h4⟩:=I.hok l _ hl;obtain⟨x,y,rfl,r1,r2⟩:=pd rv;obtain⟨tk,rfl⟩:=r1;cases r2;obtain⟨xs,rx,tx,_⟩:=I.tuple (.of hq);obtain⟨cls,dd,data,sl⟩:=o;simp only at h2 h3;subst h2 h3;exact⟨l,tk,q,_,nn,dd,sl,xs.toArray,rfl,rfl,h1,tx,by simpa using bm rx⟩
theorem HU(hu:X.A.units+64 < cLine)(hc:X.calm=true)(hg:Gl X "min")(hm:X.mg "min" = none)(hdb:(("min" : Str) == ("__debug__" : Str))=false)(ha:PA X [e] t)(he:V6 [e] X.env=(false,eval e X.env)::V6 [] X.env) :
  PE X (.Call (.Name "min" p) [e] [⟨some "default", .Constant .none j vp,kp⟩] pos) (tCB (r1 (rSq X.K lZ)) t):=by
 intro pins s σ H Q I h;refine Ue (cV I hg hm Wm ?_ (by decide) hdb);refine callWith_kw (thn (ha pos pins s σ H _ I h) λus s1 ⟨vs,H1,I1,r,q1⟩=>?_) (by rw[he];rfl) (by rw[he];rfl) rfl rfl;refine thn (tM (nm:=some "default") (kpos:=kp) (xm (X:=X) (j:=j) (pos:=vp)) xL pos pins s1 σ H1 _ I1 (show bW (tC .non) iw σ H1 (λzs H2=>zs=[.non]/\H2=H1) from ⟨rfl,rfl⟩)) λks s2 ⟨zs,H2,I2,rz,ez,eH⟩=>?_;subst ez eH;obtain⟨u,rfl,ru⟩:=ce rz;cases ru;obtain⟨_,rfl,m,S,tu,ds,a,ws,d,S',R,rfl,sq,vd,e',q⟩:=cr q1;obtain⟨u',rfl,ru'⟩:=ce r;cases ru';unfold lZ at e';split at e'
 ·rename_i wl hw;cases e';obtain⟨lw,at_⟩:=ui hw;have sq:SqL X.K H2 a ws:=sq;obtain⟨its,rv,pl,hz⟩:=I2.list sq;have ld:=vd.length;have lr:=rv.length
  have there:∀ (i:Nat) v,its.toArray[i]?=some v->∃x d,ds[i]?=some d/\wl[i]?=some x/\d = .tup [.int x.1,.tup (x.2.map D.int)]/\∃y,ws[i]?=some y/\VD X.K m H2 d y/\az y v:=λi v hv=>by
   have hv:its[i]?=some v:=by simpa using hv
   have hi:i < ds.length:=by have:=(Zb.mp hv).1;lia
   obtain⟨y,hy,vy⟩:=vd.get (gEG hi);obtain⟨v',hv',ry⟩:=rv.get hy;rw[hv] at hv';cases hv';obtain⟨x,hx,ex⟩:=at_ i _ (gEG hi);exact⟨x,_,gEG hi,hx,ex,y,hy,vy,ry⟩
  refine zf (bt:=bz wl) (I2.ok.hd hc) pl.isList ?_ (λhsz v h' tk' hv hk=>?_) (λhsz h' tk' hk=>?_)
  ·intro i j vi vj s3 Q3 E3 kp pi pj hq;obtain⟨x,d1,hd1,hx,rfl,y1,_,v1,r1⟩:=there i vi pi;obtain⟨y,d2,hd2,hy,rfl,y2,_,v2,r2⟩:=there j vj pj;obtain⟨l1,t1,p1,o1,n1,dd1,sl1,xs1,rfl,rfl,g1,tp1,i1⟩:=mN I2 v1 r1;obtain⟨l2,t2,p2,o2,n2,dd2,sl2,xs2,rfl,rfl,g2,tp2,i2⟩:=mN I2 v2 r2
   have e:bz wl i j=fj x y:=by
    unfold bz;rw[ZF,ZF,hx,hy];rfl
   rw[e] at hq
   exact VZ (op:=.Lt) ⟨_,kp _ _ g1,rfl⟩ ⟨_,kp _ _ g2,rfl⟩ WL WB (Ww _ _) (lY l1 l2 x.1 y.1 t1 t2 p1 p2 n1 n2 dd1 dd2 sl1 sl2 x.2 y.2)
    ⟨kp _ _ g1,kp _ _ g2,⟨xs1,xs2,tp1.keeps kp,tp2.keeps kp,i1,i2⟩,(show X.A.units+1+1 < cLine by lia),show Value.bool (fj x y) ≠ Value.notImplemented/\Q3 (.bool (fj x y)) s3 from ⟨(λz=>nomatch z),hq⟩⟩ (show X.A.units+1 < cLine by lia)
  ·have hn:0 < ds.length:=by have:its.toArray.size=its.length:=Zk;lia
   obtain⟨x,d1,hd1,hx,ed,y1,_,v1,r1⟩:=there _ v hv;have e:its.toArray.size=ds.length:=by rw[Zk];lia
   rw[e] at hd1;refine⟨y1,H2,I2.kept hk,r1,?_⟩;rw[show ds.getD (argBest (bz wl) (ds.length - 1)) .non=d1 by rw[ZF,hd1];rfl] at q;exact q m H2 _ (Aft.refl R) v1
  ·have en:ds=[]:=Z3.mp (by rw[Zk] at hsz;lia);subst en;exact⟨.non,H2,I2.kept hk,rfl,q m H2 _ (Aft.refl R) nM⟩
 ·cases e'
end
end Ev
namespace L2
open PySem PySem.Spec PyProof.Rows
abbrev Itd(hi:Int)(n:Nat):It:=⟨λi _=>i < n,λi H x H'=>H'=H/\x = .int (hi - i),λi _=>n<=i⟩
theorem ww{P:Program}{w:World}{K:W6}{tg:Expr}(it:Addr)(lo:Int)(n:Nat):Turn P w K tg (Itd lo n) [it] it (λi h=>WO h it (lo+(i:Nat) * (-1)) ((n:Int) - (i:Nat)) (-1)) where
 mem:=by simp
 obj:=λi h st b hb=>by
  have e:b=it:=by simpa using hb
  subst e
  exact⟨_,st,λv z=>by
   have z':Data.fields _=Data.cell v:=z;cases z'⟩
 keep:=λi h h' st k=>k it (by simp) _ st
 item:=by
  intro X hP hw hK hc i pins s σ H E I hf st hg;subst hP hw hK;obtain⟨f0,f1,f2,f3,f4,f5⟩:=hf it (by simp);have W:=Walks.range (prog:=X.prog) (w:=X.w) (I.ok.hd hc) it lo (-1) n;refine W.item i s _ _ hg st λv h' tk hv st' kk=>?_;obtain⟨t,rfl⟩:=hv;have I1:Inv X pins σ H { s with heap:=h',toks:=tk }:=I.turned (λb o hb e=>kk b o (by simpa using hb) e) f0 f1 f3 f4 f5;refine⟨_,rfl,tK (s:={ s with heap:=h',toks:=tk }) (n := "range_iterator") st' rfl rfl (by decide) ⟨.int (lo - i),H,I1,⟨t,?_⟩,⟨rfl,rfl⟩,st',λb hb=>(hf b hb).1⟩⟩
  congr 1
  omega
 done:=by
  intro X hP hw hK hc i pins s σ H E I hf st hg;subst hP hw hK;obtain⟨f0,f1,f2,f3,f4,f5⟩:=hf it (by simp);exact UE (I.ok.hd hc) st (by have:n<=i:=hg;omega) λh' eb=>⟨rfl,I.turned (t':=s.toks) (λb o hb e=>eb b o hb e) f0 f1 f3 f4 f5⟩
 self:=λ_ _ _ _ _ st h=>UA st h
section
variable {X:Cx} {tg:Expr}
theorem sE{a:Int}(ha:-(2 ^ 62)<=a)(ha':a < 2 ^ 62):Builtin.Range.small a (-1) (-1)=true:=by
 unfold Builtin.Range.small;rw[Vl];simp only[Builtin.Range.rangeFitsLong,bAE,YH,decide_eq_true_eq,beq_iff_eq,show ¬ (-1:Int) > 0 by decide,if_false];split <;> omega
theorem CP{pins:List (Addr × Obj)}{σ:St}{H:Hp}{s:Shared}{R:It->Hp->Prop}{E:Value->Shared->Prop}{lo:Int}{t u v:Tok}{tk:Nat}(I:Inv X pins σ H s)(h1:-(2 ^ 62)<=lo)(h2:lo < 2 ^ 62)
  (q:R (Itd lo (lo+1).toNat) H):wpAny (model X.prog X.w) X.A (pyIter (.ref s.heap.objs.size)) (PIE X pins σ tg R) E { s with heap:=s.heap.push { cls:=.type "range", data:=.fields #[.int lo t,.int (-1) u,.int (-1) v] },toks:=tk }:=by
 refine wpAny_pyIter_range (IsRange.new ..) (sE h1 h2) ?_;have I1:Inv X pins σ H { s with heap:=s.heap.push { cls:=.type "range", data:=.fields #[.int lo t,.int (-1) u,.int (-1) v] },toks:=tk }:=I.kept λb o e=>Zc _ e
 refine⟨(s.heap.push { cls:=.type "range", data:=.fields #[.int lo t,.int (-1) u,.int (-1) v] }).objs.size,[(s.heap.push { cls:=.type "range", data:=.fields #[.int lo t,.int (-1) u,.int (-1) v] }).objs.size],_,_,H,rfl,
  I1.kept (t':=tk) λb o e=>Zc _ e,ww _ lo (lo+1).toNat,?_,λb hb=>?_,q⟩
 ·have e1:lo+((0:Nat):Int) * (-1)=lo:=by simp
  have e2:(((lo+1).toNat:Nat):Int) - ((0:Nat):Int)=Builtin.Range.rangeSize lo (-1) (-1):=by rw[Vl];split <;> omega
  show WO _ _ (lo+((0:Nat):Int) * (-1)) ((((lo+1).toNat:Nat):Int) - ((0:Nat):Int)) (-1);rw[e1,e2];exact Zx _ rfl
 ·have e:b=(s.heap.push { cls:=.type "range", data:=.fields #[.int lo t,.int (-1) u,.int (-1) v] }).objs.size:=by simpa using hb
  subst e;exact I1.fpOk (Zd _) (I1.hok.fresh (Zd _))
def iDn(ta:TA):TI:=λσ H R=>ta σ H λvs H1=>∃i:Int,vs=[.int i,.int (-1),.int (-1)]/\(-(2 ^ 62)<=i/\i < 2 ^ 62)/\R (Itd i (i+1).toNat) H1
theorem Mr{a b c:Expr}{ta:TA}{p pos:Pos}(hg:Gl X "range")(hm:X.mg "range" = none)(ha:PA X [a,b,c] ta)(hs:V6 [a,b,c] X.env=(false,eval a X.env)::V6 [b,c] X.env)(hs2:(backTo pos (V6 [b,c] X.env)).any (·.1)=false) :
  PI X tg (.Call (.Name "range" p) [a,b,c] [] pos) (iDn ta):=by
 intro pins s σ H R I h;refine Call_ (cV I hg hm boot_range (Wp (thn (ha pos pins s σ H _ I h) λus s1 ⟨vs,H1,I1,r1,q1⟩=>?_) hs hs2));obtain⟨i,e,⟨q1,q2⟩,q⟩:=q1;subst e;cases r1 with
 |cons r rr=>
  cases rr with
  |cons r' rr=>
   cases rr with
   |cons r'' rr=>
    cases rr;obtain⟨t,rfl⟩:=r;obtain⟨t',rfl⟩:=r';obtain⟨t'',rfl⟩:=r'';exact call_range_3 (by decide) (CP I1 q1 q2 q) (.inl (PyProof.noPylong_of_log2 (by decide +kernel)))
end
end L2
namespace Ev
open PySem PySem.Spec PyProof.Rows L2
abbrev nxD(hi:Int)(n:Nat):Nxt:=λi _=>some (if i < n then some (.int (hi - i)) else none)
section
variable {K:W6} {m m0:List Addr} {H H0:Hp} {S:Sto} {B:List Addr}
theorem HV{lo:Int}{n:Nat}:IOk K B (Itd lo n) (nxD lo n) m0 H0:=by
 intro m S H i x R;unfold nxD;refine⟨λe=>?_,λd e=>?_⟩
 ·split at e
  ·cases e
  ·show n<=i;lia
 ·split at e
  ·rename_i hi;cases e;exact⟨hi,λy H' ⟨eH,hy⟩=>by subst eH;subst hy;exact⟨Aft.refl R,a9⟩⟩
  ·cases e
abbrev xDn(x:XE):XI:=λρ S=>bnd (x ρ S) λd S1=>match d with
 |.int j=>if lim j=true then some (nxD j (j+1).toNat,S1) else none
 |_=>none
theorem Ms(h:tIt K B (xDn x) σ H R):iDn (bW (tE K x) (bW (tC (.int (-1))) (bW (tC (.int (-1))) iw))) σ H R:=by
 obtain⟨m,ρ,S,nx,S',E,Rl,hB,e,q⟩:=h;obtain⟨d,S1,e1,e⟩:=ab e;refine⟨m,ρ,S,d,S1,E,Rl,e1,λm1 H1 v A1 vd=>?_⟩;cases d with
 |int i=>
  dsimp only at e;split at e
  ·rename_i hl;cases e;exact⟨i,by rw[vd.ints],⟨(fg hl).1,(fg hl).2⟩,q m1 H1 _ A1 HV⟩
  ·cases e
 |_=>cases e
end
mutual
inductive CE where |non |bl (b:Bool) |int (i:Int) |str (x:Str) |var (i:Nat) |con (k:Nat)(v:Int) |tup (es:List CE) |lst (es:List CE) |dic0 |bin (o:BOp)(a b:CE) |neg (a:CE) |cmp (o:COp)(a b:CE) |chn (o p:COp)(a b c:CE) |and (a b:CE) |or (a b:CE) |not (a:CE) |ite (c a b:CE) |ix (a b:CE) |sl (a:CE)(lo hi:Option CE) |call (f:Nat)(es:List CE) |inst (t:Ty)(a:CE) |len (a:CE) |all (a:CE) |tupOf (a:CE) |listR (a:CE) |srt (a:CE) |mxL (a:CE) |mxD (a:CE)(c:Int) |sm (a:CE) |rev (a:CE) |mnN (a:CE) |mx (a b:CE) |mn (a b:CE) |rep (a:CE) |comp (own:List Str)(elt:CE)(cls:List Cl) |app (o e:CE) |pop (o:CE) |popAt (o e:CE) |cnt (o e:CE)
inductive CI where
 |val (a:CE) |r1 (a:CE) |r2 (a b:CE) |dn (a:CE) |en (a:CE)
inductive Cl where
 |mk (tg:Tg) (it:CI) (cond:Option CE)
end
abbrev ag:CE->Bool
 |.lst _=>true |.comp _ _ _=>true |.listR _=>true |.srt _=>true
 |_=>false
abbrev LF:Nat:=1000000
abbrev xNo{α:Type}:Rho->Sto->Option (α × Sto):=λ_ _=>none
abbrev cu(tu:Bool)(ds:List D):Option (List D):=if tu=false then yL tu ds else none
abbrev wx(f:Bool->List D->Option (List D))(x:XA):XA:=λρ S=>bnd (x ρ S) λds S1=>(f false ds).map λes=>(es,S1)
abbrev wy(f:Bool->List D->Option (List D))(x:XE):XA:=λρ S=>bnd (x ρ S) λd S1=>match ay d S1 with
 |some r=>(f r.1 r.2).map λes=>(es,S1)
 |none=>none
abbrev wz(x:XE):XA:=λρ S=>bnd (x ρ S) λd S1=>match d with
 |.int i=>if 0<=i/\i<=1000 then some ((Zl i.toNat).map λj=>.int (Int.ofNat j),S1) else none
 |_=>none
abbrev zh:XE:=λ_ S=>some (.ref S.length,S++[.dic [] []])
abbrev cnd(t:CE->XT):Option CE->XA->XA
 |some c,x=>yW (t c) x
 |none,x=>x
abbrev opt(t:CE->XE):Option CE->XO
 |some l=>rV (t l)
 |none=>rT
mutual
noncomputable def evE(C:Calls)(ar:Nat->Nat):Nat->CE->XE
 |0,_=>xNo
 |n+1,e=>match e with
  |.non=>xC .non
  |.bl b=>xC (.bl b)
  |.int i=>xC (.int i)
  |.str x=>xC (.str x)
  |.var i=>vT i
  |.con _ v=>xC (.int v)
  |.tup es=>jt ju (evA C ar n es)
  |.lst es=>dG (mE (evA C ar n es))
  |.dic0=>zh
  |.bin o a b=>pQ (bJ o) (evE C ar n a) (evE C ar n b)
  |.neg a=>xUn HL (evE C ar n a)
  |.cmp o a b=>pQ (aj o) (evE C ar n a) (evE C ar n b)
  |.chn o p a b c=>wq (aj o) (aj p) (evE C ar n a) (evE C ar n b) (evE C ar n c)
  |.and a b=>yZ (evE C ar n a) (evE C ar n b)
  |.or a b=>xOr (evE C ar n a) (evE C ar n b)
  |.not a=>xUn wp (evE C ar n a)
  |.ite c a b=>HM (evT C ar n c) (evE C ar n a) (evE C ar n b)
  |.ix a b=>if ag a=true then rP (cF C ar n a) (evE C ar n b) else pQ ixS (evE C ar n a) (evE C ar n b)
  |.sl a lo hi=>xSl (evE C ar n a) (opt (evE C ar n) lo) (opt (evE C ar n) hi)
  |.call f es=>ql (C f) (ar f) (evA C ar n es)
  |.inst t a=>xUn (kh t) (evE C ar n a)
  |.len a=>if ag a=true then lQ cD (cF C ar n a) else lU cD (evE C ar n a)
  |.all a=>if ag a=true then lQ jw (cF C ar n a) else lU jw (evE C ar n a)
  |.tupOf a=>if ag a=true then lQ cX (cF C ar n a) else lU cX (evE C ar n a)
  |.listR a=>dG (wz (evE C ar n a))
  |.srt a=>dG (if ag a=true then wx cu (cF C ar n a) else wy cu (evE C ar n a))
  |.mxL a=>if ag a=true then lQ lW (cF C ar n a) else lU lW (evE C ar n a)
  |.mxD a c=>if ag a=true then lQ (eM c) (cF C ar n a) else lU (eM c) (evE C ar n a)
  |.sm a=>if ag a=true then lQ lX (cF C ar n a) else lU lX (evE C ar n a)
  |.rev a=>xUn pZ (evE C ar n a)
  |.mnN a=>if ag a=true then lQ lZ (cF C ar n a) else lU lZ (evE C ar n a)
  |.mx a b=>jt (two yE) (evA C ar n [a,b])
  |.mn a b=>jt (two yF) (evA C ar n [a,b])
  |.rep a=>xUn ku (evE C ar n a)
  | .comp own elt cls=>dG (match cls with
   |[]=>xNo
   | ⟨tg,it,cond⟩::rest=>ky own.length (evI C ar n it) tg (cnd (evT C ar n) cond (fY C ar n elt rest)) LF)
  |.app o a=>sj cN qd (evE C ar n o) (evA C ar n [a])
  |.pop o=>sj cN sv (evE C ar n o) vU
  |.popAt o a=>sj cN gy (evE C ar n o) (evA C ar n [a])
  |.cnt o a=>sj (λd _=>isTup d) sx (evE C ar n o) (evA C ar n [a])
noncomputable def evA(C:Calls)(ar:Nat->Nat):Nat->List CE->XA
 |0,_=>xNo
 |n+1,es=>match es with
  |[]=>vU
  |e::es=>t7 (evE C ar n e) (evA C ar n es)
noncomputable def cF(C:Calls)(ar:Nat->Nat):Nat->CE->XA
 |0,_=>xNo
 |n+1,e=>match e with
  |.lst es=>mE (evA C ar n es)
  |.listR a=>wz (evE C ar n a)
  |.srt a=>if ag a=true then wx cu (cF C ar n a) else wy cu (evE C ar n a)
  |.comp own elt cls=>match cls with
   |[]=>xNo
   |⟨tg,it,cond⟩::rest=>ky own.length (evI C ar n it) tg (cnd (evT C ar n) cond (fY C ar n elt rest)) LF
  |_=>xNo
noncomputable def fY(C:Calls)(ar:Nat->Nat):Nat->CE->List Cl->XA
 |0,_,_=>xNo
 |n+1,elt,cls=>match cls with
  |[]=>FI (evE C ar n elt)
  |⟨tg,it,cond⟩::rest=>iO (evI C ar n it) tg (cnd (evT C ar n) cond (fY C ar n elt rest)) LF
noncomputable def evI(C:Calls)(ar:Nat->Nat):Nat->CI->XI
 |0,_=>xNo
 |n+1,it=>match it with
  |.val a=>if ag a=true then xIT (cF C ar n a) else xIV (evE C ar n a)
  |.r1 a=>xR1 (evE C ar n a)
  |.dn a=>xDn (evE C ar n a)
  |.r2 a b=>xR2 (evE C ar n a) (evE C ar n b)
  |.en a=>if ag a=true then xET (cF C ar n a) else xEV (evE C ar n a)
noncomputable def evT(C:Calls)(ar:Nat->Nat):Nat->CE->XT
 |0,_=>xNo
 |n+1,e=>match e with
  |.cmp o a b=>xB (pQ (aj o) (evE C ar n a) (evE C ar n b))
  |.chn o p a b c=>xB (wq (aj o) (aj p) (evE C ar n a) (evE C ar n b) (evE C ar n c))
  |.and a b=>y6 (evT C ar n a) (evT C ar n b)
  |.or a b=>HQ (evT C ar n a) (evT C ar n b)
  |.not a=>y7 (evT C ar n a)
  |.ite _ _ _=>xNo
  |e=>Cs (evE C ar n e)
end
abbrev hV:List Str:=["len", "isinstance", "all", "any", "tuple", "list", "max", "min", "repr", "range", "enumerate", "int", "bool", "str", "sorted", "zip", "sum"]
structure Tab where
 con:List (Str × Int)
 fns:List (Str × Nat)
structure Blk where
 sc:Scope
 fs:Option Scope
 N:List Str
abbrev Blk.glo(b:Blk)(x:Str):Bool:=b.sc.names.lookup x == some .globalImplicit && !(x == ("__debug__" : Str))
abbrev Blk.vis(b:Blk)(x:Str):Bool:=(match b.sc.names.lookup x with
 |some .local=>true
 |some .cell=>true
 |some .free=>true
 | _=>false) && !(x == ("__debug__" : Str)) && !(x == ("__classdict__" : Str))
abbrev Blk.own(b:Blk)(x:Str):Bool:=match b.sc.names.lookup x with
 |some .local=>true
 | some .cell=>(match b.fs with
  |none=>true
  | some sc=>sc.names.lookup x == some .cell)
 |_=>false
theorem bG{P:Prop}[Decidable P]{f:P->Bool}(h:(if p:P then f p else false)=true):∃p,f p=true:=by
 by_cases p:P
 ·rw[dif_pos p] at h;exact⟨p,h⟩
 ·rw[dif_neg p] at h;cases h
theorem an2{a b:Bool}(h:(a && b)=true):a=true/\b=true:=by cases a;cases h;exact⟨rfl,h⟩
theorem an3{a b c:Bool}(h:(a && b && c)=true):a=true/\b=true/\c=true:=⟨(an2 (an2 h).1).1,(an2 (an2 h).1).2,(an2 h).2⟩
theorem an4{a b c d:Bool}(h:(a && b && c && d)=true):a=true/\b=true/\c=true/\d=true:=⟨(an3 (an2 h).1).1,(an3 (an2 h).1).2.1,(an3 (an2 h).1).2.2,(an2 h).2⟩
theorem an5{a b c d e:Bool}(h:(a && b && c && d && e)=true):a=true/\b=true/\c=true/\d=true/\e=true:=⟨(an4 (an2 h).1).1,(an4 (an2 h).1).2.1,(an4 (an2 h).1).2.2.1,(an4 (an2 h).1).2.2.2,(an2 h).2⟩
theorem an6{a b c d e f:Bool}(h:(a && b && c && d && e && f)=true):a=true/\b=true/\c=true/\d=true/\e=true/\f=true:=⟨(an5 (an2 h).1).1,(an5 (an2 h).1).2.1,(an5 (an2 h).1).2.2.1,(an5 (an2 h).1).2.2.2.1,(an5 (an2 h).1).2.2.2.2,(an2 h).2⟩
abbrev l1{α:Type}(l:List α)(k:α->Bool):Bool:=match l with
 |[]=>false
 |x::t=>t.isEmpty && k x
abbrev lC{α:Type}(l:List α)(k:α->List α->Bool):Bool:=match l with
 |[]=>false
 |x::t=>k x t
theorem dJ{α:Type}{l:List α}{k:α->List α->Bool}(h:lC l k=true):∃x t,l=x::t/\k x t=true:=by
 cases l with
 |nil=>cases h
 |cons x t=>exact⟨x,t,rfl,h⟩
theorem dM{α:Type}{l:List α}(h:l.isEmpty=true):l=[]:=by cases l;rfl;cases h
theorem gz{α:Type}{l:List α}{k:α->Bool}(h:l1 l k=true):∃x,l=[x]/\k x=true:=by
 cases l with
 |nil=>cases h
 |cons x t=>obtain⟨h1,h2⟩:=an2 h;cases dM h1;exact⟨x,rfl,h2⟩
abbrev aB(e:Expr):Bool:=!(e.ctorIdx == 22 || e.ctorIdx == 26 || e.ctorIdx == 7)
abbrev oe(e:Expr)(k:BoolOp->List Expr->Pos->Bool):Bool:=if h:e.ctorIdx=0 then @Expr.BoolOp.elim (λ_=>Bool) e h k else false
theorem mO{e:Expr}{k:BoolOp->List Expr->Pos->Bool}(h:oe e k=true):∃x0 x1 x2,e = .BoolOp x0 x1 x2/\k x0 x1 x2=true:=by
 obtain⟨h1,h⟩:=bG h;exact Expr.BoolOp.elim (motive_1:=λe=>∀h',@Expr.BoolOp.elim (λ_=>Bool) e h' k=true->∃x0 x1 x2,e = .BoolOp x0 x1 x2/\k x0 x1 x2=true) e h1 (λx0 x1 x2 _ hh=>⟨x0,x1,x2,rfl,hh⟩) h1 h
abbrev zi(e:Expr)(k:Expr->WR->Expr->Pos->Bool):Bool:=if h:e.ctorIdx=2 then @Expr.BinOp.elim (λ_=>Bool) e h k else false
theorem zj{e:Expr}{k:Expr->WR->Expr->Pos->Bool}(h:zi e k=true):∃x0 x1 x2 x3,e = .BinOp x0 x1 x2 x3/\k x0 x1 x2 x3=true:=by
 obtain⟨h1,h⟩:=bG h;exact Expr.BinOp.elim (motive_1:=λe=>∀h',@Expr.BinOp.elim (λ_=>Bool) e h' k=true->∃x0 x1 x2 x3,e = .BinOp x0 x1 x2 x3/\k x0 x1 x2 x3=true) e h1 (λx0 x1 x2 x3 _ hh=>⟨x0,x1,x2,x3,rfl,hh⟩) h1 h
abbrev hX(e:Expr)(k:UnaryOp->Expr->Pos->Bool):Bool:=if h:e.ctorIdx=3 then @Expr.UnaryOp.elim (λ_=>Bool) e h k else false
theorem kB{e:Expr}{k:UnaryOp->Expr->Pos->Bool}(h:hX e k=true):∃x0 x1 x2,e = .UnaryOp x0 x1 x2/\k x0 x1 x2=true:=by
 obtain⟨h1,h⟩:=bG h;exact Expr.UnaryOp.elim (motive_1:=λe=>∀h',@Expr.UnaryOp.elim (λ_=>Bool) e h' k=true->∃x0 x1 x2,e = .UnaryOp x0 x1 x2/\k x0 x1 x2=true) e h1 (λx0 x1 x2 _ hh=>⟨x0,x1,x2,rfl,hh⟩) h1 h
abbrev zk(e:Expr)(k:Expr->Expr->Expr->Pos->Bool):Bool:=if h:e.ctorIdx=5 then @Expr.IfExp.elim (λ_=>Bool) e h k else false
theorem zl{e:Expr}{k:Expr->Expr->Expr->Pos->Bool}(h:zk e k=true):∃x0 x1 x2 x3,e = .IfExp x0 x1 x2 x3/\k x0 x1 x2 x3=true:=by
 obtain⟨h1,h⟩:=bG h;exact Expr.IfExp.elim (motive_1:=λe=>∀h',@Expr.IfExp.elim (λ_=>Bool) e h' k=true->∃x0 x1 x2 x3,e = .IfExp x0 x1 x2 x3/\k x0 x1 x2 x3=true) e h1 (λx0 x1 x2 x3 _ hh=>⟨x0,x1,x2,x3,rfl,hh⟩) h1 h
abbrev FL(e:Expr)(k:List (Option Expr)->List Expr->Pos->Bool):Bool:=if h:e.ctorIdx=6 then @Expr.Dict.elim (λ_=>Bool) e h k else false
theorem CQ{e:Expr}{k:List (Option Expr)->List Expr->Pos->Bool}(h:FL e k=true):∃x0 x1 x2,e = .Dict x0 x1 x2/\k x0 x1 x2=true:=by
 obtain⟨h1,h⟩:=bG h;exact Expr.Dict.elim (motive_1:=λe=>∀h',@Expr.Dict.elim (λ_=>Bool) e h' k=true->∃x0 x1 x2,e = .Dict x0 x1 x2/\k x0 x1 x2=true) e h1 (λx0 x1 x2 _ hh=>⟨x0,x1,x2,rfl,hh⟩) h1 h
abbrev iP(e:Expr)(k:Expr->List Wt->Scope->Pos->Bool):Bool:=if h:e.ctorIdx=8 then @Expr.ListComp.elim (λ_=>Bool) e h k else false
theorem i9{e:Expr}{k:Expr->List Wt->Scope->Pos->Bool}(h:iP e k=true):∃x0 x1 x2 x3,e = .ListComp x0 x1 x2 x3/\k x0 x1 x2 x3=true:=by
 obtain⟨h1,h⟩:=bG h;exact Expr.ListComp.elim (motive_1:=λe=>∀h',@Expr.ListComp.elim (λ_=>Bool) e h' k=true->∃x0 x1 x2 x3,e = .ListComp x0 x1 x2 x3/\k x0 x1 x2 x3=true) e h1 (λx0 x1 x2 x3 _ hh=>⟨x0,x1,x2,x3,rfl,hh⟩) h1 h
abbrev kC(e:Expr)(k:Expr->List CmpOp->List Expr->Pos->Bool):Bool:=if h:e.ctorIdx=15 then @Expr.Compare.elim (λ_=>Bool) e h k else false
theorem kD{e:Expr}{k:Expr->List CmpOp->List Expr->Pos->Bool}(h:kC e k=true):∃x0 x1 x2 x3,e = .Compare x0 x1 x2 x3/\k x0 x1 x2 x3=true:=by
 obtain⟨h1,h⟩:=bG h;exact Expr.Compare.elim (motive_1:=λe=>∀h',@Expr.Compare.elim (λ_=>Bool) e h' k=true->∃x0 x1 x2 x3,e = .Compare x0 x1 x2 x3/\k x0 x1 x2 x3=true) e h1 (λx0 x1 x2 x3 _ hh=>⟨x0,x1,x2,x3,rfl,hh⟩) h1 h
abbrev uj(e:Expr)(k:Expr->List Expr->List Keyword->Pos->Bool):Bool:=if h:e.ctorIdx=16 then @Expr.Call.elim (λ_=>Bool) e h k else false
theorem uk{e:Expr}{k:Expr->List Expr->List Keyword->Pos->Bool}(h:uj e k=true):∃x0 x1 x2 x3,e = .Call x0 x1 x2 x3/\k x0 x1 x2 x3=true:=by
 obtain⟨h1,h⟩:=bG h;exact Expr.Call.elim (motive_1:=λe=>∀h',@Expr.Call.elim (λ_=>Bool) e h' k=true->∃x0 x1 x2 x3,e = .Call x0 x1 x2 x3/\k x0 x1 x2 x3=true) e h1 (λx0 x1 x2 x3 _ hh=>⟨x0,x1,x2,x3,rfl,hh⟩) h1 h
abbrev dw(e:Expr)(k:Const->Nat->Pos->Bool):Bool:=if h:e.ctorIdx=19 then @Expr.Constant.elim (λ_=>Bool) e h k else false
theorem cP{e:Expr}{k:Const->Nat->Pos->Bool}(h:dw e k=true):∃x0 x1 x2,e = .Constant x0 x1 x2/\k x0 x1 x2=true:=by
 obtain⟨h1,h⟩:=bG h;exact Expr.Constant.elim (motive_1:=λe=>∀h',@Expr.Constant.elim (λ_=>Bool) e h' k=true->∃x0 x1 x2,e = .Constant x0 x1 x2/\k x0 x1 x2=true) e h1 (λx0 x1 x2 _ hh=>⟨x0,x1,x2,rfl,hh⟩) h1 h
abbrev kE(e:Expr)(k:Expr->Str->Pos->Bool):Bool:=if h:e.ctorIdx=20 then @Expr.Attribute.elim (λ_=>Bool) e h k else false
theorem og{e:Expr}{k:Expr->Str->Pos->Bool}(h:kE e k=true):∃x0 x1 x2,e = .Attribute x0 x1 x2/\k x0 x1 x2=true:=by
 obtain⟨h1,h⟩:=bG h;exact Expr.Attribute.elim (motive_1:=λe=>∀h',@Expr.Attribute.elim (λ_=>Bool) e h' k=true->∃x0 x1 x2,e = .Attribute x0 x1 x2/\k x0 x1 x2=true) e h1 (λx0 x1 x2 _ hh=>⟨x0,x1,x2,rfl,hh⟩) h1 h
abbrev cG(e:Expr)(k:Expr->Expr->Pos->Bool):Bool:=if h:e.ctorIdx=21 then @Expr.Subscript.elim (λ_=>Bool) e h k else false
theorem cv{e:Expr}{k:Expr->Expr->Pos->Bool}(h:cG e k=true):∃x0 x1 x2,e = .Subscript x0 x1 x2/\k x0 x1 x2=true:=by
 obtain⟨h1,h⟩:=bG h;exact Expr.Subscript.elim (motive_1:=λe=>∀h',@Expr.Subscript.elim (λ_=>Bool) e h' k=true->∃x0 x1 x2,e = .Subscript x0 x1 x2/\k x0 x1 x2=true) e h1 (λx0 x1 x2 _ hh=>⟨x0,x1,x2,rfl,hh⟩) h1 h
abbrev zm(e:Expr)(k:Str->Pos->Bool):Bool:=if h:e.ctorIdx=23 then @Expr.Name.elim (λ_=>Bool) e h k else false
theorem ul{e:Expr}{k:Str->Pos->Bool}(h:zm e k=true):∃x0 x1,e = .Name x0 x1/\k x0 x1=true:=by
 obtain⟨h1,h⟩:=bG h;exact Expr.Name.elim (motive_1:=λe=>∀h',@Expr.Name.elim (λ_=>Bool) e h' k=true->∃x0 x1,e = .Name x0 x1/\k x0 x1=true) e h1 (λx0 x1 _ hh=>⟨x0,x1,rfl,hh⟩) h1 h
abbrev FM(e:Expr)(k:List Expr->Pos->Bool):Bool:=if h:e.ctorIdx=24 then @Expr.List.elim (λ_=>Bool) e h k else false
theorem CT{e:Expr}{k:List Expr->Pos->Bool}(h:FM e k=true):∃x0 x1,e = .List x0 x1/\k x0 x1=true:=by
 obtain⟨h1,h⟩:=bG h;exact Expr.List.elim (motive_1:=λe=>∀h',@Expr.List.elim (λ_=>Bool) e h' k=true->∃x0 x1,e = .List x0 x1/\k x0 x1=true) e h1 (λx0 x1 _ hh=>⟨x0,x1,rfl,hh⟩) h1 h
abbrev zn(e:Expr)(k:List Expr->Nat->Pos->Bool):Bool:=if h:e.ctorIdx=25 then @Expr.Tuple.elim (λ_=>Bool) e h k else false
theorem zo{e:Expr}{k:List Expr->Nat->Pos->Bool}(h:zn e k=true):∃x0 x1 x2,e = .Tuple x0 x1 x2/\k x0 x1 x2=true:=by
 obtain⟨h1,h⟩:=bG h;exact Expr.Tuple.elim (motive_1:=λe=>∀h',@Expr.Tuple.elim (λ_=>Bool) e h' k=true->∃x0 x1 x2,e = .Tuple x0 x1 x2/\k x0 x1 x2=true) e h1 (λx0 x1 x2 _ hh=>⟨x0,x1,x2,rfl,hh⟩) h1 h
abbrev sF(e:Expr)(k:Option Expr->Option Expr->Option Expr->Pos->Bool):Bool:=if h:e.ctorIdx=26 then @Expr.Slice.elim (λ_=>Bool) e h k else false
theorem qo{e:Expr}{k:Option Expr->Option Expr->Option Expr->Pos->Bool}(h:sF e k=true):∃x0 x1 x2 x3,e = .Slice x0 x1 x2 x3/\k x0 x1 x2 x3=true:=by
 obtain⟨h1,h⟩:=bG h;exact Expr.Slice.elim (motive_1:=λe=>∀h',@Expr.Slice.elim (λ_=>Bool) e h' k=true->∃x0 x1 x2 x3,e = .Slice x0 x1 x2 x3/\k x0 x1 x2 x3=true) e h1 (λx0 x1 x2 x3 _ hh=>⟨x0,x1,x2,x3,rfl,hh⟩) h1 h
abbrev sG(e:Expr):Bool:=!(e.ctorIdx == 22 || uj e λf es ks _=>f.ctorIdx == 23 && es.isEmpty && ks.isEmpty)
abbrev HW(e:Expr):Bool:=!(e.ctorIdx == 0 || e.ctorIdx == 5 || e.ctorIdx == 15 || hX e λo _ _=>decide (o = .Not))
abbrev kF(own N:List Str):List Nat:=(Zl N.length).filter λi=>match N[i]? with
 |some x=>own.contains x
 |none=>false
abbrev Blk.inner(b:Blk)(own:List Str)(scope:Scope):Blk:=⟨eW scope b.sc,some scope,cB (kF own b.N) b.N++own⟩
abbrev zp(e:Expr):Option (Str × Pos):=if h:e.ctorIdx=23 then some (@Expr.Name.elim (λ_=>Str × Pos) e h λx p=>(x,p)) else none
abbrev wD(e:Expr):Option (List Expr × Nat × Pos):=if h:e.ctorIdx=25 then some (@Expr.Tuple.elim (λ_=>List Expr × Nat × Pos) e h λes k p=>(es,k,p)) else none
theorem FN{α:Type}{P:Prop}[Decidable P]{f:P->α}{r:α}(h:(if p:P then some (f p) else none)=some r):∃p,f p=r:=by
 by_cases p:P
 ·rw[dif_pos p] at h;cases h;exact⟨p,rfl⟩
 ·rw[dif_neg p] at h;cases h
theorem oh{e:Expr}{x:Str}{p:Pos}(h:zp e=some (x,p)):e = .Name x p:=by
 obtain⟨h1,h⟩:=FN h;exact Expr.Name.elim (motive_1:=λe=>∀h',Expr.Name.elim (motive_1:=λ_=>Str × Pos) e h' (λx p=>(x,p))=(x,p)->e = .Name x p) e h1 (λ_ _ _ hh=>by cases hh;rfl) h1 h
theorem oi{e:Expr}{es:List Expr}{k:Nat}{p:Pos}(h:wD e=some (es,k,p)):e = .Tuple es k p:=by
 obtain⟨h1,h⟩:=FN h;exact Expr.Tuple.elim (motive_1:=λe=>∀h',Expr.Tuple.elim (motive_1:=λ_=>List Expr × Nat × Pos) e h' (λes k p=>(es,k,p))=(es,k,p)->e = .Tuple es k p) e h1 (λ_ _ _ _ hh=>by cases hh;rfl) h1 h
abbrev oA{α:Type}(o:Option α)(k:α->Bool):Bool:=match o with
 |some r=>k r
 |none=>false
theorem wG{α:Type}{o:Option α}{k:α->Bool}(h:oA o k=true):∃r,o=some r/\k r=true:=by
 cases o with
 |none=>cases h
 |some r=>exact⟨r,rfl,h⟩
theorem CU{a b:Bool}(h:(a || b)=true):a=true\/b=true:=by cases a;exact .inr h;exact .inl rfl
mutual
noncomputable def sH(b:Blk)(e:Expr):Tg->Bool
 |.name i=>oA (zp e) λr=>b.N[i]? == some r.1 && b.own r.1
 |.tup ts=>oA (wD e) λr=>kG b r.1 ts
noncomputable def kG(b:Blk)(es:List Expr):List Tg->Bool
 |[]=>es.isEmpty
 |t::ts=>lC es λe es=>sH b e t && aB e && kG b es ts
end
abbrev HX(e:Expr):Bool:=dw e λc _ _=>decide (c = .none)
abbrev sBl(v:Bool)(e:Expr):Bool:=dw e λc _ _=>decide (c = .bool v)
abbrev wH(v:Int)(e:Expr):Bool:=dw e λc _ _=>decide (c = .int v)
abbrev Mu(v:Str)(e:Expr):Bool:=dw e λc _ _=>decide (c = .str v)
abbrev um(k:Str->Bool)(e:Expr):Bool:=zm e λx _=>k x
abbrev HY(k:List Expr->Bool)(e:Expr):Bool:=zn e λes _ _=>k es
abbrev Mv(k:List Expr->Bool)(e:Expr):Bool:=FM e λes _=>k es
abbrev Mw(o:WR)(k l:Expr->Bool)(e:Expr):Bool:=zi e λx op y _=>decide (op=o) && k x && l y
abbrev zq(k:Expr->Bool)(e:Expr):Bool:=hX e λo x _=>decide (o = .USub) && k x
abbrev HZ(k:Expr->Bool)(e:Expr):Bool:=hX e λo x _=>decide (o = .Not) && k x
abbrev H8(o:CmpOp)(k l:Expr->Bool)(e:Expr):Bool:=kC e λx os ys _=>l1 os λop=>l1 ys λy=>decide (op=o) && k x && l y && aB y
abbrev Ia(o p:CmpOp)(k l m:Expr->Bool)(e:Expr):Bool:=kC e λx os ys _=>lC os λop os=>l1 os λop'=>lC ys λy ys=>l1 ys λz=>decide (op=o) && decide (op'=p) && k x && l y && m z && aB z
abbrev zr(o:BoolOp)(k l:Expr->Bool)(e:Expr):Bool:=oe e λop vs _=>lC vs λx vs=>l1 vs λy=>decide (op=o) && k x && l y
abbrev zt(o:BoolOp)(k l:Expr->Bool)(e:Expr):Bool:=oe e λop vs p=>lC vs λx vs=>lC vs λy vs=>lC vs λz ys=>decide (op=o) && k x && l (.BoolOp o (y::z::ys) p)
abbrev Mx(k l m:Expr->Bool)(e:Expr):Bool:=zk e λx y z _=>k x && l y && m z
abbrev sIx(k l:Expr->Bool)(e:Expr):Bool:=cG e λx y _=>k x && l y && aB y
abbrev sSl(k:Expr->Bool)(l m:Option Expr->Bool)(e:Expr):Bool:=cG e λx s _=>sF s λy z w _=>w.isNone && k x && l y && m z
abbrev My(k:Expr->Bool)(e:Expr):Bool:=cG e λx s _=>sF s λy z w _=>y.isNone && z.isNone && k x && oA w λe=>zq (wH 1) e
abbrev sCN(e:Expr)(k:Str->List Expr->List Keyword->Bool):Bool:=uj e λf es ks _=>zm f λx _=>k x es ks
abbrev FO(k:Str->Bool)(l:List Expr->Bool)(e:Expr):Bool:=sCN e λx es ks=>lC es λe es=>ks.isEmpty && k x && l (e::es)
abbrev sI(b:Blk)(f:Str)(k:List Expr->Bool)(e:Expr):Bool:=sCN e λx es ks=>lC es λe es=>ks.isEmpty && x == f && b.glo x && k (e::es)
abbrev ci(b:Blk)(f:Str)(k:Expr->Bool)(e:Expr):Bool:=sCN e λx es ks=>l1 es λe=>ks.isEmpty && x == f && b.glo x && k e && aB e
abbrev Mz(c:Int)(ks:List Keyword):Bool:=l1 ks λw=>w.arg == some (Str.ofString "default") && wH c w.value
abbrev FP(b:Blk)(k:Expr->Bool)(e:Expr):Bool:=sCN e λx es ks=>l1 es λe=>(l1 ks λw=>w.arg == some (Str.ofString "default") && HX w.value) && x == "min" && b.glo x && k e && aB e
abbrev sDn(b:Blk)(k:Expr->Bool)(e:Expr):Bool:=sCN e λx es ks=>lC es λe1 es=>lC es λe2 es=>l1 es λe3=>ks.isEmpty && x == "range" && b.glo x && (k e1 && aB e1 && zq (wH 1) e2 && zq (wH 1) e3)
abbrev FQ(b:Blk)(c:Int)(k:Expr->Bool)(e:Expr):Bool:=sCN e λx es ks=>l1 es λe=>Mz c ks && x == "max" && b.glo x && k e && aB e
abbrev sJ(b:Blk)(f:Str)(k l:Expr->Bool)(e:Expr):Bool:=sCN e λx es ks=>lC es λe es=>l1 es λe'=>ks.isEmpty && (x == f && b.glo x && k e && aB e && l e' && aB e')
abbrev zu(m:Str)(k:Expr->Bool)(l:List Expr->Bool)(e:Expr):Bool:=uj e λf es ks p=>kE f λx m' ap=>ks.isEmpty && m' == m && sG x && (ap.endLine == p.line) && k x && l es
abbrev FR(k:Expr->Expr->Expr->List Expr->List Wt->Scope->Bool)(e:Expr):Bool:=iP e λe gs scope _=>lC gs λg gs=>decide (g.is_async=0) && k e g.target g.iter g.ifs gs scope
abbrev FS(e:Expr):Bool:=FL e λks vs _=>ks.isEmpty && vs.isEmpty
theorem bC{x y:Str}(h:(x == y)=true):x=y:=eq_of_beq h
section
variable {e:Expr} {k l m:Expr->Bool}
theorem zv(h:HX e=true):∃a p,e = .Constant .none a p:=by
 obtain⟨c,a,p,rfl,h⟩:=cP h;cases of_decide_eq_true h;exact⟨a,p,rfl⟩
theorem MA{v:Bool}(h:sBl v e=true):∃a p,e = .Constant (.bool v) a p:=by
 obtain⟨c,a,p,rfl,h⟩:=cP h;cases of_decide_eq_true h;exact⟨a,p,rfl⟩
theorem kH{v:Int}(h:wH v e=true):∃a p,e = .Constant (.int v) a p:=by
 obtain⟨c,a,p,rfl,h⟩:=cP h;cases of_decide_eq_true h;exact⟨a,p,rfl⟩
theorem Ib{v:Str}(h:Mu v e=true):∃a p,e = .Constant (.str v) a p:=by
 obtain⟨c,a,p,rfl,h⟩:=cP h;cases of_decide_eq_true h;exact⟨a,p,rfl⟩
theorem oj{k:Str->Bool}(h:um k e=true):∃x p,e = .Name x p/\k x=true:=ul h
theorem zw{k:List Expr->Bool}(h:HY k e=true):∃x a p,e = .Tuple x a p/\k x=true:=zo h
theorem Ic{k:List Expr->Bool}(h:Mv k e=true):∃x p,e = .List x p/\k x=true:=CT h
theorem Ie{o:WR}(h:Mw o k l e=true):∃x y p,e = .BinOp x o y p/\k x=true/\l y=true:=by
 obtain⟨x,op,y,p,rfl,h⟩:=zj h;obtain⟨h1,z0⟩:=an3 h;cases of_decide_eq_true h1;exact⟨x,y,p,rfl,z0⟩
theorem om(h:zq k e=true):∃x p,e = .UnaryOp .USub x p/\k x=true:=by
 obtain⟨op,x,p,rfl,h⟩:=kB h;obtain⟨h1,z0⟩:=an2 h;cases of_decide_eq_true h1;exact⟨x,p,rfl,z0⟩
theorem zx(h:HZ k e=true):∃x p,e = .UnaryOp .Not x p/\k x=true:=by
 obtain⟨op,x,p,rfl,h⟩:=kB h;obtain⟨h1,z0⟩:=an2 h;cases of_decide_eq_true h1;exact⟨x,p,rfl,z0⟩
theorem zy{o:CmpOp}(h:H8 o k l e=true):∃x y p,e = .Compare x [o] [y] p/\k x=true/\l y=true/\aB y=true:=by
 obtain⟨x,os,ys,p,rfl,h⟩:=kD h;obtain⟨op,rfl,h⟩:=gz h;obtain⟨y,rfl,h⟩:=gz h;obtain⟨h1,z0⟩:=an4 h;cases of_decide_eq_true h1;exact⟨x,y,p,rfl,z0⟩
theorem zz{o p:CmpOp}(h:Ia o p k l m e=true):∃x y z q,e = .Compare x [o,p] [y,z] q/\k x=true/\l y=true/\m z=true/\aB z=true:=by
 obtain⟨x,os,ys,q,rfl,h⟩:=kD h;obtain⟨op,os,rfl,h⟩:=dJ h;obtain⟨op',rfl,h⟩:=gz h;obtain⟨y,ys,rfl,h⟩:=dJ h;obtain⟨z,rfl,h⟩:=gz h;obtain⟨h1,h2,z0⟩:=an6 h;cases of_decide_eq_true h1;cases of_decide_eq_true h2;exact⟨x,y,z,q,rfl,z0⟩
theorem oo{o:BoolOp}(h:zr o k l e=true):∃x y p,e = .BoolOp o [x,y] p/\k x=true/\l y=true:=by
 obtain⟨op,vs,p,rfl,h⟩:=mO h;obtain⟨x,vs,rfl,h⟩:=dJ h;obtain⟨y,rfl,h⟩:=gz h;obtain⟨h1,z0⟩:=an3 h;cases of_decide_eq_true h1;exact⟨x,y,p,rfl,z0⟩
theorem oq{o:BoolOp}(h:zt o k l e=true):∃x y z ys p,e = .BoolOp o (x::y::z::ys) p/\k x=true/\l (.BoolOp o (y::z::ys) p)=true:=by
 obtain⟨op,vs,p,rfl,h⟩:=mO h;obtain⟨x,vs,rfl,h⟩:=dJ h;obtain⟨y,vs,rfl,h⟩:=dJ h;obtain⟨z,vs,rfl,h⟩:=dJ h;obtain⟨h1,z0⟩:=an3 h;cases of_decide_eq_true h1;exact⟨x,y,z,vs,p,rfl,z0⟩
theorem Ig(h:Mx k l m e=true):∃x y z p,e = .IfExp x y z p/\k x=true/\l y=true/\m z=true:=by
 obtain⟨x,y,z,p,rfl,h⟩:=zl h;exact⟨x,y,z,p,rfl,an3 h⟩
theorem MB(h:sIx k l e=true):∃x y p,e = .Subscript x y p/\k x=true/\l y=true/\aB y=true:=by
 obtain⟨x,y,p,rfl,h⟩:=cv h;exact⟨x,y,p,rfl,an3 h⟩
theorem MC{l m:Option Expr->Bool}(h:sSl k l m e=true):∃x y z p q,e = .Subscript x (.Slice y z none p) q/\k x=true/\l y=true/\m z=true:=by
 obtain⟨x,s,q,rfl,h⟩:=cv h;obtain⟨y,z,w,p,rfl,h⟩:=qo h;obtain⟨h1,z0⟩:=an4 h;cases w;exact⟨x,y,z,p,q,rfl,z0⟩;cases h1
theorem Ih(h:My k e=true):∃x n p p2 p3 p4,e = .Subscript x (.Slice none none (some (.UnaryOp .USub (.Constant (.int 1) n p3) p4)) p2) p/\k x=true:=by
 obtain⟨x,s,q,rfl,h⟩:=cv h;obtain⟨y,z,w,p,rfl,h⟩:=qo h;obtain⟨h1,h2,h3,h4⟩:=an4 h;obtain⟨u,rfl,h4⟩:=wG h4;obtain⟨v,p4,rfl,h5⟩:=om h4;obtain⟨n,p3,rfl⟩:=kH h5;cases y <;> cases z <;> first |exact⟨x,n,q,p,p3,p4,rfl,h3⟩ |(cases h1;done) |(cases h2;done)
theorem kI{k:Str->List Expr->List Keyword->Bool}(h:sCN e k=true):∃x p es ks q,e = .Call (.Name x p) es ks q/\k x es ks=true:=by
 obtain⟨f,es,ks,q,rfl,h⟩:=uk h;obtain⟨x,p,rfl,h⟩:=ul h;exact⟨x,p,es,ks,q,rfl,h⟩
theorem CV{k:Str->Bool}{l:List Expr->Bool}(h:FO k l e=true):∃x x1 es p q,e = .Call (.Name x p) (x1::es) [] q/\k x=true/\l (x1::es)=true:=by
 obtain⟨x,p,es,ks,q,rfl,h⟩:=kI h;obtain⟨x1,es,rfl,h⟩:=dJ h;obtain⟨h1,z0⟩:=an3 h;cases dM h1;exact⟨x,x1,es,p,q,rfl,z0⟩
theorem qp{b:Blk}{f:Str}{k:List Expr->Bool}(h:sI b f k e=true):∃x es p q,e = .Call (.Name f p) (x::es) [] q/\b.glo f=true/\k (x::es)=true:=by
 obtain⟨x,p,es,ks,q,rfl,h⟩:=kI h;obtain⟨x1,es,rfl,h⟩:=dJ h;obtain⟨h1,h2,z0⟩:=an4 h;cases dM h1;cases bC h2;exact⟨x1,es,p,q,rfl,z0⟩
theorem bh{b:Blk}{f:Str}(h:ci b f k e=true):∃x p q,e = .Call (.Name f p) [x] [] q/\b.glo f=true/\k x=true/\aB x=true:=by
 obtain⟨x,p,es,ks,q,rfl,h⟩:=kI h;obtain⟨x1,rfl,h⟩:=gz h;obtain⟨h1,h2,z0⟩:=an5 h;cases dM h1;cases bC h2;exact⟨x1,p,q,rfl,z0⟩
theorem Ii{c:Int}{ks:List Keyword}(h:Mz c ks=true):∃j p q,ks=[⟨some "default", .Constant (.int c) j p,q⟩]:=by
 obtain⟨⟨a,v,q⟩,rfl,h⟩:=gz h;obtain⟨h1,z0⟩:=an2 h;obtain⟨j,p,e⟩:=kH z0;obtain e1:=eq_of_beq h1;exact⟨j,p,q,by rw[show v=_ from e,show a=_ from e1]⟩
theorem CW{b:Blk}{c:Int}(h:FQ b c k e=true):∃x p q j p' q',e = .Call (.Name "max" p) [x] [⟨some "default", .Constant (.int c) j p',q'⟩] q/\b.glo "max" = true/\k x=true/\aB x=true:=by
 obtain⟨x,p,es,ks,q,rfl,h⟩:=kI h;obtain⟨x1,rfl,h⟩:=gz h;obtain⟨h1,h2,z0⟩:=an5 h;obtain⟨j,p',q',rfl⟩:=Ii h1;cases bC h2;exact⟨x1,p,q,j,p',q',rfl,z0⟩
theorem CY{b:Blk}(h:FP b k e=true):∃x p q j p' q',e = .Call (.Name "min" p) [x] [⟨some "default", .Constant .none j p',q'⟩] q/\b.glo "min" = true/\k x=true/\aB x=true:=by
 obtain⟨x,p,es,ks,q,rfl,h⟩:=kI h;obtain⟨x1,rfl,h⟩:=gz h;obtain⟨h1,h2,z0⟩:=an5 h;obtain⟨⟨a,v,q'⟩,rfl,h3⟩:=gz h1;obtain⟨h4,h5⟩:=an2 h3;obtain⟨j,p',e5⟩:=zv h5;have e4:=eq_of_beq h4;cases bC h2;exact⟨x1,p,q,j,p',q',by rw[show v=_ from e5,show a=_ from e4],z0⟩
theorem FT{b:Blk}(h:sDn b k e=true):∃x p q n2 p2 r2 n3 p3 r3,e = .Call (.Name "range" p) [x,.UnaryOp .USub (.Constant (.int 1) n2 p2) r2,.UnaryOp .USub (.Constant (.int 1) n3 p3) r3] [] q/\b.glo "range" = true/\k x=true/\aB x=true:=by
 obtain⟨x,p,es,ks,q,rfl,h⟩:=kI h;obtain⟨e1,es,rfl,h⟩:=dJ h;obtain⟨e2,es,rfl,h⟩:=dJ h;obtain⟨e3,rfl,h⟩:=gz h;obtain⟨h1,h2,h3,h4⟩:=an4 h;obtain⟨h5,h6,h7,h8⟩:=an4 h4;obtain⟨u,r2,rfl,h7⟩:=om h7;obtain⟨n2,p2,rfl⟩:=kH h7;obtain⟨u,r3,rfl,h8⟩:=om h8;obtain⟨n3,p3,rfl⟩:=kH h8;cases bC h2;cases dM h1;exact⟨e1,p,q,n2,p2,r2,n3,p3,r3,rfl,h3,h5,h6⟩
theorem kJ{b:Blk}{f:Str}(h:sJ b f k l e=true):∃x y p q,e = .Call (.Name f p) [x,y] [] q/\b.glo f=true/\k x=true/\aB x=true/\l y=true/\aB y=true:=by
 obtain⟨x,p,es,ks,q,rfl,h⟩:=kI h;obtain⟨x1,es,rfl,h⟩:=dJ h;obtain⟨y,rfl,h⟩:=gz h;obtain⟨h1,y0⟩:=an2 h;obtain⟨h2,z0⟩:=an6 y0;cases dM h1;cases bC h2;exact⟨x1,y,p,q,rfl,z0⟩
theorem ot{m:Str}{l:List Expr->Bool}(h:zu m k l e=true):∃x ap es p,e = .Call (.Attribute x m ap) es [] p/\sG x=true/\(ap.endLine == p.line)=true/\k x=true/\l es=true:=by
 obtain⟨f,es,ks,p,rfl,h⟩:=uk h;obtain⟨x,m',ap,rfl,h⟩:=og h;obtain⟨h1,h2,z0⟩:=an6 h;cases dM h1;cases bC h2;exact⟨x,ap,es,p,rfl,z0⟩
theorem uo{k:Expr->Expr->Expr->List Expr->List Wt->Scope->Bool}(h:FR k e=true):∃el t i ifs gs scope p,e = .ListComp el (⟨t,i,ifs,0⟩::gs) scope p/\k el t i ifs gs scope=true:=by
 obtain⟨el,gs,scope,p,rfl,h⟩:=i9 h;obtain⟨⟨t,i,ifs,as⟩,gs,rfl,h⟩:=dJ h;obtain⟨h1,z0⟩:=an2 h;cases of_decide_eq_true h1;exact⟨el,t,i,ifs,gs,scope,p,rfl,z0⟩
theorem CZ(h:FS e=true):∃p,e = .Dict [] [] p:=by
 obtain⟨ks,vs,p,rfl,h⟩:=CQ h;obtain⟨h1,h2⟩:=an2 h;cases dM h1;cases dM h2;exact⟨p,rfl⟩
end
abbrev zA(f:Expr->CE->Bool)(l:Option Expr):Option CE->Bool
 |none=>l.isNone
 |some c=>oA l λe=>f e c
abbrev zB(f:Expr->CE->Bool)(l:List Expr):Option CE->Bool
 |none=>l.isEmpty
 |some c=>l1 l λe=>f e c
abbrev clC(cls:List Cl)(k:Tg->CI->Option CE->List Cl->Bool):Bool:=match cls with
 |[]=>false
 |⟨tg,it,cond⟩::rest=>k tg it cond rest
theorem FV{cls:List Cl}{k:Tg->CI->Option CE->List Cl->Bool}(h:clC cls k=true):∃tg it cond rest,cls=⟨tg,it,cond⟩::rest/\k tg it cond rest=true:=by
 cases cls with
 |nil=>cases h
 |cons g rest=>obtain⟨tg,it,cond⟩:=g;exact⟨tg,it,cond,rest,rfl,h⟩
mutual
noncomputable def aE(T:Tab):Nat->Blk->Expr->CE->Bool
 |0,_,_,_=>false
 |n+1,b,e,c=>match c with
  |.non=>HX e
  |.bl v=>sBl v e
  |.int i=>wH i e
  |.str x=>Mu x e
  |.var i=>um (λx=>b.N[i]? == some x && b.vis x) e
  |.con k v=>um (λx=>T.con[k]? == some (x,v) && b.glo x) e
  |.tup cs=>HY (λes=>fk T n b es cs) e
  |.lst cs=>Mv (λes=>fk T n b es cs) e
  |.dic0=>FS e
  |.bin o a c=>Mw o.op (λx=>aE T n b x a) (λx=>aE T n b x c) e
  |.neg a=>zq (λx=>aE T n b x a) e
  |.cmp o a c=>H8 o.op (λx=>aE T n b x a) (λx=>aE T n b x c) e
  |.chn o p a c d=>Ia o.op p.op (λx=>aE T n b x a) (λx=>aE T n b x c) (λx=>aE T n b x d) e
  |.and a c=>zr .And (λx=>aE T n b x a) (λx=>aE T n b x c) e || zt .And (λx=>aE T n b x a) (λx=>aE T n b x c) e
  |.or a c=>zr .Or (λx=>aE T n b x a) (λx=>aE T n b x c) e || zt .Or (λx=>aE T n b x a) (λx=>aE T n b x c) e
  |.not a=>HZ (λx=>aE T n b x a) e
  |.ite t a c=>Mx (λx=>dN T n b x t) (λx=>aE T n b x a) (λx=>aE T n b x c) e
  |.ix a c=>sIx (λx=>aE T n b x a) (λx=>aE T n b x c) e
  |.sl a lo hi=>sSl (λx=>aE T n b x a) (λl=>zA (aE T n b) l lo) (λl=>zA (aE T n b) l hi) e
  |.call f cs=>FO (λx=>oA T.fns[f]? (λy=>y.1 == x) && b.glo x) (λes=>fk T n b es cs) e
  |.inst t a=>sJ b "isinstance" (λx=>aE T n b x a) (um λy=>y == Str.ofString t.nm && b.glo y) e
  |.len a=>ci b "len" (λx=>aE T n b x a) e
  |.all a=>ci b "all" (λx=>aE T n b x a) e
  |.tupOf a=>ci b "tuple" (λx=>aE T n b x a) e
  |.listR a=>ci b "list" (ci b "range" λx=>aE T n b x a) e
  |.srt a=>ci b "sorted" (λx=>aE T n b x a) e
  |.mxL a=>ci b "max" (λx=>aE T n b x a) e
  |.mxD a c=>FQ b c (λx=>aE T n b x a) e
  |.sm a=>ci b "sum" (λx=>aE T n b x a) e
  |.rev a=>My (λx=>aE T n b x a) e
  |.mnN a=>FP b (λx=>aE T n b x a) e
  |.mx a c=>sI b "max" (λes=>fk T n b es [a,c]) e
  |.mn a c=>sI b "min" (λes=>fk T n b es [a,c]) e
  |.rep a=>ci b "repr" (λx=>aE T n b x a) e
  |.comp own elt cls=>clC cls λtg it cond rest=>FR (λel t i ifs gs scope=>cmB own (kF own b.N) b.N scope b.sc && qq T n b t i it && sH (b.inner own scope) t tg && zB (dN T n (b.inner own scope)) ifs cond && mP T n (b.inner own scope) el gs elt rest) e
  |.app o a=>zu "append" (λx=>aE T n b x o) (λes=>fk T n b es [a]) e
  |.pop o=>zu "pop" (λx=>aE T n b x o) (λes=>es.isEmpty) e
  |.popAt o a=>zu "pop" (λx=>aE T n b x o) (λes=>fk T n b es [a]) e
  |.cnt o a=>zu "count" (λx=>aE T n b x o) (λes=>fk T n b es [a]) e
noncomputable def fk(T:Tab):Nat->Blk->List Expr->List CE->Bool
 |0,_,_,_=>false
 |n+1,b,es,cs=>match cs with
  |[]=>es.isEmpty
  |c::cs=>lC es λe es=>aE T n b e c && aB e && fk T n b es cs
noncomputable def mP(T:Tab):Nat->Blk->Expr->List Wt->CE->List Cl->Bool
 |0,_,_,_,_,_=>false
 |n+1,b,e,gs,elt,cls=>match cls with
  |[]=>gs.isEmpty && aE T n b e elt
  |⟨tg,it,cond⟩::rest=>lC gs λg gs=>decide (g.is_async=0) && qq T n b g.target g.iter it && sH b g.target tg && zB (dN T n b) g.ifs cond && mP T n b e gs elt rest
noncomputable def qq(T:Tab):Nat->Blk->Expr->Expr->CI->Bool
 |0,_,_,_,_=>false
 |n+1,b,t,e,c=>match c with
  |.val a=>aE T n b e a && aB e
  |.r1 a=>ci b "range" (λx=>aE T n b x a) e
  |.dn a=>sDn b (λx=>aE T n b x a) e
  |.r2 a c=>sJ b "range" (λx=>aE T n b x a) (λx=>aE T n b x c) e
  |.en a=>ci b "enumerate" (λx=>aE T n b x a) e && HY (λ_=>true) t
noncomputable def dN(T:Tab):Nat->Blk->Expr->CE->Bool
 |0,_,_,_=>false
 |n+1,b,e,c=>match c with
  |.cmp o a c=>H8 o.op (λx=>aE T n b x a) (λx=>aE T n b x c) e
  |.chn o p a c d=>Ia o.op p.op (λx=>aE T n b x a) (λx=>aE T n b x c) (λx=>aE T n b x d) e
  |.and a c=>zr .And (λx=>dN T n b x a) (λx=>dN T n b x c) e || zt .And (λx=>dN T n b x a) (λx=>dN T n b x c) e
  |.or a c=>zr .Or (λx=>dN T n b x a) (λx=>dN T n b x c) e || zt .Or (λx=>dN T n b x a) (λx=>dN T n b x c) e
  |.not a=>HZ (λx=>dN T n b x a) e
  |.ite _ _ _=>false
  |c=>aE T n b e c && HW e
end
theorem fP{T:Tab}{n:Nat}{b:Blk}{t e:Expr}{c:CI}(h:qq T n b t e c=true)(hp:∀e,aB e=true->∀env x,VG e env x=pure x):∀env x,VG e env x=pure x:=by
 cases n with
 |zero=>cases h
 |succ n=>
  cases c with
  |val a=>exact hp e (an2 h).2
  |r1 a=>obtain⟨x,p,q,rfl,_⟩:=bh h;intro _ _;rfl
  |dn a=>obtain⟨x,p,q,n2,p2,r2,n3,p3,r3,rfl,_⟩:=FT h;intro _ _;rfl
  |r2 a c=>obtain⟨x,y,p,q,rfl,_⟩:=kJ h;intro _ _;rfl
  |en a=>obtain⟨x,p,q,rfl,_⟩:=bh (an2 h).1;intro _ _;rfl
structure CtxOk(T:Tab)(C:Calls)(ar:Nat->Nat)(k:Nat)(b:Blk)(X:Cx):Prop where
 calm:X.calm=true
 xe:X.xe=λ_ _=>False
 hN:X.N=b.N
 hs:X.env.scope=b.sc
 nd:b.N.Nodup
 fn:∀x,(match b.fs with |none=>true |some sc=>sc.names.lookup x == some .cell)=true->X.fn x=true
 room:Room k X.A
 con:∀ (i:Nat) (x:Str) (v:Int),T.con[i]?=some (x,v)->∃tk,X.mg x=some (.int v tk)
 bl:∀x,x ∈ hV->X.mg x=none
 fns:∀ (i:Nat) (y:Str × Nat),T.fns[i]?=some y->ar i=y.2/\∃f fd ps,X.mg y.1=some (.ref f)/\Vc X.K (.ref f)=true/\ma X.K fd ps []/\FnOk X.prog X.w X.K X.mg X.base CX0 k f fd ps (spC X.K (C i) (ar i))
section
variable {T:Tab} {C:Calls} {ar:Nat->Nat} {k:Nat} {b:Blk} {X:Cx}
theorem ao{e:Expr}{es:List Expr}{env:Env}(h:aB e=true):V6 (e::es) env=(false,eval e env)::V6 es env:=by
 cases e <;> first |rfl |(exact absurd h Ze)
theorem qr{e:Expr}(h:aB e=true):tR e:=by
 intro o i;cases e <;> first |rfl |(exact absurd h Ze)
theorem gA{e:Expr}{op:CmpOp}(h:aB e=true):Vq op e=false:=by
 cases e <;> first |rfl |(exact absurd h Ze)
theorem kK{e f:Expr}{op op':CmpOp}(h:aB e=true):lastMarks [op,op'] [f,e]=false:=by
 show Vq op' e=false;exact gA h
theorem dP{e:Expr}{env:Env}(h:aB e=true):∀x,VG e env x=pure x:=by
 intro x;cases e <;> first |rfl |(exact absurd h Ze)
theorem dQ{e:Expr}{m:Str}{env:Env}{w:Sem Value}(h:sG e=true):Vo e m env w=w:=by
 cases e with
 |Call f as ks p=>
  cases f with
  |Name x q=>
   cases as with
   |nil=>cases ks with |nil=>exact absurd h Ze |cons _ _=>rfl
   |cons _ _=>rfl
  |_=>rfl
 |_=>first |rfl |(exact absurd h Ze)
theorem sK{e:Expr}{env:Env}(h:HW e=true):∀whole,isTrue e env whole=(do let v <-whole;standAt e.pos;holding [v] (truthy v)):=by
 intro whole;cases e with
 |UnaryOp op x p=>cases op <;> first |rfl |(exact absurd h Ze)
 |_=>first |rfl |(exact absurd h Ze)
theorem iQ{es:List Expr}{env:Env}{pos:Pos}(h:∀e ∈ es,aB e=true):(backTo pos (V6 es env)).any (·.1)=false:=by
 induction es with
 |nil=>rfl
 |cons e es ih=>
  rw[ao (h e Zh)];show(false || (backTo pos (V6 es env)).any (·.1))=false;rw[ih λe he=>h e (Zf _ he)];rfl
theorem bN:∀ {n:Nat} {es:List Expr} {cs:List CE},fk T n b es cs=true->∀e ∈ es,aB e=true
 |0,_,_,h=>absurd h Ze
 |n+1,es,[],h=>λx hx=>by rw[dM h] at hx;cases hx
 |n+1,es,c::cs,h=>by
  obtain⟨e,es,rfl,h⟩:=dJ h;obtain⟨_,h1,h⟩:=an3 h;intro x hx;rcases Zn.mp hx with rfl |hx
  ·exact h1
  ·exact bN h x hx
theorem CtxOk.gl(G:CtxOk T C ar k b X){x:Str}(h:b.glo x=true):Gl X x/\(x == ("__debug__" : Str))=false:=by
 unfold Blk.glo at h;rw[bAE] at h;refine⟨?_,by simpa using h.2⟩;show X.env.scope.names.lookup x=_;rw[G.hs]
 simpa using h.1
theorem CtxOk.vis(G:CtxOk T C ar k b X){x:Str}(h:b.vis x=true):Vis X.env.scope x/\(x == ("__debug__" : Str))=false/\(x == ("__classdict__" : Str))=false:=by
 unfold Blk.vis at h;rw[bAE,bAE] at h;refine⟨?_,by simpa using h.1.2,by simpa using h.2⟩;unfold Vis;rw[G.hs];have h1:=h.1.1;split at h1
 ·rename_i e;exact .inl e
 ·rename_i e;exact .inr (.inl e)
 ·rename_i e;exact .inr (.inr e)
 ·cases h1
theorem CtxOk.own(G:CtxOk T C ar k b X){x:Str}(h:b.own x=true):L2.Loc X.env.scope x/\(X.fn x=true\/X.env.scope.names.lookup x=some .local):=by
 unfold Blk.own at h;unfold L2.Loc;rw[G.hs];split at h
 ·rename_i e;exact⟨.inl e,.inr e⟩
 ·rename_i e;refine⟨.inr e,.inl (G.fn x ?_)⟩;cases hf:b.fs with
  |none=>rfl
  |some sc=>rw[hf] at h;exact h
 ·cases h
theorem CtxOk.inner(G:CtxOk T C ar k b X){own:List Str}{scope:Scope}(S:CmScope own (kF own b.N) b.N scope b.sc){C':Addr}{ex:List Addr}{s:Shared}{H:Hp}:CtxOk T C ar k (b.inner own scope) (cxC X own (kF own b.N) scope C' ex s H):=
 ⟨G.calm,rfl,by show cB (kF own b.N) X.N++own=_;rw[G.hN];rfl,by show eW scope X.env.scope=_;rw[G.hs];rfl,S.nd,λx h=>h,G.room,G.con,G.bl,G.fns⟩
theorem mQ{e:Expr}{es:List Expr}{env:Env}(h:aB e=true):Vm (e::es) env=(false,assign e env)::Vm es env:=by
 cases e <;> first |rfl |(exact absurd h Ze)
mutual
theorem fQ(G:CtxOk T C ar k b X):∀ {e:Expr} {t:Tg},sH b e t=true->PG X e (tTg X.K t)
 |e,.name i,h=>by
  obtain⟨r,hx,h⟩:=wG h;obtain⟨h1,h2⟩:=an2 h;rw[oh hx];have o:=G.own h2;exact PG.imp (BI (i:=i) (x:=r.1) (by rw[G.hN];exact G.nd) (by rw[G.hN];exact eq_of_beq h1) o.1 o.2) λx σ H Q q=>n9 q
 |e,.tup ts,h=>by
  obtain⟨r,hx,h⟩:=wG h;rw[oi hx];have hl:=mR h;exact PG.imp (GD G.calm (qt G h) rfl hl.2) λx σ H Q q=>HF hl.1 q
theorem qt(G:CtxOk T C ar k b X):∀ {es:List Expr} {ts:List Tg},kG b es ts=true->PGs X es (yP X.K ts)
 |es,[],h=>by
  rw[dM h];exact PGs.imp BJ λx σ H Q q=>CF q
 |es,t::ts,h=>by
  obtain⟨e,es,rfl,h⟩:=dJ h;obtain⟨h1,h2,h⟩:=an3 h;exact PGs.imp (xv (fQ G h1) (qt G h) (by rw[mQ h2];rfl)) λx σ H Q q=>yQ q
theorem mR:∀ {es:List Expr} {ts:List Tg},kG b es ts=true->(Vm es X.env).length=ts.length/\(Vm es X.env).findIdx? (·.1)=none
 |es,[],h=>by
  rw[dM h];exact⟨rfl,rfl⟩
 |es,t::ts,h=>by
  obtain⟨e,es,rfl,h⟩:=dJ h;obtain⟨h1,h2,h⟩:=an3 h;have ih:=mR h;rw[mQ h2];refine⟨congrArg (·+1) ih.1,?_⟩;rw[List.findIdx?_cons];simp[ih.2]
end
end
structure Snd(T:Tab)(C:Calls)(ar:Nat->Nat)(k n:Nat):Prop where
 e:∀ (b:Blk) (X:Cx) (e:Expr) (c:CE),CtxOk T C ar k b X->aE T n b e c=true->PE X e (tE X.K (evE C ar n c))
 tm:∀ (b:Blk) (X:Cx) (e:Expr) (c:CE),CtxOk T C ar k b X->ag c=true->aE T n b e c=true->PE X e (gw X.K (cF C ar n c))
 a:∀ (b:Blk) (X:Cx) (es:List Expr) (cs:List CE),CtxOk T C ar k b X->fk T n b es cs=true->PA X es (tAr X.K (evA C ar n cs))
 t:∀ (b:Blk) (X:Cx) (e:Expr) (c:CE),CtxOk T C ar k b X->dN T n b e c=true->PT X e (tT X.K (evT C ar n c))
 i:∀ (B:List Addr) (b:Blk) (X:Cx) (t e:Expr) (c:CI),CtxOk T C ar k b X->qq T n b t e c=true->PI X t e (tIt X.K B (evI C ar n c))
 cl:∀ (b:Blk) (X:Cx) (e:Expr) (gs:List Wt) (elt:CE) (cls:List Cl),CtxOk T C ar k b X->mP T n b e gs elt cls=true ->
  ∀ (gens:List Wt) (scope:Scope) (pos:Pos) (acc:Addr) (d:Nat),gens.drop (d+1)=gs->PTl X e gens scope pos acc d (tCl X.K acc (fY C ar n elt cls))
section
variable {T:Tab} {C:Calls} {ar:Nat->Nat} {k n:Nat} {b:Blk} {X:Cx}
theorem dz{e:Expr}{es:List Expr}{te:TE}{t:TA}(ha:PE X e te)(hr:PA X es t)(hp:aB e=true):PA X (e::es) (bW te t):=BQ ha hr (ao hp)
theorem MD(ih:Snd T C ar k n)(es:List Expr)(cs:List CE)(G:CtxOk T C ar k b X)(h:fk T (n+1) b es cs=true):PA X es (tAr X.K (evA C ar (n+1) cs)):=by
 cases cs with
 |nil=>rw[dM h];exact PA.imp xK λσ H Q q=>Hi q
 |cons c cs=>
  obtain⟨e,es,rfl,h⟩:=dJ h;obtain⟨h1,h2,h⟩:=an3 h;exact PA.imp (dz (ih.e b X e c G h1) (ih.a b X es cs G h) h2) λσ H Q q=>Ch q
theorem b5{e:Expr}{te:TE}(h:PE X e te)(hp:aB e=true):PA X [e] (bW te iw):=dz h xK hp
theorem dR{x:Str}{id:String}{e:Expr}{te:TE}{r:V->Hp->VK->Prop}{p pos:Pos}(hc:aR X (.builtin id) (r1 r))(G:CtxOk T C ar k b X)(hg:b.glo x=true)(hb:x ∈ hV)(hv:Vt x=some (.builtin id))(hn:x ≠ "__name__")(h:PE X e te)(hp:aB e=true) :
  PE X (.Call (.Name x p) [e] [] pos) (tUn r te):=
 PE.imp (gW hc (G.gl hg).1 (G.bl x hb) hv (b5 h hp) hn (G.gl hg).2 (ao hp) rfl) λσ H Q q=>q
theorem C0{x:Str}{id:String}{e:Expr}{te:TE}{r:V->Hp->VK->Prop}{p pos:Pos}(hc:aR X (.type id) (r1 r))(G:CtxOk T C ar k b X)(hg:b.glo x=true)(hb:x ∈ hV)(hv:Vt x=some (.type id))(hn:x ≠ "__name__")(h:PE X e te)(hp:aB e=true) :
  PE X (.Call (.Name x p) [e] [] pos) (tUn r te):=
 PE.imp (iy hc (G.gl hg).1 (G.bl x hb) hv (b5 h hp) hn (G.gl hg).2 (ao hp) rfl) λσ H Q q=>q
theorem gB{x:Str}{e:Expr}{a:CE}{f:Bool->List D->Sto->Option (D × Sto)}{ks:List Keyword}{p pos:Pos}(ih:Snd T C ar k n)(G:CtxOk T C ar k b X)(hq:∀te:TE,PE X e te->PE X (.Call (.Name x p) [e] ks pos) (tUn (rSq X.K f) te))(h:aE T n b e a=true) :
  PE X (.Call (.Name x p) [e] ks pos) (tE X.K (if ag a=true then lQ f (cF C ar n a) else lU f (evE C ar n a))):=by
 split
 ·rename_i ht;exact PE.imp (hq _ (ih.tm b X e a G ht h)) λσ H Q q=>Hg q
 ·exact PE.imp (hq _ (ih.e b X e a G h)) λσ H Q q=>Hk q
theorem uq{x y:Str}(h:(x == y)=true):x=y:=eq_of_beq h
theorem ou{K:W6}{x:XE}{σ:L2.St}{H:Hp}{Q Q':VK}(h:tE K x σ H Q)(f:∀v H',Q v H'->Q' v H'):tE K x σ H Q':=by
 obtain⟨m,ρ,S,d,S',E,R,e,q⟩:=h;exact⟨m,ρ,S,d,S',E,R,e,λm' H' v A vd=>f _ _ (q m' H' v A vd)⟩
abbrev ifT(C:Calls)(ar:Nat->Nat)(n:Nat)(K:W6):Option CE->TT
 |none=>B2
 |some c=>tT K (evT C ar n c)
theorem kL(ih:Snd T C ar k n)(G:CtxOk T C ar k b X){ifs:List Expr}{cond:Option CE}(h:zB (dN T n b) ifs cond=true):PTs X ifs (ifT C ar n X.K cond):=by
 cases cond with
 |none=>rw[dM h];exact B3
 |some c=>obtain⟨e,rfl,h⟩:=gz h;exact B4 (ih.t b X e c G h)
theorem sL{K:W6}{cond:Option CE}{acc:Addr}{c:XA}{D:Ends}{σ:L2.St}{H:Hp}(q:tCl K acc (cnd (evT C ar n) cond c) D σ H):eJ (ifT C ar n K cond) (tCl K acc c) D σ H:=by
 cases cond with
 |none=>exact HK q
 |some c=>exact CM q
theorem qu(ih:Snd T C ar k n)(G:CtxOk T C ar k b X){l:Option Expr}{lo:Option CE}(h:zA (aE T n b) l lo=true):PO X l (tOI X.K (opt (evE C ar n) lo)):=by
 cases lo with
 |none=>
  cases l with
  |none=>exact PO.imp BU λσ H Q q=>Cq q
  |some _=>cases h
 |some c=>obtain⟨e,rfl,h⟩:=wG h;exact PO.imp (tP (ih.e b X e c G h)) λσ H Q q=>Cr q
theorem Ij(ih:Snd T C ar k n)(e:Expr)(gs:List Wt)(elt:CE)(cls:List Cl)(G:CtxOk T C ar k b X)(h:mP T (n+1) b e gs elt cls=true)(gens:List Wt)(scope:Scope)(pos:Pos)(acc:Addr)(d:Nat)(hd:gens.drop (d+1)=gs) :
  PTl X e gens scope pos acc d (tCl X.K acc (fY C ar (n+1) elt cls)):=by
 have imp:∀ {t t':TS},PTl X e gens scope pos acc d t->(∀D σ H,t' D σ H->t D σ H)->PTl X e gens scope pos acc d t':=λh f pins s σ H D I q=>h pins s σ H D I (f D σ H q);cases cls with
 |nil=>
  obtain⟨h0,h⟩:=an2 h;cases dM h0
  have hn:gens[d+1]?=none:=by
   have:=congrArg Zj hd;simp at this;exact Yb.mpr (by omega)
  exact imp (xY G.xe hn (ih.e b X e elt G h)) λD σ H q=>CL q
 |cons g rest=>
  obtain⟨tg,it,cond⟩:=g;obtain⟨⟨t,i,ifs,as⟩,gs',rfl,h⟩:=dJ h;obtain⟨h0,h1,h2,h3,h4⟩:=an5 h;cases of_decide_eq_true h0
  have hn:gens[d+1]?=some ⟨t,i,ifs,0⟩:=by
   have:=congrArg (·[0]?) hd
   simpa using this
  have hd':gens.drop (d+1+1)=gs':=by
   have:=congrArg (Yj 1) hd
   simpa[List.drop_drop] using this
  have hpl:=fP h1 (λe he env=>dP he) X.env;exact imp (B5 hn (ih.i [acc] b X t i it G h1) (fQ G h2) (kL ih G h3) (ih.cl b X e gs' elt rest G h4 gens scope pos acc (d+1) hd') G.xe G.calm hpl) λD σ H q=>yY (λD σ H z=>sL z) q
theorem ME(ih:Snd T C ar k n)(B:List Addr)(t e:Expr)(c:CI)(G:CtxOk T C ar k b X)(h:qq T (n+1) b t e c=true):PI X t e (tIt X.K B (evI C ar (n+1) c)):=by
 cases c with
 |val a=>
  have h:=an2 h;show PI X t _ (tIt X.K B (if ag a=true then xIT (cF C ar n a) else xIV (evE C ar n a)));split
  ·rename_i ht;exact PI.imp (tL (ih.tm b X _ a G ht h.1)) λσ H R q=>OT q
  ·exact PI.imp (PI.or (tL (ih.e b X _ a G h.1)) (GI (ih.e b X _ a G h.1))) λσ H R q=>OQ q
 |r1 a=>
  obtain⟨x,p,q,rfl,h2,h3,h4⟩:=bh h;exact PI.imp (vB (G.gl h2).1 (G.bl _ (by decide)) (b5 (ih.e b X x a G h3) h4) (ao h4)) λσ H R q=>Mn q
 |dn a=>
  obtain⟨x,p,q,n2,p2,r2,n3,p3,r3,rfl,h2,h3,h4⟩:=FT h;have m1:∀ {n p r},PE X (.UnaryOp .USub (.Constant (.int 1) n p) r) (tC (.int (-1))):=λ{n p r}=>PE.imp (xF rh nu) λσ H Q q=>⟨1,rfl,q⟩;exact PI.imp (Mr (G.gl h2).1 (G.bl _ (by decide)) (dz (ih.e b X x a G h3) (dz m1 (b5 m1 rfl) rfl) h4) (ao h4) rfl) λσ H R q=>Ms q
 |r2 a c=>
  obtain⟨x,y,p,q,rfl,h2,h3,h4,h5,h6⟩:=kJ h;exact PI.imp (vC (G.gl h2).1 (G.bl _ (by decide)) (dz (ih.e b X x a G h3) (b5 (ih.e b X y c G h5) h6) h4) (by rw[ao h4,ao h6];rfl) (ao h6)) λσ H R q=>Mo q
 |en a=>
  have h:=an2 h;obtain⟨x,p,q,rfl,h2,h3,h4⟩:=bh h.1;obtain⟨elts,x1,tp,rfl,_⟩:=zw h.2;show PI X _ _ (tIt X.K B (if ag a=true then xET (cF C ar n a) else xEV (evE C ar n a)));split
  ·rename_i ht;exact PI.imp (yf (G.gl h2).1 (G.bl _ (by decide)) (b5 (ih.tm b X x a G ht h3) h4) (ao h4)) λσ H R q=>Mm q
  ·exact PI.imp (PI.or (yf (G.gl h2).1 (G.bl _ (by decide)) (b5 (ih.e b X x a G h3) h4) (ao h4)) (Ha (G.gl h2).1 (G.bl _ (by decide)) (b5 (ih.e b X x a G h3) h4) (ao h4))) λσ H R q=>Ml q
end
section
variable {T:Tab} {C:Calls} {ar:Nat->Nat} {k n:Nat} {b:Blk} {X:Cx}
theorem kM{k:Nat}{A:Around}(r:Room k A):A.units+64 < cLine:=r.units
theorem hY(K:W6)(m:List Addr)(H:Hp):∀l:List Nat,VDs K m H (l.map λj=>D.int (Int.ofNat j)) (l.map λ(j:Nat)=>V.int j)
 |[]=>by rw[Ye,Ye,VDs]
 |a::l=>by rw[Zz,Zz,VDs];exact⟨_,_,rfl,a9,hY K m H l⟩
theorem Rel.adoptO{K:W6}{m:List Addr}{S:Sto}{H:Hp}{a:Addr}(R:Rel K m S H)(n:a ∉ m){ob:Ob}(h:ObR K (m++[a]) H a ob):Rel K (m++[a]) (S++[ob]) H:=by
 have p:=Yx m [a];have g:∀ {es:List D} {ws:List V},VDs K m H es ws->VDs K (m++[a]) H es ws:=λz=>VDs.mono0 p (λ_ _ t=>t) z;refine⟨by simp[R.len],YB.mpr ⟨R.nd,by simp,λx hx y hy=>by simp at hy;subst hy;exactλz=>n (z ▸ hx)⟩,λi o e=>?_⟩;by_cases hi:i < S.length
 ·rw[Zt hi] at e;obtain⟨b,hb,r⟩:=R.ob i o e;refine⟨b,jx p hb,?_⟩;cases o with
  |lst ds=>obtain⟨vs,p,q⟩:=r;exact⟨vs,p,g q⟩
  |frz ds=>obtain⟨o,vs,p,q⟩:=r;exact⟨o,vs,p,g q⟩
  |dic ks ds=>obtain⟨vs,p,l,q⟩:=r;exact⟨vs,p,l,g q⟩
 ·rw[Zo (by lia)] at e
  have hz:i - S.length=0:=by
   have:=(Zb.mp e).1;simp at this;lia
  rw[hz] at e;have e':ob=o:=by simpa using e
  subst e';refine⟨a,?_,h⟩;rw[Zo (by rw[R.len];lia),R.len,hz];rfl
theorem C1{K:W6}{m:List Addr}{H:Hp}{S:Sto}{p:Addr}{ks:List (List NK)}{ds:List D}{vs:List V}{Q:VK}(R:Rel K m S H)(hp:H p=none)(vd:VDs K m H ds vs)(hl:ks.length=ds.length)(q:∀m' H' u,Aft K m H (S++[.dic ks ds]) m' H'->VD K m' H' (.ref S.length) u->Q u H'):Q (.ref p) (upd H p (.dT (ks.zip vs))):=by
 have x:=Ext.beside R hp (.dT (ks.zip vs));have R1:=R.beside hp (.dT (ks.zip vs));refine q (m++[p]) _ _ ⟨x.adopt hp,?_⟩ ?_
 ·exact R1.adoptO (R.no hp) (ob:=.dic ks ds) ⟨vs,a7,hl,VDs.mono0 (Yx m [p]) (λ_ _ t=>t) (vd.mono R x)⟩
 ·rw[VD];exact⟨p,by rw[Zo (by rw[R.len];exact Zd _),R.len,ZZ];rfl,rfl⟩
theorem sM{es:List Expr}{a:CE}(h:fk T n b es [a]=true):∃y,es=[y]:=by
 cases n with
 |zero=>exact absurd h Ze
 |succ n=>
  obtain⟨e,es,rfl,h⟩:=dJ h;have h:=(an2 h).2;cases n with
  |zero=>exact absurd h Ze
  |succ n=>cases dM h;exact⟨e,rfl⟩
theorem C2(ih:Snd T C ar k n){own:List Str}{elt:CE}{tg:Tg}{it:CI}{cond:Option CE}{rest:List Cl}{e t i:Expr}{ifs:List Expr}{gs:List Wt}{scope:Scope}{pos:Pos}(G:CtxOk T C ar k b X)
  (h0:cmB own (kF own b.N) b.N scope b.sc=true) (h1:qq T n b t i it=true) (h2:sH (b.inner own scope) t tg=true) (h3:zB (dN T n (b.inner own scope)) ifs cond=true) (h4:mP T n (b.inner own scope) e gs elt rest=true) :
  PE X (.ListComp e (⟨t,i,ifs,0⟩::gs) scope pos) (gw X.K (ky own.length (evI C ar n it) tg (cnd (evT C ar n) cond (fY C ar n elt rest)) LF)):=by
 have S:CmScope own (kF own b.N) b.N scope b.sc:=yg _ h0;have S':CmScope own (kF own b.N) X.N scope X.env.scope:=by rw[G.hN,G.hs];exact S
 have hpl:=fP h1 (λe he env=>dP he) X.env
 refine PE.imp (B6 (g:=tTg X.K tg) (ti:=ifT C ar n X.K cond) (t:=λacc=>tCl X.K acc (fY C ar n elt rest)) G.calm S' (ih.i [] b X t i it G h1) (λC' ex s H=>fQ (G.inner S (C':=C') (ex:=ex) (s:=s) (H:=H)) h2) (λC' ex s H=>kL ih (G.inner S (C':=C') (ex:=ex) (s:=s) (H:=H)) h3)
  (λC' ex s H acc=>ih.cl _ _ e gs elt rest (G.inner S (C':=C') (ex:=ex) (s:=s) (H:=H)) h4 _ scope pos acc 0 rfl) hpl) λσ H Q q=>?_
 exact ug (λacc D σ H z=>sL z) q
theorem Ik{x:XE}{σ:L2.St}{H:Hp}{Q:VK}{K:W6}(h:gw K (wz x) σ H Q):tE K x σ H λv H1=>∃i:Nat,v = .int i/\i<=1000/\∀p,H1 p=none->∀l,upd H1 p (.rng 0 i) l=none->Q (.ref l) (upd (upd H1 p (.rng 0 i)) l (.lst ((Zl i).map λ(j:Nat)=>V.int j))):=by
 obtain⟨m,ρ,S,ds,S',E,R,e,q⟩:=h;obtain⟨d,S1,e1,e⟩:=ab e;cases d with
 |int i=>
  dsimp only at e;split at e
  ·rename_i hi;cases e;refine⟨m,ρ,S,.int i,_,E,R,e1,λm1 H1 v A1 vd=>⟨i.toNat,by rw[vd.ints];congr 1;lia,by lia,λp hp l hl=>?_⟩⟩;have A2:Aft K m1 H1 S' m1 (upd H1 p (.rng 0 i.toNat)):=⟨Ext.beside A1.rel hp _,A1.rel.beside hp _⟩;have A3:Aft K m1 (upd H1 p (.rng 0 i.toNat)) S' m1 (upd (upd H1 p (.rng 0 i.toNat)) l (.lst ((Zl i.toNat).map λ(j:Nat)=>V.int j))):=⟨Ext.beside A2.rel hl _,A2.rel.beside hl _⟩;have nl:l ∉ m1:=A2.rel.no hl
   have n1:H1 l=none:=by
    cases hh:H1 l with
    |none=>rfl
    |some o=>rw[(Ext.beside A1.rel hp (.rng 0 i.toNat)).keep l o hh nl] at hl;cases hl
   have nH:H l=none:=by
    cases hh:H l with
    |none=>rfl
    |some o=>
     by_cases hm:l ∈ m
     ·exact absurd (A1.ext.pre.subset hm) nl
     ·rw[A1.ext.keep l o hh hm] at n1;cases n1
   refine q m1 _ l _ (A1.trans (A2.trans A3)) a7 nl (λb hb z=>nl (z ▸ A1.ext.pre.subset hb)) nH ?_;exact hY _ _ _ _
  ·cases e
 |_=>cases e
theorem C3{σ:L2.St}{H:Hp}{Q:VK}{K:W6}(h:tE K zh σ H Q):yc σ H Q:=by
 obtain⟨m,ρ,S,d,S',E,R,e,q⟩:=h;cases e;exactλp hp=>C1 R hp (show VDs K m H [] [] by rw[VDs]) rfl q
theorem Il{f:Bool->List D->Option (List D)}{x:XE}{σ:L2.St}{H:Hp}{Q:VK}{K:W6}(h:gw K (wy f x) σ H Q):tUn (rTm K f) (tE K x) σ H Q:=by
 obtain⟨m,ρ,S,ds,S',E,R,e,q⟩:=h;obtain⟨d,S1,e1,e⟩:=ab e;cases hi:ay d S1 with
 |none=>rw[hi] at e;cases e
 |some r=>
  rw[hi] at e;dsimp only at e;cases hf:f r.1 r.2 with
  |none=>rw[hf] at e;cases e
  |some es=>
  rw[hf] at e;cases e;refine⟨m,ρ,S,d,_,E,R,e1,λm1 H1 v A1 vd=>?_⟩;obtain⟨a,vs,ev,sq,vds⟩:=e8 (tu:=r.1) (ds:=r.2) A1.rel vd hi;refine⟨m1,_,r.1,r.2,a,vs,ds,A1.rel,ev,sq,vds,hf,λm2 H2 p ws A2 hp n1 n2 n3 vw=>?_⟩
  have hn:H p=none:=by
   cases eh:H p with
   |none=>rfl
   |some o=>
    by_cases hm:p ∈ m
    ·exact absurd rfl (n2 p (A1.ext.pre.subset hm))
    ·have:=A1.ext.keep p o eh hm;rw[n3] at this;cases this
  exact q m2 H2 p ws (A1.trans A2) hp n1 (λb hb=>n2 b (A1.ext.pre.subset hb)) hn vw
theorem Im{f:Bool->List D->Option (List D)}{x:XA}{σ:L2.St}{H:Hp}{Q:VK}{K:W6}(h:gw K (wx f x) σ H Q):tUn (rTm K f) (gw K x) σ H Q:=by
 obtain⟨m,ρ,S,es,S',E,R,e,q⟩:=h;obtain⟨ds,S1,e1,e⟩:=ab e;cases hf:f false ds with
 |none=>rw[hf] at e;cases e
 |some es'=>
 rw[hf] at e;cases e;refine⟨m,ρ,S,ds,_,E,R,e1,λm1 H1 a vs A1 ha na _ _ vd=>?_⟩;refine⟨m1,_,false,ds,a,vs,es,A1.rel,rfl,show SqL K H1 a vs from SqL.of ha,vd,hf,λm2 H2 p ws A2 hp n1 n2 n3 vw=>?_⟩
 have hn:H p=none:=by
  cases eh:H p with
  |none=>rfl
  |some o=>
   by_cases hm:p ∈ m
   ·exact absurd rfl (n2 p (A1.ext.pre.subset hm))
   ·have:=A1.ext.keep p o eh hm;rw[n3] at this;cases this
 exact q m2 H2 p ws (A1.trans A2) hp n1 (λb hb=>n2 b (A1.ext.pre.subset hb)) hn vw
theorem zC(ih:Snd T C ar k n)(e:Expr)(c:CE)(G:CtxOk T C ar k b X)(ht:ag c=true)(h:aE T (n+1) b e c=true):PE X e (gw X.K (cF C ar (n+1) c)):=by
 cases c with
 |lst cs=>
  obtain⟨es,p,rfl,hh⟩:=Ic h;exact PE.imp (GU (ih.a b X es cs G hh)) λσ H Q q=>Ci q
 |listR a=>
  obtain⟨x,p,q,rfl,h2,h3,h4⟩:=bh h;obtain⟨y,p',q',rfl,h5,h6,h7⟩:=bh h3
  exact PE.imp (iy (nG G.calm) (G.gl h2).1 (G.bl _ (by decide)) Wk (b5 (iy pH (G.gl h5).1 (G.bl _ (by decide)) PyProof.Rows.boot_range (b5 (ih.e b X y a G h6) h7) (by decide) (G.gl h5).2 (ao h7) rfl) h4) (by decide) (G.gl h2).2 (ao h4) rfl) λσ H Q q=>ou (Ik q) λv H1 ⟨i,ev,hi,z⟩=>by
    subst ev;exact⟨i,rfl,λp hp=>⟨p,i,rfl,a7,hi,λl hl=>z p hp l hl⟩⟩
 |srt a=>
  obtain⟨x,p,q,rfl,h2,h3,h4⟩:=bh h;show PE X _ (gw X.K (if ag a=true then wx cu (cF C ar n a) else wy cu (evE C ar n a)));split
  ·rename_i ht;exact PE.imp (dR mJ G h2 (by decide) Wn (by decide) (ih.tm b X x a G ht h3) h4) λσ H Q q=>Im (f:=cu) q
  ·exact PE.imp (dR mJ G h2 (by decide) Wn (by decide) (ih.e b X x a G h3) h4) λσ H Q q=>Il (f:=cu) q
 |comp own elt cls=>
  obtain⟨tg,it,cond,rest,rfl,hc⟩:=FV h;obtain⟨el,t,i,ifs,gs,scope,p,rfl,hh⟩:=uo hc;obtain⟨h0,h1,h2,h3,h4⟩:=an5 hh;exact C2 ih G h0 h1 h2 h3 h4
 |_=>cases ht
theorem ow{y:Expr}{pos:Pos}(h:aB y=true):((backTo pos (V6 [y] X.env)).all (λx=>!x.1) && (Vp pos (VL [] X.env)).all (λx=>x.1.isSome) && decide (([y]:List Expr).length+([]:List Keyword).length+(if ([]:List Keyword).isEmpty then 0 else 1) < 30))=true:=by
 rw[ao h];rfl
theorem MF(ih:Snd T C ar k n)(e:Expr)(c:CE)(G:CtxOk T C ar k b X)(h:aE T (n+1) b e c=true):PE X e (tE X.K (evE C ar (n+1) c)):=by
 have hu:=kM G.room
 have tmp:ag c=true->evE C ar (n+1) c=dG (cF C ar (n+1) c)->PE X e (tE X.K (evE C ar (n+1) c)):=λht he=>by
  rw[he];exact PE.imp (zC ih e c G ht h) λσ H Q q=>pR q
 cases c with
 |non=>obtain⟨_,_,rfl⟩:=zv h;exact PE.imp xm λσ H Q q=>yp (λ_ _=>nM) q
 |bl v=>obtain⟨_,_,rfl⟩:=MA h;exact PE.imp Ls λσ H Q q=>yp (λ_ _=>bF) q
 |int v=>obtain⟨_,_,rfl⟩:=kH h;exact PE.imp nu λσ H Q q=>yp (λ_ _=>a9) q
 |str v=>obtain⟨_,_,rfl⟩:=Ib h;exact PE.imp Gv λσ H Q q=>yp (λ_ _=>nP) q
 |var i=>
  obtain⟨x,p,rfl,hh⟩:=oj h;have hh:=an2 hh;have v:=G.vis hh.2;exact PE.imp (Gu (i:=i) (by rw[G.hN];exact eq_of_beq hh.1) v.1 v.2.1 v.2.2) λσ H Q q=>Hh q
 |con k' v=>
  obtain⟨x,p,rfl,hh⟩:=oj h;have hh:=an2 hh;have g:=G.gl hh.2;obtain⟨tk,hm⟩:=G.con k' x v (eq_of_beq hh.1);exact PE.imp (BD (v:=.int v) g.1 hm ⟨tk,rfl⟩ g.2) λσ H Q q=>yp (λ_ _=>a9) q
 |tup cs=>obtain⟨es,_,_,rfl,hh⟩:=zw h;exact PE.imp (GS (ih.a b X es cs G hh)) λσ H Q q=>Hj q
 |lst cs=>exact tmp rfl rfl
 |dic0=>obtain⟨p,rfl⟩:=CZ h;exact PE.imp yd λσ H Q q=>C3 q
 |bin o a c'=>obtain⟨l,r,p,rfl,h2,h3⟩:=Ie h;exact PE.imp (LL (Cp o) (ih.e b X l a G h2) (ih.e b X r c' G h3)) λσ H Q q=>nK q
 |neg a=>obtain⟨x,p,rfl,hh⟩:=om h;exact PE.imp (xF CN (ih.e b X x a G hh)) λσ H Q q=>yn q
 |cmp o a c'=>obtain⟨l,r,p,rfl,h2,h3,h4⟩:=zy h;exact PE.imp (BM (fN hu o) (ih.e b X l a G h2) (ih.e b X r c' G h3) (gA h4)) λσ H Q q=>nK q
 |chn o p' a c' d=>obtain⟨l,r,s,p,rfl,h2,h3,h4,h5⟩:=zz h;exact PE.imp (xH (fN hu o) (fN hu p') (ih.e b X l a G h2) (ih.e b X r c' G h3) (ih.e b X s d G h4) (kK h5)) λσ H Q q=>y4 q
 |and a c'=>
  rcases CU h with h |h
  ·obtain⟨x,y,p,rfl,h1,h2⟩:=oo h;exact PE.imp (xq (ih.e b X x a G h1) (xo (ih.e b X y c' G h2))) λσ H Q q=>y3 q
  ·obtain⟨x,y,z,ys,p,rfl,h1,h2⟩:=oq h;exact PE.imp (xq (ih.e b X x a G h1) (ih.e b X _ c' G h2)) λσ H Q q=>y3 q
 |or a c'=>
  rcases CU h with h |h
  ·obtain⟨x,y,p,rfl,h1,h2⟩:=oo h;exact PE.imp (Fp (ih.e b X x a G h1) (xo (ih.e b X y c' G h2))) λσ H Q q=>FJ q
  ·obtain⟨x,y,z,ys,p,rfl,h1,h2⟩:=oq h;exact PE.imp (Fp (ih.e b X x a G h1) (ih.e b X _ c' G h2)) λσ H Q q=>FJ q
 |not a=>obtain⟨x,p,rfl,hh⟩:=zx h;exact PE.imp (Gy (ih.e b X x a G hh)) λσ H Q q=>HN q
 |ite t a c'=>obtain⟨x,y,z,p,rfl,h1,h2,h3⟩:=Ig h;exact PE.imp (xr (ih.t b X x t G h1) (ih.e b X y a G h2) (ih.e b X z c' G h3)) λσ H Q q=>HP q
 |ix a c'=>
  obtain⟨x,y,p,rfl,h1,h2,h3⟩:=MB h;show PE X _ (tE X.K (if ag a=true then rP (cF C ar n a) (evE C ar n c') else pQ ixS (evE C ar n a) (evE C ar n c')));split
  ·rename_i ht;exact PE.imp (FA xQ (ih.tm b X x a G ht h1) (ih.e b X y c' G h2) (qr h3)) λσ H Q q=>Hv q
  ·exact PE.imp (FA (OO hu) (ih.e b X x a G h1) (ih.e b X y c' G h2) (qr h3)) λσ H Q q=>nK q
 |sl a lo hi=>obtain⟨x,y,z,p,p',rfl,h1,h2,h3⟩:=MC h;exact PE.imp (xO OP (ih.e b X x a G h1) (qu ih G h2) (qu ih G h3)) λσ H Q q=>Md q
 |call f cs=>
  obtain⟨x,e,es,p,p',rfl,h12,h3⟩:=CV (k:=λx=>oA T.fns[f]? (λy=>y.1 == x) && b.glo x) (l:=λes=>fk T n b es cs) (e:=e) h;obtain⟨h1,h2⟩:=an2 h12
  ·obtain⟨y,hy,h1⟩:=wG h1;have hx:=uq h1;subst hx;obtain⟨ha,fa,fd,ps,hm,hk,hb,F⟩:=G.fns f y hy;have hpl:=bN h3;have g:=G.gl h2;exact PE.imp (BR F G.room g.1 hm hk hb .nil L5 (ih.a b X (e::es) cs G h3) g.2 (ao (hpl e Zh)) (iQ λe he=>hpl e (Zf _ he))) λσ H Q q=>CO q
 |inst t a=>
  obtain⟨x,y,p,p',rfl,h2,h5,h6,h7,_⟩:=kJ h;obtain⟨y,p'',rfl,h8⟩:=oj h7;obtain⟨h3,h4⟩:=an2 h8;have hy:=uq h3;subst hy
  have ty:PE X (.Name (Str.ofString t.nm) p'') (tC (.ty t.nm)):=by
   have g:=G.gl h4;cases t with
   |int=>exact gU g.1 (G.bl _ (by decide)) PyProof.Rows.boot_int rfl (by decide) g.2
   |bool=>exact gU g.1 (G.bl _ (by decide)) PyProof.Rows.boot_bool rfl (by decide) g.2
   |tuple=>exact gU g.1 (G.bl _ (by decide)) Wo rfl (by decide) g.2
   |list=>exact gU g.1 (G.bl _ (by decide)) Wk rfl (by decide) g.2
   |str=>exact gU g.1 (G.bl _ (by decide)) PyProof.Rows.boot_str rfl (by decide) g.2
  exact PE.imp (gW (nI X.K) (G.gl h2).1 (G.bl _ (by decide)) PyProof.Rows.boot_isinstance (dz (ih.e b X x a G h5) (b5 ty rfl) h6) (by decide) (G.gl h2).2 (ao h6) rfl) λσ H Q q=>Cu q
 |len a=>obtain⟨x,p,p',rfl,h2,h3,h4⟩:=bh h;exact gB ih G (λte z=>dR v5 G h2 (by decide) PySem.boot_len (by decide) z h4) h3
 |all a=>obtain⟨x,p,p',rfl,h2,h3,h4⟩:=bh h;exact gB ih G (λte z=>dR (v8 G.calm) G h2 (by decide) PyProof.Rows.boot_all (by decide) z h4) h3
 |mxL a=>obtain⟨x,p,p',rfl,h2,h3,h4⟩:=bh h;exact gB ih G (λte z=>dR (wj G.calm) G h2 (by decide) Wl (by decide) z h4) h3
 |mxD a c=>
  obtain⟨x,p,q,j,p',q',rfl,h2,h3,h4⟩:=CW h;exact gB ih G (λte z=>PE.imp (HC G.calm (G.gl h2).1 (G.bl _ (by decide)) (G.gl h2).2 (b5 z h4) (ao h4)) λσ H Q q=>q) h3
 |rev a=>obtain⟨x,k,p,p2,p3,p4,rfl,h1⟩:=Ih h;exact PE.imp (HB (ih.e b X x a G h1)) λσ H Q q=>yn q
 |mnN a=>
  obtain⟨x,p,q,j,p',q',rfl,h2,h3,h4⟩:=CY h;exact gB ih G (λte z=>PE.imp (HU hu G.calm (G.gl h2).1 (G.bl _ (by decide)) (G.gl h2).2 (b5 z h4) (ao h4)) λσ H Q q=>q) h3
 |sm a=>obtain⟨x,p,p',rfl,h2,h3,h4⟩:=bh h;exact gB ih G (λte z=>dR (wm G.calm) G h2 (by decide) PyProof.Rows.boot_sum (by decide) z h4) h3
 |tupOf a=>obtain⟨x,p,p',rfl,h2,h3,h4⟩:=bh h;exact gB ih G (λte z=>C0 v7 G h2 (by decide) Wo (by decide) z h4) h3
 |listR a=>exact tmp rfl rfl
 |srt a=>exact tmp rfl rfl
 |mx a c'=>
  obtain⟨x,es,p,p',rfl,h2,h3⟩:=qp (b:=b) (f := "max") (k:=λes=>fk T n b es [a,c']) (e:=e) h;have hpl:=bN h3;exact PE.imp (gW (rX G.calm) (G.gl h2).1 (G.bl _ (by decide)) Wl (ih.a b X (x::es) [a,c'] G h3) (by decide) (G.gl h2).2 (ao (hpl x Zh)) (iQ λe he=>hpl e (Zf _ he))) λσ H Q q=>yo q
 |mn a c'=>
  obtain⟨x,es,p,p',rfl,h2,h3⟩:=qp (b:=b) (f := "min") (k:=λes=>fk T n b es [a,c']) (e:=e) h;have hpl:=bN h3;exact PE.imp (gW (rY G.calm) (G.gl h2).1 (G.bl _ (by decide)) Wm (ih.a b X (x::es) [a,c'] G h3) (by decide) (G.gl h2).2 (ao (hpl x Zh)) (iQ λe he=>hpl e (Zf _ he))) λσ H Q q=>yo q
 |rep a=>obtain⟨x,p,p',rfl,h2,h3,h4⟩:=bh h;exact PE.imp (dR (sy G.room) G h2 (by decide) PyProof.Rows.boot_repr (by decide) (ih.e b X x a G h3) h4) λσ H Q q=>yn q
 |comp own elt cls=>exact tmp rfl rfl
 |app o a=>
  obtain⟨x,ap,es,p,rfl,h2,h3,h4,h5⟩:=ot h;obtain⟨y,rfl⟩:=sM h5;have hpl:=bN h5 y (by simp);exact PE.imp (xT WC WG PySem.F.type_list_append HE (ih.e b X x o G h4) (ih.a b X [y] [a] G h5) (dQ h2) (ow hpl) h3 (ao hpl) rfl) λσ H Q q=>sr (λR vd c=>su R vd c) q
 |pop o=>
  obtain⟨x,ap,es,p,rfl,h2,h3,h4,h5⟩:=ot h;cases es with
  |cons _ _=>cases h5
  |nil=>exact PE.imp (G1 WC WH WM Cz (ih.e b X x o G h4) (dQ h2) h3) λσ H Q q=>Cw (λR vd c=>su R vd c) q
 |popAt o a=>
  obtain⟨x,ap,es,p,rfl,h2,h3,h4,h5⟩:=ot h;obtain⟨y,rfl⟩:=sM h5;have hpl:=bN h5 y (by simp);exact PE.imp (xT WC WH WM wo (ih.e b X x o G h4) (ih.a b X [y] [a] G h5) (dQ h2) (ow hpl) h3 (ao hpl) rfl) λσ H Q q=>sr (λR vd c=>su R vd c) q
 |cnt o a=>
  obtain⟨x,ap,es,p,rfl,h2,h3,h4,h5⟩:=ot h;obtain⟨y,rfl⟩:=sM h5;have hpl:=bN h5 y (by simp);exact PE.imp (xT PySem.F.plainAttrs_tuple WJ PySem.F.type_tuple_count CA (ih.e b X x o G h4) (ih.a b X [y] [a] G h5) (dQ h2) (ow hpl) h3 (ao hpl) rfl) λσ H Q q=>sr (λR vd c=>HD R vd c) q
end
section
variable {T:Tab} {C:Calls} {ar:Nat->Nat} {k n:Nat} {b:Blk} {X:Cx}
theorem ur{op:BoolOp}{vs:List Expr}{p:Pos}{t:TT}(h:PT X (.BoolOp op vs p) t):PW X (.BoolOp op vs p) t:=λwhole pins s σ H Q I q=>h pins s σ H Q I q
theorem MG(ih:Snd T C ar k n)(e:Expr)(c:CE)(G:CtxOk T C ar k b X)(h:dN T (n+1) b e c=true):PT X e (tT X.K (evT C ar (n+1) c)):=by
 have hu:=kM G.room
 have dflt:evT C ar (n+1) c=Cs (evE C ar n c)->(aE T n b e c && HW e)=true->PT X e (tT X.K (evT C ar (n+1) c)):=λe1 hh=>by
  rw[e1];have hh:=an2 hh;exact PT.imp (xJ (ih.e b X e c G hh.1) (sK hh.2)) λσ H Q q=>Hx q
 cases c with
 |cmp o a c'=>obtain⟨l,r,p,rfl,h2,h3,h4⟩:=zy h;exact PT.imp (BN (fN hu o) (ih.e b X l a G h2) (ih.e b X r c' G h3) (gA h4)) λσ H Q q=>nK (Me q)
 |chn o p' a c' d=>obtain⟨l,r,s,p,rfl,h2,h3,h4,h5⟩:=zz h;exact PT.imp (xI (fN hu o) (fN hu p') (ih.e b X l a G h2) (ih.e b X r c' G h3) (ih.e b X s d G h4) (kK h5)) λσ H Q q=>y4 (Me q)
 |and a c'=>
  rcases CU h with h |h
  ·obtain⟨x,y,p,rfl,h1,h2⟩:=oo h;exact PT.imp (xn (ih.t b X x a G h1) (BE (ih.t b X y c' G h2))).pt λσ H Q q=>y8 q
  ·obtain⟨x,y,z,ys,p,rfl,h1,h2⟩:=oq h;exact PT.imp (xn (ih.t b X x a G h1) (ur (ih.t b X _ c' G h2))).pt λσ H Q q=>y8 q
 |or a c'=>
  rcases CU h with h |h
  ·obtain⟨x,y,p,rfl,h1,h2⟩:=oo h;exact PT.imp (Fm (ih.t b X x a G h1) (Gw (ih.t b X y c' G h2))).pt λσ H Q q=>FK q
  ·obtain⟨x,y,z,ys,p,rfl,h1,h2⟩:=oq h;exact PT.imp (Fm (ih.t b X x a G h1) (ur (ih.t b X _ c' G h2))).pt λσ H Q q=>FK q
 |not a=>obtain⟨x,p,rfl,h1⟩:=zx h;exact PT.imp (Gx (ih.t b X x a G h1)) λσ H Q q=>HR q
 |ite _ _ _=>cases h
 |_=>exact dflt rfl h
theorem snd:∀n,Snd T C ar k n
 |0=>⟨λb X e c _ h=>absurd h Ze,λb X e c _ _ h=>absurd h Ze,λb X e c _ h=>absurd h Ze,λb X e c _ h=>absurd h Ze,λB b X t e c _ h=>absurd h Ze,λb X e gs elt cls _ h=>absurd h Ze⟩
 |n+1=>⟨λb X e c G h=>MF (snd n) e c G h,λb X e c G ht h=>zC (snd n) e c G ht h,λb X es cs G h=>MD (snd n) es cs G h,λb X e c G h=>MG (snd n) e c G h,λB b X t e c G h=>ME (snd n) B t e c G h,λb X e gs elt cls G h=>Ij (snd n) e gs elt cls G h⟩
end
inductive CS where |asg (t:Tg)(e:CE) |setI (v o i:CE) |ex (e:CE) |ret (e:CE) |ifs (c:CE)(a b:List CS) |for_ (t:Tg)(it:CI)(b:List CS) |while_ (c:CE)(b:List CS) |cnt |never
abbrev C4:XS:=λ_ _=>none
mutual
noncomputable def evS(C:Calls)(ar:Nat->Nat):Nat->CS->XS
 |0,_=>C4
 |n+1,s=>match s with
  |.asg t e=>kx (evE C ar n e) t
  |.setI v o i=>qi (evE C ar n v) (evE C ar n o) (evE C ar n i)
  |.ex e=>qh (evE C ar n e)
  |.ret e=>yT (evE C ar n e)
  |.ifs c a b=>xIf (evT C ar n c) (eR C ar n a) (eR C ar n b)
  |.for_ t it b=>yU (evI C ar n it) t (eR C ar n b) LF
  |.while_ c b=>bB (evT C ar n c) (eR C ar n b) LF
  |.cnt=>Mp
  |.never=>C4
noncomputable def eR(C:Calls)(ar:Nat->Nat):Nat->List CS->XS
 |0,_=>C4
 |n+1,ss=>match ss with
  |[]=>FH
  |s::ss=>yS (evS C ar n s) (eR C ar n ss)
end
abbrev zD:Expr->Bool
 |.Starred _ _=>true
 |_=>false
abbrev fR(sc:Scope)(line:Nat)(ts:List Expr):List Str:=ts.filterMap λ
 |.Name id pos=>if sc.names.lookup id == some .local && pos.line == line then some id else none
 |_=>none
abbrev ut(sc:Scope)(ts vs:List Expr):Option (Option (List Str)):=
 if (!(ts.length == 2 || ts.length == 3) || vs.length != ts.length)=true then some none
 else if (vs.any zD)=true then some none
 else if ((fR sc ((ts.head?.map (·.pos.line)).getD 0) ts).length != ts.length || (fR sc ((ts.head?.map (·.pos.line)).getD 0) ts).eraseDups.length != (fR sc ((ts.head?.map (·.pos.line)).getD 0) ts).length)=true then some none
 else if (vs.all (foldedForSure 8))=true then some none
 else if (vs.all (constantsAlone 8))=true then none
 else some (some (fR sc ((ts.head?.map (·.pos.line)).getD 0) ts))
theorem MH{k k2:Nat}(hk:env.blockKind = .function)(hs:env.scope=sc)(h:ut sc ts vs=some r):V8 [.Tuple ts k p] (.Tuple vs k2 p2) env=pure r:=by
 unfold ut at h;unfold V8
 have e1:(vs.any λ|.Starred ..=>true |_=>false)=vs.any zD:=by
  congr 1
 have e2:(ts.filterMap λ
   |.Name id pos=>if env.kindOf id == some .local && pos.line == ((ts.head?.map (·.pos.line)).getD 0) then some id else none
   | _=>none)=fR sc ((ts.head?.map (·.pos.line)).getD 0) ts:=by
  unfold fR Env.kindOf;rw[hs]
 have e3:(env.blockKind != .function)=false:=by rw[hk];rfl
 simp only[e3,Wa];split at h
 ·rename_i c1;rw[if_pos c1];cases h;rfl
 rename_i c1;rw[if_neg c1];split at h
 ·rename_i c2;cases h;exact if_pos (e1.trans c2)
 rename_i c2;refine Eq.trans (if_neg λz=>c2 (e1.symm.trans z)) ?_;split at h
 ·rename_i c3;cases h;rw[<-e2] at c3;exact if_pos c3
 rename_i c3;rw[<-e2] at c3 h;refine Eq.trans (if_neg c3) ?_;split at h
 ·rename_i c4;cases h;exact if_pos c4
 rename_i c4;refine Eq.trans (if_neg c4) ?_;split at h
 ·cases h
 rename_i c5;cases h;exact if_neg c5
abbrev zE:Expr->Option (Scope × Pos)
 |.ListComp _ _ s p=>some (s,p)
 |.SetComp _ _ s p=>some (s,p)
 |.DictComp _ _ _ s p=>some (s,p)
 |_=>none
abbrev swW(sc:Scope)(v:Expr)(t:Str)(pos:Pos):Bool:=match zE v with
 |none=>false
 |some (s,p)=>sc.names.lookup t == some .local && pos.line == p.line && !(s.names.any λy=>y.1 == t && (y.2 == .local || y.2 == .cell))
theorem Io{line:Nat}(hk:env.blockKind = .function)(hs:env.scope=sc):V9 v (some (.Name t pos)) line env=pure (swW sc v t pos):=by
 unfold V9 swW zE;have e3:(env.blockKind == .function)=true:=by rw[hk];rfl
 cases v <;> first |rfl |(simp only[e3,XB,Env.kindOf,hs];rfl)
theorem qv{line:Nat}(h:∀x p,tg ≠ .Name x p):Ua [tg] v line env=pure false:=by
 show V9 v (some tg) line env=pure false;unfold V9;cases v <;> first |rfl |(cases tg <;> first |rfl |(exact absurd rfl (h _ _)))
theorem uu(h:(∀es k p,v ≠ .Tuple es k p)\/(∃x p,tg = .Name x p)\/(∃o i p,tg = .Subscript o i p)):V8 [tg] v env=pure none:=by
 unfold V8;rcases h with h |⟨x,p,rfl⟩ |⟨o,i,p,rfl⟩
 ·split
  ·rename_i e;split at e
   ·exact absurd rfl (h _ _ _)
   ·exact absurd rfl (h _ _ _)
   ·cases e
  ·rfl
 ·rfl
 ·rfl
abbrev nmL:List Expr->Option (List Str)
 |[]=>some []
 |e::es=>match zp e,nmL es with
  |some r,some xs=>some (r.1::xs)
  |_,_=>none
theorem fm(h:nmL es=some (x::xs)):∃p es',es = .Name x p::es'/\nmL es'=some xs:=by
 cases es with
 |nil=>cases h
 |cons e es=>
  rw[nmL] at h;split at h
  ·rename_i r ys h1 h2;cases h;exact⟨_,es,by rw[oh h1],h2⟩
  ·cases h
theorem uv(h:nmL es=some []):es=[]:=by
 cases es with
 |nil=>rfl
 |cons e es=>
  rw[nmL] at h;split at h <;> cases h
abbrev tgL:List Tg->Option (List Nat)
 |[]=>some []
 |.name i::ts=>match tgL ts with
  |some is=>some (i::is)
  |none=>none
 |.tup _::_=>none
theorem zF:∀ {ts:List Tg} {is:List Nat},tgL ts=some is->ts=is.map Tg.name
 |[],_,h=>by cases h;rfl
 |.name i::ts,is,h=>by
  rw[tgL] at h;cases e:tgL ts with
  |none=>rw[e] at h;cases h
  |some js=>rw[e] at h;cases h;rw[zF e];rfl
 |.tup _::_,_,h=>by cases h
abbrev MI(b:Blk)(ns:List Str)(is:List Nat):Bool:=match ns with
 | [x,y]=>(match is with
  |[i,j]=>b.N[i]? == some x && b.N[j]? == some y && i != j && b.sc.names.lookup x == some .local && b.sc.names.lookup y == some .local
  | _=>false)
 | [x,y,z]=>(match is with
  |[i,j,l]=>b.N[i]? == some x && b.N[j]? == some y && b.N[l]? == some z && i != j && i != l && j != l && b.sc.names.lookup x == some .local && b.sc.names.lookup y == some .local && b.sc.names.lookup z == some .local
  | _=>false)
 |_=>false
abbrev OU(e:Expr):Bool:=iP e λ_ _ _ _=>true
abbrev OV(e:Expr):Bool:=e.ctorIdx == 24
abbrev sN(T:Tab)(n:Nat)(b:Blk)(tg e:Expr)(t:Tg)(c:CE):Bool:=match t with
 | .name i=>(match zp tg with
  |some r=>aE T n b e c && b.N[i]? == some r.1 && b.own r.1 && (!(swW b.sc e r.1 r.2) || (OU e && b.sc.names.lookup r.1 == some .local))
  | none=>false)
 | .tup gs=>(match wD tg with
  | some r=>aE T n b e c && (match wD e with
   | some q=>(match ut b.sc r.1 q.1 with
    |some none=>kG b r.1 gs
    | some (some ns)=>(match tgL gs with
     |some is=>nmL r.1 == some ns && q.1.length == ns.length && MI b ns is
     | none=>false)
    | none=>false)
   | none=>!(OV e) && kG b r.1 gs)
  | none=>false)
abbrev uw(e:Stmt)(k:Option Expr->Pos->Bool):Bool:=if h:e.ctorIdx=3 then @Stmt.Return.elim (λ_=>Bool) e h k else false
theorem wJ(h:uw e k=true):∃x0 x1,e = .Return x0 x1/\k x0 x1=true:=by
 obtain⟨h1,h⟩:=bG h;exact Stmt.Return.elim (motive_2:=λe=>∀h',@Stmt.Return.elim (λ_=>Bool) e h' k=true->∃x0 x1,e = .Return x0 x1/\k x0 x1=true) e h1 (λx0 x1 _ hh=>⟨x0,x1,rfl,hh⟩) h1 h
abbrev oz(e:Stmt)(k:List Expr->Expr->Pos->Bool):Bool:=if h:e.ctorIdx=5 then @Stmt.Assign.elim (λ_=>Bool) e h k else false
theorem mS(h:oz e k=true):∃x0 x1 x2,e = .Assign x0 x1 x2/\k x0 x1 x2=true:=by
 obtain⟨h1,h⟩:=bG h;exact Stmt.Assign.elim (motive_2:=λe=>∀h',@Stmt.Assign.elim (λ_=>Bool) e h' k=true->∃x0 x1 x2,e = .Assign x0 x1 x2/\k x0 x1 x2=true) e h1 (λx0 x1 x2 _ hh=>⟨x0,x1,x2,rfl,hh⟩) h1 h
abbrev MJ(e:Stmt)(k:Expr->Expr->List Stmt->List Stmt->Pos->Bool):Bool:=if h:e.ctorIdx=9 then @Stmt.For.elim (λ_=>Bool) e h k else false
theorem Ip(h:MJ e k=true):∃x0 x1 x2 x3 x4,e = .For x0 x1 x2 x3 x4/\k x0 x1 x2 x3 x4=true:=by
 obtain⟨h1,h⟩:=bG h;exact Stmt.For.elim (motive_2:=λe=>∀h',@Stmt.For.elim (λ_=>Bool) e h' k=true->∃x0 x1 x2 x3 x4,e = .For x0 x1 x2 x3 x4/\k x0 x1 x2 x3 x4=true) e h1 (λx0 x1 x2 x3 x4 _ hh=>⟨x0,x1,x2,x3,x4,rfl,hh⟩) h1 h
abbrev zG(e:Stmt)(k:Expr->List Stmt->List Stmt->Pos->Bool):Bool:=if h:e.ctorIdx=11 then @Stmt.While.elim (λ_=>Bool) e h k else false
theorem zH(h:zG e k=true):∃x0 x1 x2 x3,e = .While x0 x1 x2 x3/\k x0 x1 x2 x3=true:=by
 obtain⟨h1,h⟩:=bG h;exact Stmt.While.elim (motive_2:=λe=>∀h',@Stmt.While.elim (λ_=>Bool) e h' k=true->∃x0 x1 x2 x3,e = .While x0 x1 x2 x3/\k x0 x1 x2 x3=true) e h1 (λx0 x1 x2 x3 _ hh=>⟨x0,x1,x2,x3,rfl,hh⟩) h1 h
abbrev jIf(e:Stmt)(k:Expr->List Stmt->List Stmt->Pos->Bool):Bool:=if h:e.ctorIdx=12 then @Stmt.If.elim (λ_=>Bool) e h k else false
theorem ML(h:jIf e k=true):∃x0 x1 x2 x3,e = .If x0 x1 x2 x3/\k x0 x1 x2 x3=true:=by
 obtain⟨h1,h⟩:=bG h;exact Stmt.If.elim (motive_2:=λe=>∀h',@Stmt.If.elim (λ_=>Bool) e h' k=true->∃x0 x1 x2 x3,e = .If x0 x1 x2 x3/\k x0 x1 x2 x3=true) e h1 (λx0 x1 x2 x3 _ hh=>⟨x0,x1,x2,x3,rfl,hh⟩) h1 h
abbrev FW(e:Stmt)(k:Expr->Pos->Bool):Bool:=if h:e.ctorIdx=24 then @Stmt.Expr.elim (λ_=>Bool) e h k else false
theorem C5(h:FW e k=true):∃x0 x1,e = .Expr x0 x1/\k x0 x1=true:=by
 obtain⟨h1,h⟩:=bG h;exact Stmt.Expr.elim (motive_2:=λe=>∀h',@Stmt.Expr.elim (λ_=>Bool) e h' k=true->∃x0 x1,e = .Expr x0 x1/\k x0 x1=true) e h1 (λx0 x1 _ hh=>⟨x0,x1,rfl,hh⟩) h1 h
abbrev mU(e:Stmt)(k:Pos->Bool):Bool:=if h:e.ctorIdx=27 then @Stmt.Continue.elim (λ_=>Bool) e h k else false
theorem qw(h:mU e k=true):∃x0,e = .Continue x0/\k x0=true:=by
 obtain⟨h1,h⟩:=bG h;exact Stmt.Continue.elim (motive_2:=λe=>∀h',@Stmt.Continue.elim (λ_=>Bool) e h' k=true->∃x0,e = .Continue x0/\k x0=true) e h1 (λx0 _ hh=>⟨x0,rfl,hh⟩) h1 h
abbrev oB(e:Expr):Bool:=e.ctorIdx == 8 || e.ctorIdx == 9 || e.ctorIdx == 10
abbrev MM(k:Expr->Expr->Bool)(s:Stmt):Bool:=oz s λts v _=>l1 ts λtg=>k tg v
abbrev FX(k l m:Expr->Bool)(s:Stmt):Bool:=oz s λts z _=>l1 ts λtg=>cG tg λx y _=>k z && l x && m y && aB y
abbrev zEx(k:Expr->Bool)(s:Stmt):Bool:=FW s λv _=>k v && !(oB v)
abbrev MN(k:Expr->Bool)(s:Stmt):Bool:=uw s λv _=>oA v k
abbrev zIf(k:Expr->Bool)(l m:List Stmt->Bool)(s:Stmt):Bool:=jIf s λt p q _=>k t && l p && m q
abbrev MO(k:Expr->Expr->Bool)(l:List Stmt->Bool)(s:Stmt):Bool:=MJ s λtg i p q _=>q.isEmpty && k tg i && l p
abbrev zI(k:Expr->Bool)(l:List Stmt->Bool)(s:Stmt):Bool:=zG s λt p q _=>q.isEmpty && k t && l p
abbrev MP(s:Stmt):Bool:=mU s λ_=>true
section
variable {s:Stmt} {k l m:Expr->Bool}
theorem Iq{k:Expr->Expr->Bool}(h:MM k s=true):∃tg v p,s = .Assign [tg] v p/\k tg v=true:=by
 obtain⟨ts,v,p,rfl,h⟩:=mS h;obtain⟨tg,rfl,h⟩:=gz h;exact⟨tg,v,p,rfl,h⟩
theorem C6(h:FX k l m s=true):∃x y q z p,s = .Assign [.Subscript x y q] z p/\k z=true/\l x=true/\m y=true/\aB y=true:=by
 obtain⟨ts,v,p,rfl,h⟩:=mS h;obtain⟨tg,rfl,h⟩:=gz h;obtain⟨x,y,q,rfl,h⟩:=cv h;exact⟨x,y,q,v,p,rfl,an4 h⟩
theorem MQ(h:zEx k s=true):∃v p,s = .Expr v p/\k v=true/\oB v=false:=by
 obtain⟨v,p,rfl,h⟩:=C5 h;obtain⟨h1,h2⟩:=an2 h;exact⟨v,p,rfl,h1,by cases e:oB v;rfl;rw[e] at h2;cases h2⟩
theorem Ir(h:MN k s=true):∃v p,s = .Return (some v) p/\k v=true:=by
 obtain⟨v,p,rfl,h⟩:=wJ h;obtain⟨v,rfl,h⟩:=wG h;exact⟨v,p,rfl,h⟩
theorem MR{l m:List Stmt->Bool}(h:zIf k l m s=true):∃t p q r,s = .If t p q r/\k t=true/\l p=true/\m q=true:=by
 obtain⟨t,p,q,r,rfl,h⟩:=ML h;exact⟨t,p,q,r,rfl,an3 h⟩
theorem Iu{k:Expr->Expr->Bool}{l:List Stmt->Bool}(h:MO k l s=true):∃tg i p q,s = .For tg i p [] q/\k tg i=true/\l p=true:=by
 obtain⟨tg,i,p,q,r,rfl,h⟩:=Ip h;obtain⟨h1,z0⟩:=an3 h;cases dM h1;exact⟨tg,i,p,r,rfl,z0⟩
theorem zJ{l:List Stmt->Bool}(h:zI k l s=true):∃t p q,s = .While t p [] q/\k t=true/\l p=true:=by
 obtain⟨t,p,q,r,rfl,h⟩:=zH h;obtain⟨h1,z0⟩:=an3 h;cases dM h1;exact⟨t,p,r,rfl,z0⟩
theorem Iv(h:MP s=true):∃p,s = .Continue p:=by obtain⟨p,rfl,_⟩:=qw h;exact⟨p,rfl⟩
end
mutual
noncomputable def MS(T:Tab):Nat->Blk->Stmt->CS->Bool
 |0,_,_,_=>false
 |n+1,b,s,c=>match c with
  |.asg t e=>MM (λtg v=>sN T n b tg v t e) s
  |.setI v o i=>FX (λx=>aE T n b x v) (λx=>aE T n b x o) (λx=>aE T n b x i) s
  |.ex e=>zEx (λx=>aE T n b x e) s
  |.ret e=>MN (λx=>aE T n b x e) s
  |.ifs c x y=>zIf (λe=>dN T n b e c) (λp=>kN T n b p x) (λp=>kN T n b p y) s
  |.for_ t it x=>MO (λtg i=>qq T n b tg i it && sH b tg t) (λp=>kN T n b p x) s
  |.while_ c x=>zI (λe=>dN T n b e c) (λp=>kN T n b p x) s
  |.cnt=>MP s
  |.never=>true
noncomputable def kN(T:Tab):Nat->Blk->List Stmt->List CS->Bool
 |0,_,_,_=>false
 |n+1,b,ss,cs=>match cs with
  |[]=>ss.isEmpty
  |c::cs=>lC ss λs ss=>MS T n b s c && kN T n b ss cs
end
section
variable {T:Tab} {C:Calls} {ar:Nat->Nat} {k n:Nat} {b:Blk} {X:Cx}
theorem C7{k':Nat}(h:aE T (n+1) b (.Tuple es k' p) (.tup cs)=true):fk T n b es cs=true:=h
theorem zK{k':Nat}(h:aE T (n+1) b (.Tuple es k' p) c=true):∃cs,c = .tup cs:=by
 cases c with
 |tup cs=>exact⟨cs,rfl⟩
 |comp own elt cls=>
  cases cls with
  |nil=>exact absurd h Ze
  |cons g rest=>obtain⟨tg,it,cond⟩:=g;exact absurd h Ze
 |_=>exact absurd h Ze
theorem gC:∀ (ts:List Tg) (ds:List D) (ρ ρ':Rho),aK ts ds ρ=some ρ'->ts.length=ds.length
 |[],[],_,_,_=>rfl
 |[],_::_,_,_,e=>by simp[aK] at e
 |_::_,[],_,_,e=>by simp[aK] at e
 |t::ts,d::ds,ρ,ρ',e=>by
  simp only[aK] at e;split at e
  ·simp[gC _ _ _ _ e]
  ·cases e
theorem qx{K:W6}{x:XA}{ts:List Tg}{D:Ends}{σ:L2.St}{H:Hp}(h:tSt K (kx (jt ju x) (.tup ts)) D σ H):tAr K x σ H λvs H1=>∃m1 ρ ρ' ds,EnvR K m1 H1 ρ σ/\VDs K m1 H1 ds vs/\aK ts ds ρ=some ρ'/\∀σ',EnvR K m1 H1 ρ' σ'->D.nx σ' H1:=by
 obtain⟨m,ρ,S,fl,ρ',S',E,R,e,q⟩:=h;unfold kx at e;cases hx:jt ju x ρ S with
 |none=>rw[hx] at e;cases e
 |some r=>
  rw[hx] at e;obtain⟨ds,S1,e1,e2⟩:=ab hx;unfold ju at e2;split at e2
  ·cases e2;dsimp only at e;simp only[au] at e;cases hb:aK ts ds ρ with
   |none=>rw[hb] at e;cases e
   |some ρ1=>
    rw[hb] at e;cases e;exact⟨m,ρ,S,ds,_,E,R,e1,λm1 H1 vs A1 vd=>⟨m1,ρ,_,ds,E.mono R A1.ext,vd,hb,λσ' E'=>q m1 H1 A1 σ' E'⟩⟩
  ·cases e2
theorem qy{K:W6}{x:XA}{σ:L2.St}{H:Hp}{Q Q':List V->Hp->Prop}(h:tAr K x σ H Q)(f:∀v H',Q v H'->Q' v H'):tAr K x σ H Q':=by
 obtain⟨m,ρ,S,d,S',E,R,e,q⟩:=h;exact⟨m,ρ,S,d,S',E,R,e,λm' H' v A vd=>f _ _ (q m' H' v A vd)⟩
theorem kO{ρ ρ':Rho}{i:Nat}{d:D}(h:(if i < ρ.length then some (ρ.set i (some d)) else none)=some ρ'):ρ'=ρ.set i (some d):=by
 split at h
 ·cases h;rfl
 ·cases h
theorem C8{K:W6}{x:XA}{i j:Nat}{D:Ends}{σ:L2.St}{H:Hp}(h:tSt K (kx (jt ju x) (.tup [.name i,.name j])) D σ H):LI i j (tAr K x) D σ H:=by
 refine qy (qx h) λvs H1 ⟨m1,ρ,ρ',ds,E,vd,e,q⟩=>?_;have hl:=gC _ _ _ _ e
 match ds,hl with
 |[a,c],_=>
  obtain⟨v,w,rfl,va,vc⟩:=v9 vd;refine⟨v,w,rfl,q _ ?_⟩;simp only[aK,au] at e;split at e
  ·rename_i r1 h1;have:=kO h1;subst this;split at e
   ·rename_i r2 h2;have:=kO h2;subst this;cases e;exact(E.set va).set vc
   ·cases e
  ·cases e
theorem OW{K:W6}{m:List Addr}{H:Hp}{a b c:D}{vs:List V}(h:VDs K m H [a,b,c] vs):∃v w z,vs=[v,w,z]/\VD K m H a v/\VD K m H b w/\VD K m H c z:=by
 rw[VDs] at h;obtain⟨v,r,rfl,p,q⟩:=h;obtain⟨w,z,rfl,p',q'⟩:=v9 q;exact⟨v,w,z,rfl,p,p',q'⟩
theorem C9{K:W6}{x:XA}{i j l:Nat}{D:Ends}{σ:L2.St}{H:Hp}(h:tSt K (kx (jt ju x) (.tup [.name i,.name j,.name l])) D σ H):FD i j l (tAr K x) D σ H:=by
 refine qy (qx h) λvs H1 ⟨m1,ρ,ρ',ds,E,vd,e,q⟩=>?_;have hl:=gC _ _ _ _ e
 match ds,hl with
 |[a,c,d],_=>
  obtain⟨v,w,z,rfl,va,vc,vd'⟩:=OW vd;refine⟨v,w,z,rfl,q _ ?_⟩;simp only[aK,au] at e;split at e
  ·rename_i r1 h1;have:=kO h1;subst this;split at e
   ·rename_i r2 h2;have:=kO h2;subst this;split at e
    ·rename_i r3 h3;have:=kO h3;subst this;cases e;exact((E.set va).set vc).set vd'
    ·cases e
   ·cases e
  ·cases e
theorem zL(h:aE T (n+1) b (.ListComp e gs scope p) c=true):∃own elt tg it cond rest t i ifs gs',c = .comp own elt (⟨tg,it,cond⟩::rest)/\gs=⟨t,i,ifs,0⟩::gs' ∧
  cmB own (kF own b.N) b.N scope b.sc=true/\qq T n b t i it=true/\sH (b.inner own scope) t tg=true/\zB (dN T n (b.inner own scope)) ifs cond=true/\mP T n (b.inner own scope) e gs' elt rest=true:=by
 cases c with
 |comp own elt cls=>
  ·obtain⟨tg,it,cond,rest,rfl,hc⟩:=FV h;obtain⟨el,t,i,ifs,gs',scope',p',he,hh⟩:=uo hc;cases he;obtain⟨h0,h1,h2,h3,h4⟩:=an5 hh;exact⟨own,elt,tg,it,cond,rest,t,i,ifs,gs',rfl,rfl,h0,h1,h2,h3,h4⟩
 |_=>exact absurd h Ze
end
section
variable {T:Tab} {C:Calls} {ar:Nat->Nat} {k n:Nat} {b:Blk} {X:Cx}
theorem Da(h:X.env.scope.kind = .function):X.env.blockKind = .function:=by
 unfold Env.blockKind;rw[h];rfl
theorem Db{α:Type}{l:List α}(h:l.length=2):∃a b,l=[a,b]:=by
 match l,h with
 |[a,b],_=>exact⟨a,b,rfl⟩
theorem wK{α:Type}{l:List α}(h:l.length=3):∃a b c,l=[a,b,c]:=by
 match l,h with
 |[a,b,c],_=>exact⟨a,b,c,rfl⟩
theorem Iw(G:CtxOk T C ar k b X)(hk:X.env.scope.kind = .function){tg e:Expr}{t:Tg}{c:CE}{p:Pos}(h:sN T n b tg e t c=true):PS X (.Assign [tg] e p) (tSt X.K (kx (evE C ar n c) t)):=by
 have hb:=Da hk;unfold sN at h;cases t with
 |name i=>
  dsimp only at h;cases hx:zp tg with
  |none=>rw[hx] at h;cases h
  |some r=>
  obtain⟨x,px⟩:=r;rw[hx] at h;rw[oh hx];simp only[bAE] at h;obtain⟨⟨⟨h1,h2⟩,h3⟩,h4⟩:=h;have hi:X.N[i]?=some x:=by rw[G.hN];simpa using h2
  have nd:X.N.Nodup:=by rw[G.hN];exact G.nd
  have o:=G.own h3;have sw:=Io (sc:=b.sc) (v:=e) (t:=x) (pos:=px) (line:=p.line) hb G.hs;cases hw:swW b.sc e x px with
  |false=>
   rw[hw] at sw;exact PS.imp (GG nd hi o.1 ((snd n).e b X e c G h1) sw o.2) λD σ H q=>ou (sD q) λv H' z=>n9 z
  |true=>
   rw[hw] at h4 sw;simp only[YW,Wb,bAE] at h4;obtain⟨h5,h4⟩:=h4;obtain⟨el,gs,scope,pp,rfl,_⟩:=i9 h5
   ·cases n with
    |zero=>exact absurd h1 Ze
    |succ n=>
     obtain⟨own,elt,tg',it,cond,rest,tt,ii,ifs,gs',rfl,rfl,c0,c1,c2,c3,c4⟩:=zL h1;have S:CmScope own (kF own b.N) b.N scope b.sc:=yg _ c0;have S':CmScope own (kF own b.N) X.N scope X.env.scope:=by rw[G.hN,G.hs];exact S
     have hpl:=fP c1 (λe he env=>dP he) X.env;have hx:X.env.scope.names.lookup x=some .local:=by rw[G.hs];simpa using h4
     refine PS.imp (B7 (g:=tTg X.K tg') (ti:=ifT C ar n X.K cond) (t:=λacc=>tCl X.K acc (fY C ar n elt rest)) G.calm S' nd hi hx ((snd n).i [] b X tt ii it G c1) (λC' ex s H=>fQ (G.inner S (C':=C') (ex:=ex) (s:=s) (H:=H)) c2) (λC' ex s H=>kL (snd n) (G.inner S (C':=C') (ex:=ex) (s:=s) (H:=H)) c3)
      (λC' ex s H acc=>(snd n).cl _ _ el gs' elt rest (G.inner S (C':=C') (ex:=ex) (s:=s) (H:=H)) c4 _ scope pp acc 0 rfl) sw hpl) λD σ H q=>?_
     exact ug (λacc D σ H z=>sL z) (pR (ou (sD q) λv H' z=>n9 z))
 |tup gs=>
  dsimp only at h;cases hx:wD tg with
  |none=>rw[hx] at h;cases h
  |some r=>
  obtain⟨ts,kt,pt⟩:=r;rw[hx] at h;rw[oi hx];simp only[bAE] at h;obtain⟨h1,h3⟩:=h;have so:Ua [.Tuple ts kt pt] e p.line X.env=pure false:=qv λx p z=>nomatch z
  have plain:∀ (hw:V8 [.Tuple ts kt pt] e X.env=pure none) (hg:kG b ts gs=true),PS X (.Assign [.Tuple ts kt pt] e p) (tSt X.K (kx (evE C ar n c) (.tup gs))):=λhw hg=>
   PS.imp (xy ((snd n).e b X e c G h1) (fQ G (e:=.Tuple ts kt pt) (t:=.tup gs) hg) so hw rfl) λD σ H q=>sD q
  cases hy:wD e with
  |none=>
   rw[hy] at h3;simp only[bAE] at h3;exact plain (uu (.inl λes k p z=>by rw[z] at hy;cases hy)) h3.2
  |some q=>
   obtain⟨es,ke,pe⟩:=q;rw[hy] at h3;obtain rfl:=oi hy;cases n with
   |zero=>exact absurd h1 Ze
   |succ n=>
    obtain⟨cs,rfl⟩:=zK h1;have ha:=C7 h1;dsimp only at h3;cases hr:ut b.sc ts es with
    |none=>rw[hr] at h3;cases h3
    |some w=>
     have hw:=MH (k:=kt) (p:=pt) (k2:=ke) (p2:=pe) hb G.hs hr;rw[hr] at h3;cases w with
     |none=>exact plain hw h3
     |some ns=>
      dsimp only at h3;cases ht:tgL gs with
      |none=>rw[ht] at h3;cases h3
      |some is=>
       rw[ht] at h3;simp only[bAE] at h3;obtain⟨⟨hn0,hl0⟩,h3⟩:=h3;have hn:nmL ts=some ns:=by simpa using hn0
       have hl:es.length=ns.length:=by simpa using hl0
       clear hn0 hl0;obtain rfl:=zF ht;unfold MI at h3;split at h3
       ·rename_i x y;split at h3
        ·rename_i i j;obtain⟨p1,t1,rfl,hn1⟩:=fm hn;obtain⟨p2,t2,rfl,hn2⟩:=fm hn1;obtain rfl:=uv hn2;obtain⟨a1,a2,rfl⟩:=Db hl;simp only[bAE] at h3;obtain⟨⟨⟨⟨q2,q3⟩,q4⟩,q5⟩,q6⟩:=h3;exact PS.imp (GH (i:=i) (j:=j) G.calm (by rw[G.hN];exact G.nd) (by rw[G.hN];simpa using q2) (by rw[G.hN];simpa using q3) (by simpa using q4) (by rw[G.hs];simpa using q5) (by rw[G.hs];simpa using q6) ((snd n).a b X _ cs G ha) hw so) λD σ H q=>C8 q
        ·cases h3
       ·rename_i x y z;split at h3
        ·rename_i i j l;obtain⟨p1,t1,rfl,hn1⟩:=fm hn;obtain⟨p2,t2,rfl,hn2⟩:=fm hn1;obtain⟨p3,t3,rfl,hn3⟩:=fm hn2;obtain rfl:=uv hn3;obtain⟨a1,a2,a3,rfl⟩:=wK hl;simp only[bAE] at h3;obtain⟨⟨⟨⟨⟨⟨⟨⟨q2,q3⟩,q3'⟩,q4⟩,q4'⟩,q4''⟩,q5⟩,q6⟩,q7⟩:=h3;exact PS.imp (Cb (i:=i) (j:=j) (k:=l) G.calm (by rw[G.hN];exact G.nd) (by rw[G.hN];simpa using q2) (by rw[G.hN];simpa using q3) (by rw[G.hN];simpa using q3') (by simpa using q4) (by simpa using q4') (by simpa using q4'') (by rw[G.hs];simpa using q5) (by rw[G.hs];simpa using q6) (by rw[G.hs];simpa using q7) ((snd n).a b X _ cs G ha) hw so) λD σ H q=>C9 q
        ·cases h3
       ·cases h3
theorem zM{line:Nat}(h:oB v=false):V9 v none line X.env=pure false:=by
 unfold V9;cases v <;> first |rfl |(exact absurd h (λz=>Ze z.symm))
structure SndS(T:Tab)(C:Calls)(ar:Nat->Nat)(k n:Nat):Prop where
 s:∀ (b:Blk) (X:Cx) (s:Stmt) (c:CS),CtxOk T C ar k b X->X.env.scope.kind = .function->MS T n b s c=true->PS X s (tSt X.K (evS C ar n c))
 ss:∀ (b:Blk) (X:Cx) (s:List Stmt) (c:List CS),CtxOk T C ar k b X->X.env.scope.kind = .function->kN T n b s c=true->PSs X s (tSt X.K (eR C ar n c))
theorem MU{K:W6}{D:Ends}{σ:L2.St}{H:Hp}(h:tSt K C4 D σ H):False:=by
 obtain⟨m,ρ,S,fl,ρ',S',E,R,e,q⟩:=h;cases e
theorem MV:∀n,SndS T C ar k n
 |0=>⟨λb X s c _ _ h=>absurd h Ze,λb X s c _ _ h=>absurd h Ze⟩
 |n+1=>by
  have ih:=MV n;refine⟨λb X s c G hk h=>?_,λb X ss cs G hk h=>?_⟩
  ·have hp:PassesOwn (model X.prog X.w) X.A X.env X.xe:=by rw[G.xe];exact PassesOwn.never
   cases c with
   |asg t e=>obtain⟨tg,v,p,rfl,h1⟩:=Iq h;exact Iw G hk h1
   |setI v o i=>
    obtain⟨x,y,px,z,p,rfl,h1,h2,h3,pl⟩:=C6 h
    exact PS.imp (xy ((snd n).e b X z v G h1) (GF ((snd n).e b X x o G h2) ((snd n).e b X y i G h3) (Mi (kM G.room)) (λv=>by
     cases y <;> first | rfl | (exact absurd pl Ze))) (qv λx p z=>nomatch z) (uu (.inr (.inr ⟨_,_,_,rfl⟩))) rfl) λD σ H q=>CJ q
   |ex e=>obtain⟨v,p,rfl,h1,h2⟩:=MQ h;exact PS.imp (BG ((snd n).e b X v e G h1) (zM h2)) λD σ H q=>CH q
   |ret e=>obtain⟨v,p,rfl,h1⟩:=Ir h;exact PS.imp (Gz ((snd n).e b X _ _ G h1)) λD σ H q=>HH q
   |ifs c x y=>obtain⟨t,p,q,r,rfl,h1,h2,h3⟩:=MR h;exact PS.imp (LB ((snd n).t b X _ _ G h1) (ih.ss b X _ _ G hk h2) (ih.ss b X _ _ G hk h3)) λD σ H q=>Mq q
   |for_ t it x=>
    obtain⟨tg,i,p,pos,rfl,h1,h2⟩:=Iu h;have h1:=an2 h1;exact PS.imp (GJ hp G.calm ((snd n).i [] b X _ _ _ G h1.1) (fQ G h1.2) (ih.ss b X _ _ G hk h2) (fP h1.1 (λe he env=>dP he) X.env)) λD σ H q=>HJ q
   |while_ c x=>obtain⟨t,p,q,rfl,h1,h2⟩:=zJ h;exact PS.imp (xD hp ((snd n).t b X _ _ G h1) (ih.ss b X _ _ G hk h2)) λD σ H q=>yV q
   |cnt=>obtain⟨p,rfl⟩:=Iv h;exact PS.imp o8 λD σ H q=>HI q
   |never=>exact PS.imp xu λD σ H q=>(MU q).elim
  ·cases cs with
   |nil=>rw[dM h];exact PSs.imp BF λD σ H q=>CG q
   |cons c cs=>
    obtain⟨s,ss,rfl,h⟩:=dJ h;have h:=an2 h;exact PSs.imp (xt (ih.s b X s c G hk h.1) (ih.ss b X ss cs G hk h.2)) λD σ H q=>HG q
end
structure DefE where
 x:Str
 st:Stmt
 N:List Str
 ps:List Str
 body:List CS
abbrev FU:Nat:=60
abbrev eS(ac:List DefE)(f:Nat):Nat:=match ac[f]? with
 |some d=>d.ps.length
 |none=>0
abbrev Ix(C:Calls)(ar:Nat->Nat)(d:DefE)(ds:List D)(S:Sto):Option (D × Sto):=
 match eR C ar FU d.body (ds.map some++Zu (d.N.length - ds.length) none) S with
 |some (.rt v,_,S')=>some (v,S')
 |some (.nx,_,S')=>some (.non,S')
 |_=>none
abbrev evC(ac:List DefE):Nat->Calls
 |0=>λ_ _ _=>none
 |k+1=>λf ds S=>match ac[f]? with
  |some d=>Ix (evC ac k) (eS ac) d ds S
  |none=>none
abbrev zN(N ps:List Str)(sc:Scope):Bool:=sc.kind == .function && sc.isCoroutine == false && sc.isGenerator == false && iE N && N.take ps.length == ps && (ps.all λx=>sc.names.lookup x == some .local || sc.names.lookup x == some .cell) && sc.names.all λy=>y.2 != .free
theorem Dc{N ps:List Str}{sc:Scope}(h:zN N ps sc=true):FnScope N ps sc:=by
 unfold zN at h;simp only[bAE,Yi] at h;obtain⟨⟨⟨⟨⟨⟨h1,h2⟩,h3⟩,h4⟩,h5⟩,h6⟩,h7⟩:=h;refine⟨by simpa using h1,by simpa using h2,by simpa using h3,g5 h4,by simpa using h5,λx hx=>?_,λy hy=>by simpa using h7 y hy⟩;have:=h6 x hx
 simpa using this
abbrev Dd(T:Tab)(d:DefE):Bool:=zN d.N d.ps (a8 d.st) && kN T FU ⟨a8 d.st,none,d.N⟩ (b9 d.st) d.body
abbrev ux(con:List (Str × Int))(ac:List DefE):Tab:=⟨con,ac.map λd=>(d.x,d.ps.length)⟩
structure TextOk(K:W6)(mg:Str->Option Value)(con:List (Str × Int))(ac:List DefE):Prop where
 con:∀ (i:Nat) (x:Str) (v:Int),con[i]?=some (x,v)->∃tk,mg x=some (.int v tk)
 bl:∀x,x ∈ hV->mg x=none
 fn:∀ (i:Nat) (d:DefE),ac[i]?=some d->∃f fd,mg d.x=some (.ref f)/\Vc K (.ref f)=true/\ma K fd d.ps []/\Fun K d.x d.x d.st f fd
section
variable {P:Program} {w:World} {K:W6} {mg:Str->Option Value} {base:Heap} {con:List (Str × Int)} {ac:List DefE}
theorem De{f:Addr}{fd:WN}{ps:List Str}{i n:Nat}:FnOk P w K mg base CX0 0 f fd ps (spC K (evC ac 0 i) n):=
 ⟨λvs H Q E h=>(by obtain⟨m,ds,S,d,S',_,_,_,e,_⟩:=h;cases e),λA outer s H args us vs Q E _ _ _ _ h=>(by obtain⟨m,ds,S,d,S',_,_,_,e,_⟩:=h;cases e)⟩
theorem wL{m:List Addr}{H:Hp}{N:List Str}{ds:List D}{vs:List V}(vd:VDs K m H ds vs):EnvR K m H (ds.map some++Zu (N.length - ds.length) none) (L2.f8 N vs):=by
 have hl:=vd.length;unfold L2.f8;refine⟨by simp[hl],λi d e=>?_⟩;by_cases hi:i < ds.length
 ·rw[Zt (by simpa using hi),Zs] at e;cases h:ds[i]? with
  |none=>rw[h] at e;cases e
  |some d'=>
   rw[h] at e;cases e;obtain⟨v,hv,vv⟩:=vd.get h;exact⟨v,by rw[Zt (by simp;omega),Zs,hv];rfl,vv⟩
 ·rw[Zo (by simpa using hi),Yt] at e;split at e <;> cases e
theorem uy(T:TextOk K mg con ac)(hc:ac.all (Dd (ux con ac))=true):∀ (k i:Nat) (d:DefE),ac[i]?=some d->∀f fd,mg d.x=some (.ref f)->Fun K d.x d.x d.st f fd->FnOk P w K mg base CX0 k f fd d.ps (spC K (evC ac k i) d.ps.length)
 |0,i,d,_,f,fd,_,_=>De
 |k+1,i,d,hd,f,fd,hm,F=>by
  have ih:=uy T hc k;have ck:=Yi.mp hc d (Zi hd);unfold Dd at ck;rw[bAE] at ck;have S:=Dc ck.1;refine F.ok S (λvs H Q E h=>?_) λcdv A outer s H vs Q E hr h=>?_
  ·obtain⟨m,ds,S,d',S',vd,_,hl,_⟩:=h;rw[<-vd.length,hl]
  ·have G:CtxOk (ux con ac) (evC ac k) (eS ac) k ⟨a8 d.st,none,d.N⟩ (rq CX0 P w K mg base d.N d.x (a8 d.st) f cdv A outer s H E).nox:=by
    refine⟨rfl,rfl,rfl,rfl,S.nd,λ_ _=>rfl,hr,T.con,T.bl,λj y hy=>?_⟩;have hy':(ac.map λd=>(d.x,d.ps.length))[j]?=some y:=hy;rw[Zs] at hy';cases hj:ac[j]? with
    |none=>rw[hj] at hy';cases hy'
    |some e=>
     rw[hj] at hy';cases hy';have ha:eS ac j=e.ps.length:=by unfold eS;rw[hj]
     obtain⟨f',fd',m',k',b',F'⟩:=T.fn j e hj;refine⟨ha,f',fd',e.ps,m',k',b',?_⟩;rw[ha];exact ih j e hj f' fd' m' F'
   refine⟨_,(MV FU).ss _ _ (b9 d.st) d.body G S.kind ck.2,?_⟩;obtain⟨m,ds,S0,r,S',vd,R,hl,e,q⟩:=h;simp only[evC,hd,Ix] at e;cases hx:eR (evC ac k) (eS ac) FU d.body (ds.map some++Zu (d.N.length - ds.length) none) S0 with
   |none=>rw[hx] at e;cases e
   |some z=>
    obtain⟨fl,ρ',S1⟩:=z;rw[hx] at e;refine⟨m,_,S0,fl,ρ',S1,wL vd,R,hx,λm' H' A'=>?_⟩;cases fl with
    |nx=>cases e;exactλσ _=>q m' H' .non A' nM
    |rt v=>cases e;exactλu vu=>q m' H' u A' vu
    |bk=>cases e
    |ct=>cases e
end
@[inline]abbrev uz:=(Str × Str) × (Arguments × List Stmt) × (Scope × Addr) × (List (Str × Addr) × Value) × (Addr × Option Str)
abbrev FY(h:Heap):Value->Option Str
 | .ref c=>(match h.get? c with
  |some ⟨_,_,.fields vs,_⟩=>(match vs.toList with |_ :: .str n _::_=>some n |_=>none)
  | _=>none)
 |_=>none
abbrev MW(h:Heap):Option Obj->Option uz
 |some ⟨_,_,.func ⟨nm,qn,ps,.stmts b,sc,gl,cl,dv,_,_,_,_,cd,_,bi⟩,_⟩=>some ((nm,qn),(ps,b),(sc,gl),(cl,dv),(bi,FY h cd))
 |_=>none
abbrev Df(h:Heap)(x:Str):Option uz:=match h.nsMap VN x with
 |some (.ref f)=>MW h (h.get? f)
 |_=>none
abbrev uA(d:DefE):Option uz:=some ((d.x,d.x),(dE d.st,b9 d.st),(a8 d.st,VN),([],.none),(Vu,some d.x))
abbrev MX(h:Heap)(x:Str):Option Int:=match h.nsMap VN x with
 |some (.int v _)=>some v
 |_=>none
@[inline]abbrev zO:=Bool × List (Option uz) × List (Option Int) × List Bool
abbrev Iy(con:List (Str × Int))(ac:List DefE)(h:Heap):zO:=(h.isNs VN,ac.map (λd=>Df h d.x),con.map (λc=>MX h c.1),hV.map λx=>(h.nsMap VN x).isNone)
abbrev zP(con:List (Str × Int))(ac:List DefE):zO:=(true,ac.map uA,con.map (λc=>some c.2),hV.map λ_=>true)
def FZ(d:DefE):Prop:=∀ (kV doc pm:Value) (an:Option Addr) (cdv ct:Value) (us:List Value),us.length=d.ps.length->bindArgs (Va d.x d.x (dE d.st) (b9 d.st) (a8 d.st) .none kV doc pm an cdv ct) ⟨us,[]⟩=pure (d.ps.zip us)
def wM:List DefE->Prop
 |[]=>True
 |d::ds=>FZ d/\wM ds
theorem wM.at:∀ {ds:List DefE} {d:DefE},wM ds->d ∈ ds->FZ d
 |e::ds,d,h,hd=>by
  rcases Zn.mp hd with rfl |hd
  ·exact h.1
  ·exact wM.at h.2 hd
abbrev mV(h:Heap)(f:Addr):W6:=match h.get? f with
 | some o=>(f,o)::(match o.data with
  | .func fd=>(match fd.code with
   |.ref c=>(match h.get? c with |some oc=>[(c,oc)] |none=>[])
   | _=>[])
  | _=>[])
 |none=>[]
abbrev cQ(h:Heap)(d:DefE):W6:=match h.nsMap VN d.x with
 |some (.ref f)=>mV h f
 |_=>[]
def MY(K:W6):Prop:=∀a o,K.lookup a=some o->∀its n,o.data ≠ .seq its n
structure Says(con:List (Str × Int))(ac:List DefE)(h:Heap):Prop where
 ns:∃m,h.Ns VN m
 frag:∃K:W6,K.In h/\MY K/\∀mg,h.Ns VN mg->TextOk K mg con ac
theorem kP{K:W6}{a:Addr}{o:Obj}(h:K.lookup a=some o):(a,o) ∈ K:=by
 induction K with
 |nil=>cases h
 |cons p K ih=>
  obtain⟨b,q⟩:=p;rw[Yv] at h;cases hb:a == b with
  |true=>
   rw[hb] at h;cases h;have:a=b:=by simpa using hb
   subst this;exact Zh
  |false=>rw[hb] at h;exact Zf _ (ih h)
theorem zQ{K:W6}{a:Addr}{o:Obj}(h:(a,o) ∈ K):∃o',K.lookup a=some o':=by
 induction K with
 |nil=>cases h
 |cons p K ih=>
  obtain⟨b,q⟩:=p;rw[Yv];cases hb:a == b with
  |true=>exact⟨_,rfl⟩
  |false=>
   rcases Zn.mp h with e |h
   ·cases e;simp at hb
   ·exact ih h
theorem zR{h:Heap}{f a:Addr}{o:Obj}(e:(a,o) ∈ mV h f):h.get? a=some o:=by
 unfold mV at e;cases hf:h.get? f with
 |none=>rw[hf] at e;cases e
 |some of=>
  rw[hf] at e;dsimp only at e;rcases Zn.mp e with q |e
  ·cases q;exact hf
  ·split at e
   ·split at e
    ·rename_i c hc;cases hc':h.get? c with
     |none=>rw[hc'] at e;cases e
     |some oc=>
      rw[hc'] at e;dsimp only at e;rcases Zn.mp e with q |e
      ·cases q;exact hc'
      ·cases e
    ·cases e
   ·cases e
theorem Iz{h:Heap}{a:Addr}{mg:Str->Option Value}(N:h.Ns a mg):h.nsMap a=mg:=by
 obtain⟨o,es,ep,ho,hd,_,hm⟩:=N
 funext x
 unfold Heap.nsMap;rw[ho];dsimp only;rw[hd];exact hm x
theorem zS{h:Heap}{d:DefE}(e:Df h d.x=uA d):∃f oc od kV doc pm an c ct osl cc cd vs a t r cs,h.nsMap VN d.x=some (.ref f)/\h.get? f=some ⟨oc,od,.func (Va d.x d.x (dE d.st) (b9 d.st) (a8 d.st) .none kV doc pm an (.ref c) ct),osl⟩ ∧
  h.get? c=some ⟨cc,cd,.fields vs,cs⟩/\vs.toList=a :: .str d.x t::r:=by
 unfold Df uA at e;split at e
 ·rename_i f hf;unfold MW at e;split at e
  ·rename_i oc od nm qn ps b sc gl cl dv kV doc pm an cdv ct bi osl hg;simp only[Option.some.injEq,Prod.mk.injEq] at e;obtain⟨⟨rfl,rfl⟩,⟨rfl,rfl⟩,⟨rfl,rfl⟩,⟨rfl,rfl⟩,rfl,e⟩:=e;unfold FY at e;split at e
   ·rename_i c;split at e
    ·rename_i cc cd vs cs hc;split at e
     ·rename_i a n t r hv;cases e;exact⟨f,oc,od,kV,doc,pm,an,c,ct,osl,cc,cd,vs,a,t,r,cs,hf,hg,hc,hv⟩
     ·cases e
    ·cases e
   ·cases e
  ·cases e
 ·cases e
theorem Dg{con:List (Str × Int)}{ac:List DefE}(hb:wM ac){h:Heap}(e:Iy con ac h=zP con ac):Says con ac h:=by
 unfold Iy zP at e;simp only[Prod.mk.injEq] at e;obtain⟨e0,e1,e2,e3⟩:=e;have N:=Heap.Ns.of_isNs e0;have D:∀d ∈ ac,Df h d.x=uA d:=λd hd=>Xc.mp e1 d hd
 have inK:∀a o,(a,o) ∈ ac.flatMap (cQ h)->h.get? a=some o:=λa o he=>by
  obtain⟨d,hd,he⟩:=Yk.mp he;obtain⟨f,oc,od,kV,doc,pm,an,c,ct,osl,cc,cd,vs,a',t,r,cs,g1,g2,g3,g4⟩:=zS (D d hd);unfold cQ at he;rw[g1] at he;exact zR he
 have lk:∀a o,(a,o) ∈ ac.flatMap (cQ h)->(ac.flatMap (cQ h)).lookup a=some o:=λa o he=>by
  obtain⟨o',q⟩:=zQ he;have z:=inK a o' (kP q);rw[inK a o he] at z;cases z;exact q
 refine⟨⟨_,N⟩,ac.flatMap (cQ h),λa o q=>inK a o (kP q),λa o q its n hs=>?_,λmg G=>?_⟩
 ·obtain⟨d,hd,he⟩:=Yk.mp (kP q);obtain⟨f,oc,od,kV,doc,pm,an,c,ct,osl,cc,cd,vs,a',t,r,cs,g1,g2,g3,g4⟩:=zS (D d hd);unfold cQ at he;rw[g1] at he;dsimp only at he;unfold mV at he;rw[g2] at he;dsimp only at he;rw[g3] at he;dsimp only at he;rcases Zn.mp he with z |he
  ·cases z;cases hs
  ·rcases Zn.mp he with z |he
   ·cases z;cases hs
   ·cases he
 ·have hm:=Iz G;refine⟨λi x v hi=>?_,λx hx=>?_,λi d hi=>?_⟩
  ·have z:=Xc.mp e2 (x,v) (Zi hi);unfold MX at z;rw[hm] at z;dsimp only at z;split at z
   ·rename_i v' t hv;cases z;exact⟨t,hv⟩
   ·cases z
  ·have z:=Xc.mp e3 x hx;rw[hm] at z
   simpa using z
  ·have hd:=Zi hi;obtain⟨f,oc,od,kV,doc,pm,an,c,ct,osl,cc,cd,vs,a',t,r,cs,g1,g2,g3,g4⟩:=zS (D d hd)
   have m1:(f,_) ∈ ac.flatMap (cQ h):=Yk.mpr ⟨d,hd,by
    show _ ∈ cQ h d;unfold cQ;rw[g1];dsimp only;unfold mV;rw[g2];exact Zh⟩
   have m2:(c,_) ∈ ac.flatMap (cQ h):=Yk.mpr ⟨d,hd,by
    show _ ∈ cQ h d;unfold cQ;rw[g1];dsimp only;unfold mV;rw[g2];dsimp only;rw[g3];exact Zf _ Zh⟩
   have l1:=lk _ _ m1;have l2:=lk _ _ m2;have kp:Vc (ac.flatMap (cQ h)) (.ref f)=true:=by unfold Vc;dsimp only;rw[l1]
   have cdI:W8 (ac.flatMap (cQ h)) (.ref c) d.x=true:=by
    unfold W8;dsimp only;rw[l2];dsimp only;rw[g4];simp
   have F:=G6 (st:=d.st) (x:=d.x) (qual:=d.x) l1 cdI kp;refine⟨f,_,by rw[<-hm];exact g1,kp,F.binds (hb.at hd),F⟩
theorem sO{con:List (Str × Int)}{ac:List DefE}{h h':Heap}(x:Says con ac h)(k:∀b o,h.get? b=some o->h'.get? b=some o):Says con ac h':=by
 obtain⟨⟨m,N⟩,K,KX,ns,T⟩:=x
 have back:∀mg,h'.Ns VN mg->h.Ns VN mg:=λmg ⟨o,es,ep,ho,r⟩=>by
  obtain⟨o',es',ep',ho',r'⟩:=N;have z:=k _ _ ho';rw[ho] at z;cases z;exact⟨o,es,ep,ho',r⟩
 refine⟨⟨m,let ⟨o,es,ep,ho,r⟩:=N;⟨o,es,ep,k _ _ ho,r⟩⟩,K,λa o q=>k _ _ (KX a o q),ns,λmg G=>T mg (back mg G)⟩
abbrev oC(con:List (Str × Int))(ac:List DefE)(hb:wM ac):PySem.W.Hook:=
 ⟨zO,λs=>Iy con ac s.heap,λ_=>zP con ac,λ_ h=>Says con ac h,λ_ _ e=>Dg hb e,λ_ _ _ x k=>sO x k⟩
theorem kQ{K:W6}{m:List Addr}{H:Hp}:∀ns:List Int,VDs K m H (ns.map D.int) (ns.map V.int)
 |[]=>by rw[Ye,Ye,VDs]
 |a::l=>by rw[Zz,Zz,VDs];exact⟨_,_,rfl,a9,kQ l⟩
theorem Dh{l:PySem.W.OpenLaw}{n k i:Nat}{q:Program}{loose:List Str}{XP:(Str->Option Value)->Heap->Prop}{d:DefRec}{con:List (Str × Int)}{ac:List DefE}{hb:wM ac}{dl:DefE}{x:Str}
  (hn:l.most=some n) (hn2:n<=sizeLine) (hdf:d.params.defaults=[]) (hr:Room k callerA) (hx:d.name=dl.x) (hi:ac[i]?=some dl) (hps:dl.ps=[x]) (hc:ac.all (Dd (ux con ac))=true)
  (main:∀ns:List Int,ns.length<=n->∃S',evC ac k i [.ref 0] [.frz (ns.map D.int)]=some (.bl true,S')) :
  PySem.W.WalkO q loose XP (oC con ac hb).says l.row.toRowW d [] (λf vs=>PySem.call f vs):=by
 refine Att.attach_call hn hdf λw s₀ s₁ mg mb fa o pm cd doc a vs ns G Y ho hd hcd hmg hobj hints hlen hg=>?_;obtain⟨_,K,KX,noS,T⟩:=(show Says con ac s₁.heap from Y);have T:=T mg G.T.g;obtain⟨f,fd,hm,kp,_,F⟩:=T.fn i dl hi;rw[hx] at hmg;rw[hmg] at hm;cases hm
 have bd:∀ (s:Shared) (u:Value),BindsTo s fd ⟨[u],[]⟩ [(x,u)]:=λs u=>by
  obtain⟨oc,od,kV,doc,pm,an,cdv,ct,osl,rfl,lk,hcd⟩:=F.ex;have z:=(hb.at (Zi hi)) kV doc pm an cdv ct [u] (by rw[hps];rfl);rw[hps] at z;exact .of_eq z
 refine xW (CX:=CX0) (sp:=spC K (evC ac k i) dl.ps.length) KX G.T.g G.T.b G.T.builtins G.T.nolimit hg hobj hints (ZI hlen hn2) hr (λbase _ _=>by
  have:=uy (P:=l.row.toRowW.prog) (w:=w) (base:=base) T hc k i dl hi fa fd hmg F;rw[hps] at this ⊢;exact this) bd (λH hO hS=>?_) λH e s' z=>z
 have fz:∃o,H a=some (.frz o (.lst (ns.map V.int))):=by
  rcases hS with (z |⟨o,z⟩) |⟨o,its,n',hk,hc,hdd,hdt,_⟩
  ·rcases hO a with y |⟨o',xs,y⟩
   ·rw[y] at z;cases z
   ·rw[y] at z;cases z
  ·exact⟨o,z⟩
  ·exact absurd hdt (noS a o hk its n')
 obtain⟨o,fz⟩:=fz;obtain⟨S',e⟩:=main ns hlen;refine⟨[a],[.ref 0],[.frz (ns.map D.int)],.bl true,S',?_,⟨rfl,by simp,λj ob ej=>?_⟩,by rw[hps];rfl,e,λm' H' v A vv=>vv.bls⟩
 ·rw[VDs];exact⟨_,_,rfl,by rw[VD];exact⟨a,rfl,rfl⟩,by rw[VDs]⟩
 ·cases j with
  |zero=>cases ej;exact⟨a,rfl,o,_,fz,kQ ns⟩
  |succ j=>simp at ej
end Ev
namespace Lw
open PySem Ev
abbrev top(i:Nat):Stmt:=PySem.Challenge.pw_downrings_k36_best_by_all_orders.main.body.getD i (.Pass ⟨0,0,0,0⟩)
abbrev kR:List CS:=[.ret (.and (.inst .int (.var 0)) (.not (.inst .bool (.var 0))))]
abbrev ja:List CS:=[.ret (.and (.call 0 [.var 0]) (.chn .le .le (.var 1) (.var 0) (.var 2)))]
abbrev jb:List CS:=[.ret (.call 1 [.var 0,.int 0,.con 0 9999])]
abbrev kS:List CS:=[.ret (.and (.inst .tuple (.var 0)) (.chn .le .le (.var 1) (.len (.var 0)) (.var 2)))]
abbrev hZ:List CS:=[.ifs (.or (.not (.call 3 [.var 0,.int 0,.var 1])) (.not (.all (.comp ["number"] (.call 1 [.var 2,.int 0,.bin .sub (.var 1) (.int 1)]) [⟨.name 2,.val (.var 0),none⟩])))) [.ret (.bl false)] [],.ret (.all (.comp ["number"] (.cmp .eq (.cnt (.var 0) (.var 2)) (.int 1)) [⟨.name 2,.val (.var 0),none⟩]))]
abbrev mW:List CS:=[.ret (.tupOf (.comp ["other"] (.var 2) [⟨.name 2,.val (.var 0),some (.cmp .ne (.var 2) (.var 1))⟩]))]
abbrev jc:List CS:=[.ifs (.not (.call 3 [.var 0,.int 4,.int 4])) [.ret (.bl false)] [],.asg (.tup [.name 1,.name 2,.name 3,.name 4]) (.var 0),.ret (.and (.call 1 [.var 1,.int 0,.con 1 8]) (.and (.call 1 [.var 2,.int 0,.con 2 60]) (.and (.call 7 [.var 3]) (.call 10 [.var 4]))))]
abbrev kT:List CS:=[.ifs (.not (.call 3 [.var 0,.int 1,.con 3 4])) [.ret (.bl false)] [],.ret (.and (.all (.comp ["row"] (.call 8 [.var 1,.len (.var 0)]) [⟨.name 1,.val (.var 0),none⟩])) (.call 9 [.var 0]))]
abbrev ia:List CS:=[.ret (.and (.call 3 [.var 0,.var 1,.var 1]) (.all (.comp ["gap"] (.call 1 [.var 2,.int 1,.con 4 99]) [⟨.name 2,.val (.var 0),none⟩])))]
abbrev bH:List CS:=[.asg (.name 1) (.listR (.len (.var 0))),.ret (.all (.comp ["a", "b", "c"] (.cmp .le (.ix (.ix (.var 0) (.var 2)) (.var 3)) (.bin .add (.ix (.ix (.var 0) (.var 2)) (.var 4)) (.ix (.ix (.var 0) (.var 4)) (.var 3)))) [⟨.name 2,.val (.var 1),none⟩,⟨.name 3,.val (.var 1),none⟩,⟨.name 4,.val (.var 1),none⟩]))]
abbrev jd:List CS:=[.ifs (.or (.not (.call 3 [.var 0,.int 0,.con 5 4])) (.not (.all (.comp ["part"] (.call 11 [.var 1]) [⟨.name 1,.val (.var 0),none⟩])))) [.ret (.bl false)] [],.ret (.all (.comp ["at"] (.cmp .gt (.ix (.ix (.var 0) (.var 1)) (.int 0)) (.ix (.ix (.var 0) (.bin .sub (.var 1) (.int 1))) (.int 1))) [⟨.name 1,.r2 (.int 1) (.len (.var 0)),none⟩]))]
abbrev ib:List CS:=[.ret (.and (.call 3 [.var 0,.int 2,.int 2]) (.and (.call 2 [.ix (.var 0) (.int 0)]) (.and (.call 2 [.ix (.var 0) (.int 1)]) (.cmp .lt (.ix (.var 0) (.int 0)) (.ix (.var 0) (.int 1))))))]
abbrev mX:List CS:=[.ret (.call 1 [.var 1,.int 0,.bin .sub (.len (.ix (.var 0) (.int 2))) (.int 1)])]
abbrev dA:List CS:=[.for_ (.tup [.name 2,.name 3]) (.val (.ix (.var 0) (.int 3))) [.ifs (.chn .le .lt (.var 2) (.var 1) (.var 3)) [.ret (.var 3)] []],.ret (.var 1)]
abbrev qz:List CS:=[.ifs (.not (.call 3 [.var 0,.int 4,.int 4])) [.ret (.bl false)] [],.asg (.tup [.name 1,.name 2,.name 3,.name 4]) (.var 0),.ret (.and (.call 6 [.var 1]) (.and (.call 15 [.var 1,.var 2]) (.and (.call 16 [.var 1,.var 3]) (.call 18 [.var 3,.var 4]))))]
abbrev kU:List CS:=[.ifs (.cmp .is (.var 1) .non) [.ret (.bl true)] [],.ret (.and (.call 3 [.var 1,.int 2,.int 2]) (.and (.call 12 [.var 0,.ix (.var 1) (.int 0)]) (.call 2 [.ix (.var 1) (.int 1)])))]
abbrev ga:List CS:=[.ret (.and (.call 3 [.var 1,.int 0,.con 6 7]) (.all (.comp ["part"] (.call 17 [.var 0,.var 2]) [⟨.name 2,.val (.var 1),none⟩])))]
abbrev je:List CS:=[.ifs (.not (.call 3 [.var 1,.int 7,.int 7])) [.ret (.bl false)] [],.asg (.tup [.name 2,.name 3,.name 4,.name 5,.name 6,.name 7,.name 8]) (.var 1),.ifs (.not (.all (.comp ["minute"] (.call 2 [.var 9]) [⟨.name 9,.val (.tup [.var 3,.var 4,.var 5,.var 6]),none⟩]))) [.ret (.bl false)] [],.ifs (.not (.chn .le .le (.bin .add (.var 3) (.ix (.var 0) (.int 1))) (.var 4) (.var 5))) [.ret (.bl false)] [],.ret (.and (.call 12 [.var 0,.var 2]) (.and (.call 1 [.var 7,.int 0,.con 7 99]) (.call 1 [.var 8,.int 0,.ix (.var 0) (.int 0)])))]
abbrev jf:List CS:=[.ifs (.not (.call 4 [.var 1,.len (.var 0)])) [.ret (.bl false)] [],.ret (.all (.comp ["number", "glider"] (.or (.cmp .eq (.ix (.var 3) (.int 6)) (.int 0)) (.cmp .isin (.var 2) (.var 1))) [⟨.tup [.name 2,.name 3],.en (.var 0),none⟩]))]
abbrev jg:List CS:=[.ret (.tupOf (.comp ["number"] (.var 1) [⟨.name 1,.r1 (.len (.ix (.var 0) (.int 2))),some (.cmp .notin (.var 1) (.ix (.var 0) (.int 3)))⟩]))]
abbrev jh:List CS:=[.ifs (.not (.call 14 [.var 0])) [.never] []]
abbrev gf:List CS:=[.asg (.tup [.name 2,.name 3,.name 4,.name 5,.name 6,.name 7,.name 8]) (.var 0),.ret (.bin .mul (.var 7) (.mx (.int 0) (.bin .sub (.var 1) (.var 6))))]
abbrev eO:List CS:=[.ifs (.not (.var 1)) [.ret (.ix (.var 0) (.int 1))] [],.asg (.tup [.name 2,.name 3]) (.ix (.var 1) (.neg (.int 1))),.ret (.tup [.ix (.ix (.ix (.var 0) (.int 2)) (.var 2)) (.int 0),.var 3])]
abbrev mY:List CS:=[.ifs (.cmp .is (.var 1) .non) [.ret (.int 0)] [],.ret (.bin .add (.ix (.var 1) (.int 1)) (.ix (.ix (.ix (.ix (.var 0) (.int 0)) (.int 2)) (.ix (.var 1) (.int 0))) (.var 2)))]
abbrev kW:List CS:=[.asg (.tup [.name 3,.name 4]) (.var 1),.ret (.chn .le .lt (.ix (.ix (.ix (.var 0) (.int 2)) (.var 3)) (.int 1)) (.var 2) (.bin .sub (.var 4) (.ix (.ix (.var 0) (.int 0)) (.int 1))))]
abbrev eP:List CS:=[.ret (.len (.comp ["landing"] (.var 3) [⟨.name 3,.val (.var 1),some (.call 24 [.var 0,.var 3,.var 2])⟩]))]
abbrev cR:List CS:=[.ret (.srt (.comp ["glider"] (.ix (.var 1) (.int 1)) [⟨.name 1,.val (.ix (.var 0) (.int 2)),none⟩]))]
abbrev gg:List CS:=[.asg (.tup [.name 3,.name 4,.name 5,.name 6,.name 7,.name 8,.name 9]) (.ix (.ix (.var 0) (.int 2)) (.ix (.ix (.var 1) (.var 2)) (.int 0))),.ret (.and (.cmp .gt (.var 9) (.int 0)) (.and (.call 24 [.var 0,.ix (.var 1) (.var 2),.var 4]) (.cmp .gt (.call 28 [.var 0,.var 1,.var 2,.var 4]) (.var 9))))]
abbrev gh:List CS:=[.asg (.name 4) (.sl (.var 1) none (some (.var 2))),.asg (.name 5) (.comp ["when"] (.var 6) [⟨.name 6,.val (.call 26 [.var 0]),some (.and (.cmp .gt (.var 6) (.var 3)) (.call 24 [.var 0,.ix (.var 1) (.var 2),.var 6]))⟩]),.ret (.mxL (.comp ["when"] (.bin .add (.int 1) (.call 25 [.var 0,.var 4,.var 6])) [⟨.name 6,.val (.bin .add (.lst [.var 3]) (.var 5)),none⟩]))]
abbrev cH:List CS:=[.asg (.name 2) (.lst []),.for_ (.tup [.name 3,.name 4]) (.en (.var 1)) [.asg (.name 5) (.call 31 [.var 0,.call 22 [.var 0,.var 2],.var 4,.var 3]),.ifs (.cmp .is (.var 5) .non) [.ret (.var 2)] [],.ex (.app (.var 2) (.tup [.var 4,.var 5])),.ifs (.call 27 [.var 0,.var 2,.var 3]) [.ret (.sl (.var 2) none (some (.var 3)))] []],.ret (.var 2)]
abbrev dB:List CS:=[.asg (.name 1) (.call 29 [.var 0,.ix (.var 0) (.int 3)]),.ret (.ite (.cmp .eq (.len (.var 1)) (.len (.ix (.var 0) (.int 3)))) (.var 1) .non)]
abbrev dC:List CS:=[.asg (.tup [.name 4,.name 5,.name 6,.name 7,.name 8,.name 9,.name 10]) (.ix (.ix (.var 0) (.int 2)) (.var 2)),.asg (.name 11) (.call 13 [.ix (.var 0) (.int 0),.mx (.var 6) (.call 23 [.var 0,.var 1,.var 4])]),.ifs (.or (.cmp .gt (.var 11) (.var 7)) (.call 32 [.var 0,.var 3,.var 11])) [.ret .non] [],.ret (.var 11)]
abbrev cS:List CS:=[.asg (.tup [.name 3,.name 4,.name 5,.name 6]) (.ix (.var 0) (.int 0)),.asg (.name 7) (.call 26 [.var 0]),.asg (.name 8) (.bin .add (.var 3) (.var 1)),.ret (.and (.cmp .lt (.var 8) (.len (.var 7))) (.cmp .gt (.bin .sub (.var 2) (.var 4)) (.ix (.var 7) (.var 8))))]
abbrev ic:List CS:=[.ex (.call 20 [.var 0]),.ret (.call 35 [.call 36 [.var 0,.str "last"]])]
abbrev ie:List CS:=[.ex (.call 20 [.var 0]),.ret (.call 35 [.call 36 [.var 0,.str "cost"]])]
abbrev zT:List CS:=[.ifs (.cmp .is (.var 0) .non) [.ret .non] [],.asg (.tup [.name 1,.name 2]) (.var 0),.ret (.tup [.str "order", .var 1,.var 2])]
abbrev ig:List CS:=[.asg (.name 2) (.call 30 [.var 0]),.ifs (.cmp .is (.var 2) .non) [.ret .non] [],.asg (.name 3) (.call 38 [.var 0,.var 1,.call 22 [.var 0,.var 2],.call 19 [.var 0],.dic0]),.ifs (.cmp .is (.var 3) .non) [.ret .non] [],.asg (.tup [.name 4,.name 5]) (.var 3),.for_ (.tup [.name 6,.name 7]) (.val (.rev (.var 2))) [.asg (.name 4) (.call 37 [.var 1,.ix (.ix (.var 0) (.int 2)) (.var 6),.var 7,.var 4])],.ret (.tup [.var 4,.bin .add (.ix (.var 0) (.int 3)) (.var 5)])]
abbrev qA:List CS:=[.ifs (.cmp .eq (.var 0) (.str "last")) [.ret (.mx (.var 2) (.var 3))] [],.ifs (.cmp .eq (.var 0) (.str "cost")) [.ret (.bin .add (.call 21 [.var 1,.var 2]) (.var 3))] [],.ret (.mx (.call 21 [.var 1,.var 2]) (.var 3))]
abbrev cY:List CS:=[.ifs (.not (.var 3)) [.ret (.tup [.int 0,.tup []])] [],.asg (.name 5) (.tup [.var 2,.var 3]),.ifs (.cmp .notin (.var 5) (.var 4)) [.asg (.name 6) (.comp ["number"] (.call 39 [.var 0,.var 1,.var 2,.var 3,.var 7,.var 4]) [⟨.name 7,.val (.var 3),none⟩]),.setI (.mnN (.comp ["way"] (.var 7) [⟨.name 7,.val (.var 6),some (.cmp .isnot (.var 7) .non)⟩])) (.var 4) (.var 5)] [],.ret (.ix (.var 4) (.var 5))]
abbrev ji:List CS:=[.asg (.name 6) (.call 31 [.var 0,.var 2,.var 4,.bin .sub (.len (.ix (.var 0) (.int 2))) (.len (.var 3))]),.ifs (.cmp .is (.var 6) .non) [.ret .non] [],.asg (.name 7) (.ix (.ix (.var 0) (.int 2)) (.var 4)),.asg (.name 8) (.call 38 [.var 0,.var 1,.tup [.ix (.var 7) (.int 0),.var 6],.call 5 [.var 3,.var 4],.var 5]),.ifs (.cmp .is (.var 8) .non) [.ret .non] [],.ret (.tup [.call 37 [.var 1,.var 7,.var 6,.ix (.var 8) (.int 0)],.bin .add (.tup [.var 4]) (.ix (.var 8) (.int 1))])]
abbrev gj:List CS:=[.ifs (.cmp .lt (.var 1) (.len (.var 0))) [.ret (.ix (.var 0) (.var 1))] [],.ret (.int 0)]
abbrev mZ:List CS:=[.ifs (.cmp .ge (.var 0) (.bin .pow (.int 10) (.int 18))) [.ret (.lst [.bin .sub (.var 0) (.bin .pow (.int 10) (.int 18))])] [],.asg (.name 1) (.int 0),.for_ (.name 2) (.r1 (.int 64)) [.asg (.name 3) (.bin .mod (.bin .mul (.bin .add (.bin .add (.bin .mod (.var 0) (.int 2147483629)) (.bin .mul (.int 7919) (.var 2))) (.int 1)) (.int 48271)) (.int 2147483647)),.asg (.name 3) (.bin .mod (.bin .add (.bin .add (.bin .mul (.var 3) (.var 3)) (.bin .mul (.int 69621) (.var 2))) (.int 7)) (.int 2147483587)),.asg (.name 1) (.bin .add (.bin .mul (.var 1) (.int 2147483587)) (.var 3))],.ret (.lst [.var 1])]
abbrev kY:List CS:=[.asg (.name 2) (.bin .mod (.ix (.var 0) (.int 0)) (.var 1)),.setI (.bin .fdiv (.ix (.var 0) (.int 0)) (.var 1)) (.var 0) (.int 0),.ret (.var 2)]
abbrev dS:List CS:=[.asg (.tup [.name 1,.name 2]) (.tup [.bin .add (.int 1) (.call 42 [.var 0,.int 4]),.ix (.lst [.int 3,.int 12,.int 40]) (.call 42 [.var 0,.int 3])]),.asg (.name 3) (.comp ["_law_a"] (.comp ["_law_b"] (.bin .add (.int 1) (.call 42 [.var 0,.var 2])) [⟨.name 7,.r1 (.var 1),none⟩]) [⟨.name 6,.r1 (.var 1),none⟩]),.for_ (.name 4) (.r1 (.var 1)) [.for_ (.name 5) (.r1 (.var 1)) [.setI (.comp ["_law_b"] (.mn (.ix (.ix (.var 3) (.var 5)) (.var 6)) (.bin .add (.ix (.ix (.var 3) (.var 5)) (.var 4)) (.ix (.ix (.var 3) (.var 4)) (.var 6)))) [⟨.name 6,.r1 (.var 1),none⟩]) (.var 3) (.var 5)]],.ret (.tupOf (.comp ["_law_row"] (.tupOf (.var 6)) [⟨.name 6,.val (.var 3),none⟩]))]
abbrev ij:List CS:=[.asg (.tup [.name 1,.name 2]) (.tup [.lst [],.int 0]),.for_ (.name 3) (.r1 (.call 42 [.var 0,.ix (.lst [.int 1,.int 5]) (.call 42 [.var 0,.int 2])])) [.asg (.name 4) (.bin .add (.var 2) (.call 42 [.var 0,.int 25])),.ex (.app (.var 1) (.tup [.var 4,.bin .add (.bin .add (.var 4) (.int 1)) (.call 42 [.var 0,.int 25])])),.asg (.name 2) (.bin .add (.ix (.ix (.var 1) (.neg (.int 1))) (.int 1)) (.int 1))],.ret (.tup [.ix (.lst [.int 8,.int 1,.int 2,.int 3,.int 0]) (.call 42 [.var 0,.int 5]),.ix (.lst [.int 0,.int 2,.int 9,.int 60]) (.call 42 [.var 0,.int 4]),.call 43 [.var 0],.tupOf (.var 1)])]
abbrev fS:List CS:=[.asg (.tup [.name 2,.name 3]) (.tup [.call 44 [.var 0],.lst []]),.asg (.tup [.name 4,.name 5]) (.tup [.ix (.lst [.int 5,.int 20,.int 60]) (.call 42 [.var 0,.int 3]),.ix (.lst [.int 4,.int 30,.int 90,.int 400]) (.call 42 [.var 0,.int 4])]),.for_ (.name 6) (.r1 (.call 42 [.var 0,.bin .add (.var 1) (.int 1)])) [.asg (.name 7) (.call 42 [.var 0,.var 4]),.asg (.name 8) (.bin .add (.bin .add (.var 7) (.ix (.var 2) (.int 1))) (.ix (.lst [.int 0,.call 42 [.var 0,.int 9]]) (.call 42 [.var 0,.int 2]))),.asg (.tup [.name 9,.name 10]) (.tup [.bin .add (.var 8) (.call 42 [.var 0,.var 5]),.bin .add (.var 7) (.call 42 [.var 0,.var 5])]),.ex (.app (.var 3) (.lst [.call 42 [.var 0,.len (.ix (.var 2) (.int 2))],.var 7,.var 8,.var 9,.var 10,.ix (.lst [.int 0,.int 1,.int 7,.int 99]) (.call 42 [.var 0,.int 4]),.int 0]))],.asg (.tup [.name 11,.name 12]) (.tup [.listR (.len (.var 3)),.lst []]),.for_ (.name 13) (.r1 (.ix (.lst [.int 0,.call 42 [.var 0,.bin .add (.len (.var 3)) (.int 1)]]) (.call 42 [.var 0,.int 2]))) [.ex (.app (.var 12) (.popAt (.var 11) (.call 42 [.var 0,.len (.var 11)]))),.ifs (.and (.cmp .gt (.ix (.var 2) (.int 0)) (.int 0)) (.cmp .eq (.call 42 [.var 0,.int 3]) (.int 0))) [.setI (.bin .add (.int 1) (.call 42 [.var 0,.ix (.var 2) (.int 0)])) (.ix (.var 3) (.ix (.var 12) (.neg (.int 1)))) (.int 6)] []],.asg (.name 14) (.ix (.lst [.non,.tup [.call 42 [.var 0,.len (.ix (.var 2) (.int 2))],.call 42 [.var 0,.int 30]]]) (.call 42 [.var 0,.int 2])),.ret (.tup [.var 2,.var 14,.tupOf (.comp ["_law_one"] (.tupOf (.var 15)) [⟨.name 15,.val (.var 3),none⟩]),.tupOf (.var 12)])]
abbrev kZ:List CS:=[.for_ (.tup [.name 2,.name 3]) (.val (.var 0)) [.ifs (.chn .le .lt (.var 2) (.var 1) (.var 3)) [.asg (.name 1) (.var 3)] []],.ret (.var 1)]
abbrev jj:List CS:=[.ret (.comp ["_law_one", "_law_minute"] (.var 3) [⟨.tup [.name 3,.name 4],.val (.var 1),some (.chn .le .lt (.ix (.ix (.ix (.var 0) (.int 2)) (.var 3)) (.int 1)) (.var 2) (.bin .sub (.var 4) (.ix (.ix (.var 0) (.int 0)) (.int 1))))⟩])]
abbrev k6:List CS:=[.asg (.name 4) (.ix (.ix (.ix (.var 0) (.int 2)) (.var 2)) (.int 1)),.asg (.name 5) (.bin .add (.lst [.var 4]) (.comp ["_law_one", "_law_when"] (.ix (.ix (.ix (.var 0) (.int 2)) (.var 7)) (.int 1)) [⟨.tup [.name 7,.name 8],.val (.var 1),none⟩])),.asg (.name 6) (.comp ["_law_at"] (.bin .add (.int 1) (.len (.call 47 [.var 0,.var 1,.var 7]))) [⟨.name 7,.val (.var 5),some (.chn .le .lt (.var 4) (.var 7) (.bin .sub (.var 3) (.ix (.ix (.var 0) (.int 0)) (.int 1))))⟩]),.ret (.mxD (.var 6) 0)]
abbrev dU:List CS:=[.asg (.tup [.name 4,.name 5,.name 6,.name 7]) (.sl (.ix (.ix (.var 0) (.int 2)) (.var 2)) none (some (.int 4))),.ifs (.cmp .isnot (.var 1) .non) [.asg (.name 6) (.mx (.var 6) (.bin .add (.ix (.var 1) (.int 1)) (.ix (.ix (.ix (.ix (.var 0) (.int 0)) (.int 2)) (.ix (.var 1) (.int 0))) (.var 4))))] [],.asg (.name 8) (.call 46 [.ix (.ix (.var 0) (.int 0)) (.int 3),.var 6]),.asg (.name 9) (.sl (.srt (.comp ["_law_one"] (.ix (.var 10) (.int 1)) [⟨.name 10,.val (.ix (.var 0) (.int 2)),none⟩])) (some (.bin .add (.ix (.ix (.var 0) (.int 0)) (.int 0)) (.var 3))) none),.ifs (.or (.cmp .gt (.var 8) (.var 7)) (.and (.cmp .ne (.var 9) (.lst [])) (.cmp .gt (.bin .sub (.var 8) (.ix (.ix (.var 0) (.int 0)) (.int 1))) (.ix (.var 9) (.int 0))))) [.ret .non] [],.ret (.var 8)]
abbrev gk:List CS:=[.asg (.tup [.name 2,.name 3]) (.tup [.ix (.var 0) (.int 1),.lst []]),.for_ (.tup [.name 4,.name 5]) (.en (.var 1)) [.asg (.tup [.name 6,.name 7]) (.tup [.call 49 [.var 0,.var 2,.var 5,.var 4],.ix (.ix (.ix (.var 0) (.int 2)) (.var 5)) (.int 6)]),.ifs (.or (.cmp .is (.var 6) .non) (.chn .lt .lt (.int 0) (.var 7) (.call 48 [.var 0,.var 3,.var 5,.var 6]))) [.ret (.tup [.str "stuck", .var 4])] [],.ex (.app (.var 3) (.tup [.var 5,.var 6])),.asg (.name 2) (.tup [.ix (.ix (.ix (.var 0) (.int 2)) (.var 5)) (.int 0),.var 6])],.ret (.tup [.str "lands", .var 3])]
abbrev jk:List CS:=[.ifs (.cmp .eq (.var 2) (.str "last")) [.ret (.mxD (.comp ["_law_one", "_law_minute"] (.var 4) [⟨.tup [.name 3,.name 4],.val (.var 1),none⟩]) 0)] [],.ret (.sm (.comp ["_law_one", "_law_minute"] (.bin .mul (.ix (.ix (.ix (.var 0) (.int 2)) (.var 3)) (.int 5)) (.mx (.int 0) (.bin .sub (.var 4) (.ix (.ix (.ix (.var 0) (.int 2)) (.var 3)) (.int 4))))) [⟨.tup [.name 3,.name 4],.val (.var 1),none⟩]))]
abbrev ba:List CS:=[.asg (.tup [.name 2,.name 3]) (.tup [.call 50 [.var 0,.ix (.var 0) (.int 3)],.non]),.asg (.name 4) (.ite (.cmp .eq (.ix (.var 2) (.int 0)) (.str "lands")) (.lst [.tup [.ix (.var 0) (.int 3),.ix (.var 2) (.int 1)]]) (.lst [])),.while_ (.cmp .ne (.var 4) (.lst [])) [.asg (.tup [.name 5,.name 6]) (.pop (.var 4)),.asg (.name 7) (.ite (.cmp .eq (.var 5) (.tup [])) (.ix (.var 0) (.int 1)) (.tup [.ix (.ix (.ix (.var 0) (.int 2)) (.ix (.var 5) (.neg (.int 1)))) (.int 0),.ix (.ix (.var 6) (.neg (.int 1))) (.int 1)])),.ifs (.cmp .eq (.len (.var 5)) (.len (.ix (.var 0) (.int 2)))) [.asg (.name 8) (.call 51 [.var 0,.var 6,.var 1]),.ifs (.or (.cmp .is (.var 3) .non) (.cmp .lt (.var 8) (.ix (.var 3) (.int 0)))) [.asg (.name 3) (.tup [.var 8,.var 5])] []] [],.for_ (.name 9) (.dn (.bin .sub (.len (.ix (.var 0) (.int 2))) (.int 1))) [.ifs (.cmp .notin (.var 9) (.var 5)) [.asg (.name 10) (.call 49 [.var 0,.var 7,.var 9,.len (.var 5)]),.ifs (.cmp .isnot (.var 10) .non) [.ex (.app (.var 4) (.tup [.bin .add (.var 5) (.tup [.var 9]),.bin .add (.var 6) (.lst [.tup [.var 9,.var 10]])]))] []] []]],.ret (.var 3)]
abbrev ik:List CS:=[.asg (.name 1) (.len (.ix (.var 0) (.int 2))),.ret (.tup [.ix (.var 0) (.int 0),.ix (.var 0) (.int 1),.rev (.ix (.var 0) (.int 2)),.tupOf (.comp ["_law_one"] (.bin .sub (.bin .sub (.var 1) (.int 1)) (.var 2)) [⟨.name 2,.val (.ix (.var 0) (.int 3)),none⟩])])]
abbrev m6:List CS:=[.asg (.name 2) (.call 52 [.var 0,.var 1]),.ret (.ite (.cmp .is (.var 2) .non) .non (.tup [.str "order", .ix (.var 2) (.int 0),.ix (.var 2) (.int 1)]))]
abbrev F0:List CS:=[.for_ (.name 1) (.r1 (.mx (.int 1) (.mn (.len (.var 0)) (.int 6)))) [.asg (.name 2) (.call 41 [.call 40 [.var 0,.var 1]]),.asg (.name 3) (.call 45 [.var 2,.int 5]),.asg (.name 4) (.tupOf (.comp ["_law_one"] (.bin .add (.bin .add (.sl (.var 8) none (some (.int 4))) (.tup [.int 9])) (.sl (.var 8) (some (.int 5)) none)) [⟨.name 8,.val (.ix (.var 3) (.int 2)),none⟩])),.for_ (.name 5) (.val (.tup [.var 3,.call 53 [.var 3],.tup [.ix (.var 3) (.int 0),.ix (.var 3) (.int 1),.var 4,.ix (.var 3) (.int 3)]])) [.asg (.name 6) (.rep (.var 5)),.for_ (.name 7) (.r1 (.int 2)) [.ifs (.or (.cmp .ne (.rep (.call 33 [.var 5])) (.rep (.call 54 [.var 5,.str "last"]))) (.cmp .ne (.rep (.var 5)) (.var 6))) [.ret (.bl false)] [],.ifs (.or (.cmp .ne (.rep (.call 34 [.var 5])) (.rep (.call 54 [.var 5,.str "cost"]))) (.cmp .ne (.rep (.var 5)) (.var 6))) [.ret (.bl false)] []]]],.ret (.bl true)]
abbrev gD:DefE:=⟨"is_whole", top 5,["thing"],["thing"],kR⟩
abbrev fo:DefE:=⟨"is_within", top 6,["thing", "least", "most"],["thing", "least", "most"],ja⟩
abbrev fq:DefE:=⟨"is_minute", top 7,["thing"],["thing"],jb⟩
abbrev gF:DefE:=⟨"is_tuple", top 8,["thing", "least", "most"],["thing", "least", "most"],kS⟩
abbrev dW:DefE:=⟨"are_unlike", top 9,["thing", "many"],["thing", "many"],hZ⟩
abbrev iR:DefE:=⟨"without", top 10,["numbers", "number"],["numbers", "number"],mW⟩
abbrev fu:DefE:=⟨"is_meadow", top 17,["thing", "rings", "sink", "gaps", "shuts"],["thing"],jc⟩
abbrev gG:DefE:=⟨"are_gaps", top 18,["thing"],["thing"],kT⟩
abbrev dX:DefE:=⟨"is_gap_row", top 19,["thing", "many"],["thing", "many"],ia⟩
abbrev aZ:DefE:=⟨"no_glider_between_helps", top 20,["gaps", "kinds"],["gaps"],bH⟩
abbrev fv:DefE:=⟨"are_shuts", top 21,["thing"],["thing"],jd⟩
abbrev dY:DefE:=⟨"is_stretch", top 22,["thing"],["thing"],ib⟩
abbrev iS:DefE:=⟨"is_kind", top 23,["meadow", "thing"],["meadow", "thing"],mX⟩
abbrev b6:DefE:=⟨"first_not_shut", top 24,["meadow", "minute", "begin", "end"],["meadow", "minute"],dA⟩
abbrev k7:DefE:=⟨"is_sky", top 28,["thing", "meadow", "ahead", "gliders", "fixed"],["thing"],qz⟩
abbrev gH:DefE:=⟨"is_ahead", top 29,["meadow", "thing"],["meadow", "thing"],kU⟩
abbrev cZ:DefE:=⟨"are_gliders", top 30,["meadow", "thing"],["meadow", "thing"],ga⟩
abbrev fw:DefE:=⟨"is_glider", top 31,["meadow", "thing", "kind", "joins", "first", "last", "due", "weight", "ring"],["meadow", "thing"],je⟩
abbrev fA:DefE:=⟨"are_fixed", top 32,["gliders", "thing"],["gliders", "thing"],jf⟩
abbrev fB:DefE:=⟨"free_ones", top 33,["sky"],["sky"],jg⟩
abbrev fC:DefE:=⟨"check_sky", top 34,["thing"],["thing"],jh⟩
abbrev c6:DefE:=⟨"glider_cost", top 36,["glider", "minute", "kind", "joins", "first", "last", "due", "weight", "ring"],["glider", "minute"],gf⟩
abbrev cj:DefE:=⟨"landing_ahead", top 37,["sky", "sooner", "number", "minute"],["sky", "sooner"],eO⟩
abbrev iT:DefE:=⟨"gap_end", top 38,["sky", "ahead", "kind"],["sky", "ahead", "kind"],mY⟩
abbrev gI:DefE:=⟨"waits_at", top 39,["sky", "landing", "minute", "number", "lands"],["sky", "landing", "minute"],kW⟩
abbrev cm:DefE:=⟨"how_many_wait", top 40,["sky", "landings", "minute"],["sky", "landings", "minute"],eP⟩
abbrev bT:DefE:=⟨"joining_minutes", top 41,["sky"],["sky"],cR⟩
abbrev c7:DefE:=⟨"is_too_high", top 42,["sky", "landings", "place", "kind", "joins", "first", "last", "due", "weight", "ring"],["sky", "landings", "place"],gg⟩
abbrev c8:DefE:=⟨"ring_needed", top 43,["sky", "landings", "place", "minute", "sooner", "later"],["sky", "landings", "place", "minute"],gh⟩
abbrev bO:DefE:=⟨"soonest_landings", top 45,["sky", "numbers", "landings", "place", "number", "minute"],["sky", "numbers"],cH⟩
abbrev b7:DefE:=⟨"fixed_landings", top 46,["sky", "landings"],["sky"],dB⟩
abbrev b8:DefE:=⟨"soonest_minute", top 47,["sky", "ahead", "number", "place", "kind", "joins", "first", "last", "due", "weight", "ring", "minute"],["sky", "ahead", "number", "place"],dC⟩
abbrev bU:DefE:=⟨"leaves_too_late", top 48,["sky", "place", "minute", "rings", "sink", "gaps", "shuts", "joins", "one_too_many"],["sky", "place", "minute"],cS⟩
abbrev dZ:DefE:=⟨"least_last", top 50,["sky"],["sky"],ic⟩
abbrev ei:DefE:=⟨"least_cost", top 51,["sky"],["sky"],ie⟩
abbrev sP:DefE:=⟨"told", top 52,["best", "number", "order"],["best"],zT⟩
abbrev eu:DefE:=⟨"best_order", top 53,["sky", "aim", "landings", "best", "number", "order", "glider", "minute"],["sky", "aim"],ig⟩
abbrev k8:DefE:=⟨"joined", top 54,["aim", "glider", "minute", "number"],["aim", "glider", "minute", "number"],qA⟩
abbrev bK:DefE:=⟨"best_behind", top 55,["sky", "aim", "ahead", "left", "known", "key", "ways"],["sky", "aim", "ahead", "left", "known"],cY⟩
abbrev fD:DefE:=⟨"best_with", top 56,["sky", "aim", "ahead", "left", "number", "known", "minute", "glider", "best"],["sky", "aim", "ahead", "left", "number", "known"],ji⟩
abbrev c9:DefE:=⟨"_law_cell_at", top 58,["_law_script", "_law_k"],["_law_script", "_law_k"],gj⟩
abbrev iU:DefE:=⟨"_law_pot", top 59,["_law_cell", "_law_number", "_law_j", "_law_more"],["_law_cell"],mZ⟩
abbrev gJ:DefE:=⟨"_law_take", top 60,["_law_pot_here", "_law_wide", "_law_found"],["_law_pot_here", "_law_wide"],kY⟩
abbrev gK:DefE:=⟨"_law_gaps", top 61,["_law_pot_here", "_law_many", "_law_far", "_law_found", "_law_c", "_law_a"],["_law_pot_here"],dS⟩
abbrev eA:DefE:=⟨"_law_meadow", top 62,["_law_pot_here", "_law_shuts", "_law_at", "_law_turn", "_law_begin"],["_law_pot_here"],ij⟩
abbrev iV:DefE:=⟨"_law_sky", top 63,["_law_pot_here", "_law_most", "_law_meadow_here", "_law_gliders", "_law_wide", "_law_long", "_law_number", "_law_joins", "_law_first", "_law_last", "_law_due_here", "_law_left", "_law_fixed", "_law_turn", "_law_ahead"],["_law_pot_here", "_law_most"],fS⟩
abbrev gL:DefE:=⟨"_law_open", top 64,["_law_shuts", "_law_minute", "_law_begin", "_law_end"],["_law_shuts", "_law_minute"],kZ⟩
abbrev fE:DefE:=⟨"_law_waits", top 65,["_law_sky_here", "_law_landed", "_law_at"],["_law_sky_here", "_law_landed", "_law_at"],jj⟩
abbrev gM:DefE:=⟨"_law_need", top 66,["_law_sky_here", "_law_landed", "_law_number", "_law_minute", "_law_joins", "_law_known", "_law_counts"],["_law_sky_here", "_law_landed", "_law_number", "_law_minute"],k6⟩
abbrev gN:DefE:=⟨"_law_step", top 67,["_law_sky_here", "_law_ahead", "_law_number", "_law_place", "_law_kind", "_law_joins", "_law_first", "_law_last", "_law_minute", "_law_late"],["_law_sky_here", "_law_ahead", "_law_number", "_law_place"],dU⟩
abbrev df:DefE:=⟨"_law_soonest", top 68,["_law_sky_here", "_law_order", "_law_ahead", "_law_landed", "_law_place", "_law_number", "_law_minute", "_law_ring"],["_law_sky_here", "_law_order"],gk⟩
abbrev fF:DefE:=⟨"_law_worth", top 69,["_law_sky_here", "_law_landed", "_law_aim"],["_law_sky_here", "_law_landed", "_law_aim"],jk⟩
abbrev gO:DefE:=⟨"_law_best", top 70,["_law_sky_here", "_law_aim", "_law_start", "_law_found", "_law_left", "_law_order", "_law_landed", "_law_ahead", "_law_worth_here", "_law_number", "_law_minute"],["_law_sky_here", "_law_aim"],ba⟩
abbrev eB:DefE:=⟨"_law_turned", top 71,["_law_sky_here", "_law_many"],["_law_sky_here"],ik⟩
abbrev iW:DefE:=⟨"_law_due", top 72,["_law_sky_here", "_law_aim", "_law_found"],["_law_sky_here", "_law_aim"],m6⟩
abbrev uB:DefE:=⟨"law", top 73,["_law_script", "_law_k", "_law_pot_here", "_law_sky_here", "_law_same", "_law_some", "_law_kept", "_law_turn"],["_law_script"],F0⟩
abbrev ac:List DefE:=[gD,fo,fq,gF,dW,iR,fu,gG,dX,aZ,fv,dY,iS,b6,k7,gH,cZ,fw,fA,fB,fC,c6,cj,iT,gI,cm,bT,c7,c8,bO,b7,b8,bU,dZ,ei,sP,eu,k8,bK,fD,c9,iU,gJ,gK,eA,iV,gL,fE,gM,gN,df,fF,gO,eB,iW,uB]
abbrev con:List (Str × Int):=[("LAST_MINUTE", 9999),("MOST_RINGS", 8),("MOST_SINK", 60),("MOST_KINDS", 4),("MOST_GAP", 99),("MOST_SHUTS", 4),("MOST_GLIDERS", 7),("MOST_WEIGHT", 99)]
theorem chk:ac.all (Dd (ux con ac))=true:=by kernel_rfl
theorem us1:∀ {us:List Value},us.length=1->∃a0,us=[a0]
 |[a0],_=>⟨a0,rfl⟩
theorem us2:∀ {us:List Value},us.length=2->∃a0 a1,us=[a0,a1]
 |[a0,a1],_=>⟨a0,a1,rfl⟩
theorem us3:∀ {us:List Value},us.length=3->∃a0 a1 a2,us=[a0,a1,a2]
 |[a0,a1,a2],_=>⟨a0,a1,a2,rfl⟩
theorem us4:∀ {us:List Value},us.length=4->∃a0 a1 a2 a3,us=[a0,a1,a2,a3]
 |[a0,a1,a2,a3],_=>⟨a0,a1,a2,a3,rfl⟩
theorem us5:∀ {us:List Value},us.length=5->∃a0 a1 a2 a3 a4,us=[a0,a1,a2,a3,a4]
 |[a0,a1,a2,a3,a4],_=>⟨a0,a1,a2,a3,a4,rfl⟩
theorem us6:∀ {us:List Value},us.length=6->∃a0 a1 a2 a3 a4 a5,us=[a0,a1,a2,a3,a4,a5]
 |[a0,a1,a2,a3,a4,a5],_=>⟨a0,a1,a2,a3,a4,a5,rfl⟩
theorem bind:wM ac:=by
 repeat' apply And.intro
 all_goals first |trivial |(intro _ _ _ _ _ _ us hl;first |(obtain⟨_,rfl⟩:=us1 hl;rfl) |(obtain⟨_,_,rfl⟩:=us2 hl;rfl) |(obtain⟨_,_,_,rfl⟩:=us3 hl;rfl) |(obtain⟨_,_,_,_,rfl⟩:=us4 hl;rfl) |(obtain⟨_,_,_,_,_,rfl⟩:=us5 hl;rfl) |(obtain⟨_,_,_,_,_,_,rfl⟩:=us6 hl;rfl))
end Lw
section
open PySem PySem.W PyProof.Rows
noncomputable abbrev Lw.view:Program:={ PySem.Challenge.pw_downrings_k36_best_by_all_orders with main:={ PySem.Challenge.pw_downrings_k36_best_by_all_orders.main with body:=[Lw.top 73] } }
noncomputable abbrev Lw.loose:List PySem.Str:=List.map PySem.Str.ofString ["is_whole", "is_within", "is_minute", "is_tuple", "are_unlike", "without", "is_meadow", "are_gaps", "is_gap_row", "no_glider_between_helps", "are_shuts", "is_stretch", "is_kind", "first_not_shut", "is_sky", "is_ahead", "are_gliders", "is_glider", "are_fixed", "free_ones", "check_sky", "glider_cost", "landing_ahead", "gap_end", "waits_at", "how_many_wait", "joining_minutes", "is_too_high", "ring_needed", "soonest_landings", "fixed_landings", "soonest_minute", "leaves_too_late", "least_last", "least_cost", "told", "best_order", "joined", "best_behind", "best_with", "_law_cell_at", "_law_pot", "_law_take", "_law_gaps", "_law_meadow", "_law_sky", "_law_open", "_law_waits", "_law_need", "_law_step", "_law_soonest", "_law_worth", "_law_best", "_law_turned", "_law_due", "LAST_MINUTE", "MOST_RINGS", "MOST_SINK", "MOST_KINDS", "MOST_GAP", "MOST_SHUTS", "MOST_GLIDERS", "MOST_WEIGHT", "RingError", "NoSky"]
set_option maxHeartbeats 0 in
theorem Lw.said:PySem.Challenge.rw_downrings_k36_best_by_all_orders.wellSaid=true:=by kernel_rfl
set_option maxHeartbeats 0 in
theorem Lw.head(hmain:∀ns:List Int,ns.length<=63->∃S',Ev.evC Lw.ac 40 55 [.ref 0] [.frz (ns.map Ev.D.int)]=some (.bl true,S')):PySem.Challenge.rw_downrings_k36_best_by_all_orders.Holds:=by
 w_on;refine holds_law Lw.said λsaid=>?_
 refine holds_open (q:=Lw.view) (loose:=Lw.loose) (Xt:=(λs=>xlAt Lw.view [] s && recOk (RowW.records PySem.Challenge.rw_downrings_k36_best_by_all_orders.row.toRowW) s)) (XP:=XL Lw.view []) (Yf:=(Hook.obs (Ev.oC Lw.con Lw.ac Lw.bind))) (Ya:=(Hook.val (Ev.oC Lw.con Lw.ac Lw.bind))) (YP:=Hook.says (Ev.oC Lw.con Lw.ac Lw.bind)) (N:=12000) ?hl (Hook.of _) (Hook.keeps _) (λs e=>xl_of s (Xu.mp e).1) XL.keeps (by rfl) (by rfl) (by rfl) (λs e=>recFacts_of (Xu.mp e).2) (by rfl) (by first |assumption |decide +kernel) (by decide +kernel) ⟨rfl,rfl,rfl,rfl,rfl,by decide +kernel⟩ ?hw ?hc
 case hw=>w_witness2
 case hl=>exactλw=>by kernel_rfl
 case hc=>exact Ev.Dh (l:=PySem.Challenge.rw_downrings_k36_best_by_all_orders) (n:=63) (k:=40) (i:=55) (dl:=Lw.uB) rfl (by decide) rfl ⟨rfl,by decide,by decide,rfl⟩ rfl rfl rfl Lw.chk hmain
end
namespace Ev
open PySem PySem.Spec PyProof.Rows L2
def Ok{α:Type}(x:Option (α × Sto))(Q:α->Sto->Prop):Prop:=∃a S,x=some (a,S)/\Q a S
def OkS(x:Option (Fl × Rho × Sto))(Q:Fl->Rho->Sto->Prop):Prop:=∃f ρ S,x=some (f,ρ,S)/\Q f ρ S
section
variable {α β:Type} {S S':Sto} {ρ ρ':Rho}
theorem aC{a:α}{Q:α->Sto->Prop}:Ok (some (a,S)) Q=Q a S:=by
 apply propext;exact⟨λ⟨_,_,e,q⟩=>by cases e;exact q,λq=>⟨a,S,rfl,q⟩⟩
theorem aV{Q:α->Sto->Prop}:Ok none Q=False:=propext ⟨λ⟨_,_,e,_⟩=>(nomatch e),λh=>h.elim⟩
theorem bD{x:Option (α × Sto)}{f:α->Sto->Option (β × Sto)}{Q:β->Sto->Prop}:Ok (bnd x f) Q=Ok x λa S=>Ok (f a S) Q:=by
 apply propext;constructor
 ·rintro⟨b,S',e,q⟩;obtain⟨a,S,e1,e2⟩:=ab e;exact⟨a,S,e1,b,S',e2,q⟩
 ·rintro⟨a,S,e1,b,S',e2,q⟩;exact⟨b,S',by rw[e1];exact e2,q⟩
theorem cI{c:Prop}[Decidable c]{x y:Option (α × Sto)}{Q:α->Sto->Prop}:Ok (if c then x else y) Q=if c then Ok x Q else Ok y Q:=by split <;> rfl
theorem IA{x:Option β}{f:β->α × Sto}{Q:α->Sto->Prop}:Ok (x.map f) Q=∃b,x=some b/\Q (f b).1 (f b).2:=by
 apply propext;cases x with
 |none=>exact⟨λ⟨_,_,e,_⟩=>(nomatch e),λ⟨_,e,_⟩=>(nomatch e)⟩
 |some b=>exact⟨λ⟨a,S,e,q⟩=>⟨b,rfl,by have e':=Option.some.inj e;rw[e'];exact q⟩,λ⟨b',e,q⟩=>by cases e;exact⟨_,_,rfl,q⟩⟩
theorem Ok.mono{x:Option (α × Sto)}{Q Q':α->Sto->Prop}(h:Ok x Q)(f:∀a S,Q a S->Q' a S):Ok x Q':=let ⟨a,S,e,q⟩:=h;⟨a,S,e,f a S q⟩
theorem OkS.mono{x:Option (Fl × Rho × Sto)}{Q Q':Fl->Rho->Sto->Prop}(h:OkS x Q)(f:∀a ρ S,Q a ρ S->Q' a ρ S):OkS x Q':=let ⟨a,ρ,S,e,q⟩:=h;⟨a,ρ,S,e,f a ρ S q⟩
def nxt(y:XS)(Q:Fl->Rho->Sto->Prop)(f:Fl)(ρ:Rho)(S:Sto):Prop:=match f with
 |.nx=>OkS (y ρ S) Q
 |f=>Q f ρ S
theorem Di{x y:XS}{Q:Fl->Rho->Sto->Prop}:OkS (yS x y ρ S) Q=OkS (x ρ S) (nxt y Q):=by
 apply propext;unfold yS;constructor
 ·rintro⟨f,ρ1,S1,e,q⟩;split at e
  ·cases e
  ·rename_i ρ2 S2 h;exact⟨_,_,_,h,f,ρ1,S1,e,q⟩
  ·rename_i r n h;cases e;cases f with
   |nx=>exact absurd rfl (n ρ1 S1)
   |_=>exact⟨_,_,_,h,q⟩
 ·rintro⟨f,ρ1,S1,e,q⟩;rw[e];cases f with
  |nx=>exact q
  |_=>exact⟨_,_,_,rfl,q⟩
theorem IB{c:XT}{x y:XS}{Q:Fl->Rho->Sto->Prop}:OkS (xIf c x y ρ S) Q=Ok (c ρ S) λb S1=>if b=true then OkS (x ρ S1) Q else OkS (y ρ S1) Q:=by
 apply propext;unfold xIf;constructor
 ·rintro⟨f,ρ1,S1,e,q⟩;cases h:c ρ S with
  |none=>rw[h] at e;cases e
  |some r=>
   obtain⟨b,S2⟩:=r;rw[h] at e;refine⟨b,S2,rfl,?_⟩;dsimp only at e ⊢;split
   ·rename_i hb;rw[if_pos hb] at e;exact⟨f,ρ1,S1,e,q⟩
   ·rename_i hb;rw[if_neg hb] at e;exact⟨f,ρ1,S1,e,q⟩
 ·rintro⟨b,S2,e,q⟩;rw[e];dsimp only;split
  ·rename_i hb;rw[if_pos hb] at q;exact q
  ·rename_i hb;rw[if_neg hb] at q;exact q
theorem Dj{x:XE}{t:Tg}{Q:Fl->Rho->Sto->Prop}:OkS (kx x t ρ S) Q=Ok (x ρ S) λd S1=>∃ρ1,au t d ρ=some ρ1/\Q .nx ρ1 S1:=by
 apply propext;unfold kx;constructor
 ·rintro⟨f,ρ1,S1,e,q⟩;cases h:x ρ S with
  |none=>rw[h] at e;cases e
  |some r=>
   obtain⟨d,S2⟩:=r;rw[h] at e;dsimp only at e;cases h2:au t d ρ with
   |none=>rw[h2] at e;cases e
   |some ρ2=>rw[h2] at e;cases e;exact⟨d,_,rfl,ρ1,h2,q⟩
 ·rintro⟨d,S2,e,ρ1,e2,q⟩;rw[e];dsimp only;rw[e2];exact⟨_,_,_,rfl,q⟩
theorem zU{x:XE}{Q:Fl->Rho->Sto->Prop}:OkS (qh x ρ S) Q=Ok (x ρ S) λ_ S1=>Q .nx ρ S1:=by
 apply propext;unfold qh;constructor
 ·rintro⟨f,ρ1,S1,e,q⟩;cases h:x ρ S with
  |none=>rw[h] at e;cases e
  |some r=>rw[h] at e;cases e;exact⟨_,_,rfl,q⟩
 ·rintro⟨d,S2,e,q⟩;rw[e];exact⟨_,_,_,rfl,q⟩
theorem Dk{x:XE}{Q:Fl->Rho->Sto->Prop}:OkS (yT x ρ S) Q=Ok (x ρ S) λd S1=>Q (.rt d) ρ S1:=by
 apply propext;unfold yT;constructor
 ·rintro⟨f,ρ1,S1,e,q⟩;cases h:x ρ S with
  |none=>rw[h] at e;cases e
  |some r=>rw[h] at e;cases e;exact⟨_,_,rfl,q⟩
 ·rintro⟨d,S2,e,q⟩;rw[e];exact⟨_,_,_,rfl,q⟩
theorem zV{v o i:XE}{Q:Fl->Rho->Sto->Prop}:OkS (qi v o i ρ S) Q=Ok (v ρ S) λa S1=>Ok (o ρ S1) λb S2=>Ok (i ρ S2) λc S3=>∃S4,iM b c a S3=some S4/\Q .nx ρ S4:=by
 apply propext;unfold qi;constructor
 ·rintro⟨f,ρ1,S1,e,q⟩;cases h:v ρ S with
  |none=>rw[h] at e;cases e
  |some r=>
   rw[h] at e;dsimp only at e;cases h2:o ρ r.2 with
   |none=>rw[h2] at e;cases e
   |some r2=>
    rw[h2] at e;dsimp only at e;cases h3:i ρ r2.2 with
    |none=>rw[h3] at e;cases e
    |some r3=>
     rw[h3] at e;dsimp only at e;cases h4:iM r2.1 r3.1 r.1 r3.2 with
     |none=>rw[h4] at e;cases e
     |some S4=>rw[h4] at e;cases e;exact⟨_,_,rfl,_,_,h2,_,_,h3,_,h4,q⟩
 ·rintro⟨a,S1,e1,b,S2,e2,c,S3,e3,S4,e4,q⟩;rw[e1];dsimp only;rw[e2];dsimp only;rw[e3];dsimp only;rw[e4];exact⟨_,_,_,rfl,q⟩
theorem Dm{it:XI}{tg:Tg}{b:XS}{k:Nat}{Q:Fl->Rho->Sto->Prop}:OkS (yU it tg b k ρ S) Q=Ok (it ρ S) λnx S1=>OkS (dI nx tg b k 0 ρ S1) Q:=by
 apply propext;unfold yU;constructor
 ·rintro⟨f,ρ1,S1,e,q⟩;cases h:it ρ S with
  |none=>rw[h] at e;cases e
  |some r=>rw[h] at e;exact⟨_,_,rfl,_,_,_,e,q⟩
 ·rintro⟨d,S2,e,q⟩;rw[e];exact q
def out(Q:D->Sto->Prop)(f:Fl)(_:Rho)(S:Sto):Prop:=match f with
 |.rt v=>Q v S
 |.nx=>Q .non S
 |_=>False
theorem IC{Q:D->Sto->Prop}{d:D}:out Q (.rt d) ρ S=Q d S:=rfl
theorem IE{Q:D->Sto->Prop}:out Q .nx ρ S=Q .non S:=rfl
theorem ax{ac:List DefE}{k f:Nat}{d:DefE}{ds:List D}{Q:D->Sto->Prop}(hd:ac[f]?=some d)(hρ:ds.map some++Zu (d.N.length - ds.length) none=ρ)(h:OkS (eR (evC ac k) (eS ac) 60 d.body ρ S) (out Q)):Ok (evC ac (k+1) f ds S) Q:=by
 subst hρ;simp only[evC,hd,Ix];obtain⟨fl,ρ1,S1,e,q⟩:=h;show Ok (match eR (evC ac k) (eS ac) FU d.body _ S with |some (.rt v,_,S')=>some (v,S') |some (.nx,_,S')=>some (.non,S') |_=>none) Q;unfold FU;rw[e];cases fl with
 |rt v=>exact⟨_,_,rfl,q⟩
 |nx=>exact⟨_,_,rfl,q⟩
 |bk=>exact q.elim
 |ct=>exact q.elim
theorem m7{nx:Nxt}{tg:Tg}{c:XA}{N:Nat}(I:Nat->List D->Sto->Prop)
  (step:∀i acc S,i < N->I i acc S->∃d ρ1,nx i S=some (some d)/\au tg d ρ=some ρ1/\Ok (c ρ1 S) λes S1=>I (i+1) (acc++es) S1) (stop:∀acc S,I N acc S->nx N S=some none) :
  ∀ (n i k:Nat) (acc:List D) (S:Sto),N=i+n->n < k->I i acc S->Ok (bg nx tg c ρ k i S) λes S'=>I N (acc++es) S'
 |0,i,k+1,acc,S,hN,hk,h=>by
  obtain rfl:N=i:=by omega
  simp only[bg,stop acc S h];exact⟨_,_,rfl,by show I _ (acc++[]) S;rw[Z9];exact h⟩
 |n+1,i,k+1,acc,S,hN,hk,h=>by
  obtain⟨d,ρ1,e1,e2,es,S1,e3,h'⟩:=step i acc S (by omega) h;simp only[bg,e1,e2,e3,bnd];obtain⟨rs,S2,e4,h2⟩:=m7 I step stop n (i+1) k (acc++es) S1 (by omega) (by omega) h';simp only[e4];exact⟨_,_,rfl,by show I _ (acc++(es++rs)) S2;rw[<-Z4];exact h2⟩
theorem fG{nx:Nxt}{tg:Tg}{c:XA}{k:Nat}(N:Nat)(I:Nat->List D->Sto->Prop)(hk:N < k)
  (step:∀i acc S,i < N->I i acc S->∃d ρ1,nx i S=some (some d)/\au tg d ρ=some ρ1/\Ok (c ρ1 S) λes S1=>I (i+1) (acc++es) S1) (stop:∀acc S,I N acc S->nx N S=some none) (h:I 0 [] S) :
  Ok (bg nx tg c ρ k 0 S) (I N):=(m7 I step stop N 0 k [] S (by omega) hk h).mono λes S' z=>by rw[Xk] at z;exact z
theorem k9{nx:Nxt}{tg:Tg}{b:XS}{N:Nat}{Q:Fl->Rho->Sto->Prop}(I:Nat->Rho->Sto->Prop)
  (step:∀i ρ S,i < N->I i ρ S->∃d ρ1,nx i S=some (some d)/\au tg d ρ=some ρ1/\OkS (b ρ1 S) λfl ρ2 S2=>match fl with |.nx=>I (i+1) ρ2 S2 |.ct=>I (i+1) ρ2 S2 |.bk=>Q .nx ρ2 S2 |.rt d=>Q (.rt d) ρ2 S2)
  (stop:∀ρ S,I N ρ S->nx N S=some none/\Q .nx ρ S) :
  ∀ (n i k:Nat) (ρ:Rho) (S:Sto),N=i+n->n < k->I i ρ S->OkS (dI nx tg b k i ρ S) Q
 |0,i,k+1,ρ,S,hN,hk,h=>by
  obtain rfl:N=i:=by omega
  simp only[dI,(stop ρ S h).1];exact⟨_,_,_,rfl,(stop ρ S h).2⟩
 |n+1,i,k+1,ρ,S,hN,hk,h=>by
  obtain⟨d,ρ1,e1,e2,fl,ρ2,S2,e3,h'⟩:=step i ρ S (by omega) h;simp only[dI,e1,e2,e3];cases fl with
  |nx=>exact k9 I step stop n (i+1) k ρ2 S2 (by omega) (by omega) h'
  |ct=>exact k9 I step stop n (i+1) k ρ2 S2 (by omega) (by omega) h'
  |bk=>exact⟨_,_,_,rfl,h'⟩
  |rt d=>exact⟨_,_,_,rfl,h'⟩
theorem il{nx:Nxt}{tg:Tg}{b:XS}{k:Nat}{Q:Fl->Rho->Sto->Prop}(N:Nat)(I:Nat->Rho->Sto->Prop)(hk:N < k)
  (step:∀i ρ S,i < N->I i ρ S->∃d ρ1,nx i S=some (some d)/\au tg d ρ=some ρ1/\OkS (b ρ1 S) λfl ρ2 S2=>match fl with |.nx=>I (i+1) ρ2 S2 |.ct=>I (i+1) ρ2 S2 |.bk=>Q .nx ρ2 S2 |.rt d=>Q (.rt d) ρ2 S2)
  (stop:∀ρ S,I N ρ S->nx N S=some none/\Q .nx ρ S) (h:I 0 ρ S):OkS (dI nx tg b k 0 ρ S) Q:=k9 I step stop N 0 k ρ S (by omega) hk h
end
mutual
def TD(p:Nat)(S:Sto):Dw.D->D->Prop
 |.non,d=>d = .non
 |.bl b,d=>d = .bl b
 |.int i,d=>d = .int i
 |.str x,d=>d = .str x
 |.tup ts,d=>∃ds,d = .tup ds/\TDs p S ts ds
 |.lst ts,d=>∃n ds,d = .ref n/\n ≠ p/\S[n]?=some (.lst ds)/\TDs p S ts ds
 |.dic _ _,_=>False
def TDs(p:Nat)(S:Sto):List Dw.D->List D->Prop
 |[],ds=>ds=[]
 |t::ts,ds=>∃d r,ds=d::r/\TD p S t d/\TDs p S ts r
end
def Kp(p:Nat)(S S':Sto):Prop:=∀i o,i ≠ p->S[i]?=some o->S'[i]?=some o
def Sm(S S':Sto):Prop:=∀ (i:Nat) (o:Ob),S[i]?=some o->S'[i]?=some o
theorem Sm.kp{p:Nat}{S S':Sto}(h:Sm S S'):Kp p S S':=λi o _ e=>h i o e
theorem Sm.refl(S:Sto):Sm S S:=λ_ _ e=>e
theorem Sm.trans{S S1 S2:Sto}(a:Sm S S1)(b:Sm S1 S2):Sm S S2:=λi o e=>b i o (a i o e)
theorem Sm.app(S X:Sto):Sm S (S++X):=λi o e=>by
 have hi:=(Zb.mp e).1;rw[Zt hi];exact e
theorem Kp.refl(p:Nat)(S:Sto):Kp p S S:=λ_ _ _ e=>e
theorem Kp.trans{p:Nat}{S S1 S2:Sto}(a:Kp p S S1)(b:Kp p S1 S2):Kp p S S2:=λi o n e=>b i o n (a i o n e)
section
variable {p:Nat} {S S':Sto}
theorem zW:TD p S .non .non:=by rw[TD]
theorem bu{i:Int}:TD p S (.int i) (.int i):=by rw[TD]
theorem IG{x:Str}:TD p S (.str x) (.str x):=by rw[TD]
theorem bp{ts:List Dw.D}{ds:List D}(h:TDs p S ts ds):TD p S (.tup ts) (.tup ds):=by rw[TD];exact⟨ds,rfl,h⟩
theorem bE:TDs p S [] []:=by rw[TDs]
theorem ak{t:Dw.D}{d:D}{ts:List Dw.D}{ds:List D}(h:TD p S t d)(q:TDs p S ts ds):TDs p S (t::ts) (d::ds):=by rw[TDs];exact⟨d,ds,rfl,h,q⟩
theorem TD.non{d:D}(h:TD p S .non d):d = .non:=by rw[TD] at h;exact h
theorem TD.bl{b:Bool}{d:D}(h:TD p S (.bl b) d):d = .bl b:=by rw[TD] at h;exact h
theorem TD.int{i:Int}{d:D}(h:TD p S (.int i) d):d = .int i:=by rw[TD] at h;exact h
theorem TD.str{x:Str}{d:D}(h:TD p S (.str x) d):d = .str x:=by rw[TD] at h;exact h
theorem TD.tup{ts:List Dw.D}{d:D}(h:TD p S (.tup ts) d):∃ds,d = .tup ds/\TDs p S ts ds:=by rw[TD] at h;exact h
theorem TDs.cons{t:Dw.D}{ts:List Dw.D}{ds:List D}(h:TDs p S (t::ts) ds):∃d r,ds=d::r/\TD p S t d/\TDs p S ts r:=by rw[TDs] at h;exact h
theorem TDs.nil{ds:List D}(h:TDs p S [] ds):ds=[]:=by rw[TDs] at h;exact h
theorem TDs.len:∀ {ts:List Dw.D} {ds:List D},TDs p S ts ds->ds.length=ts.length
 |[],_,h=>by rw[h.nil];rfl
 |t::ts,_,h=>by obtain⟨d,r,rfl,_,q⟩:=h.cons;simp[q.len]
abbrev tyT:Dw.D->String
 |.non => "NoneType" |.bl _ => "bool" |.int _ => "int" |.str _ => "str" |.tup _ => "tuple" |.lst _ => "list" |.dic _ _ => "dict"
theorem MZ{t:Dw.D}{d:D}(h:TD p S t d):tyN d S=some (tyT t):=by
 cases t with
 |non=>rw[h.non];rfl
 |bl _=>rw[h.bl];rfl
 |int _=>rw[h.int];rfl
 |str _=>rw[h.str];rfl
 |tup _=>obtain⟨_,rfl,_⟩:=h.tup;rfl
 |lst _=>rw[TD] at h;obtain⟨n,ds,rfl,_,e,_⟩:=h;simp only[tyN,e];rfl
 |dic _ _=>rw[TD] at h;exact h.elim
theorem oD{ty:Ty}{t:Dw.D}{d:D}(h:TD p S t d):kh ty d S=some (.bl (fc ty (tyT t)),S):=by
 unfold kh;rw[MZ h];rfl
end
theorem Dn{n:Nat}:Ok (ql g n x ρ S) Q=Ok (x ρ S) λds S1=>ds.length=n/\Ok (g ds S1) Q:=by
 unfold ql;rw[bD]
 congr 1
 funext ds S1
 rw[cI,aV];apply propext;split
 ·rename_i h;exact⟨λz=>⟨h,z⟩,λz=>z.2⟩
 ·rename_i h;exact⟨λz=>z.elim,λz=>(h z.1).elim⟩
theorem IH:Ok (yZ x y ρ S) Q=Ok (x ρ S) λd S1=>∃b,d = .bl b/\if b=true then Ok (y ρ S1) Q else Q (.bl false) S1:=by
 unfold yZ;rw[bD]
 congr 1
 funext d S1
 apply propext;cases d with
 |bl b=>cases b <;> simp[aC]
 |_=>simp[aV]
theorem M0:Ok (xOr x y ρ S) Q=Ok (x ρ S) λd S1=>∃b,d = .bl b/\if b=true then Q (.bl true) S1 else Ok (y ρ S1) Q:=by
 unfold xOr;rw[bD]
 congr 1
 funext d S1
 apply propext;cases d with
 |bl b=>cases b <;> simp[aC]
 |_=>simp[aV]
theorem II:Ok (wp d S) Q=∃b,d = .bl b/\Q (.bl (!b)) S:=by
 apply propext;cases d with
 |bl b=>simp[wp,aC]
 |_=>simp[wp,aV]
theorem IJ:Ok (wq f g x y z ρ S) Q=Ok (x ρ S) λa S1=>Ok (y ρ S1) λb S2=>Ok (f a b S2) λr S3=>∃c,r = .bl c/\if c=true then Ok (z ρ S3) λe S4=>Ok (g b e S4) Q else Q (.bl false) S3:=by
 unfold wq;rw[bD]
 congr 1
 funext a S1
 rw[bD]
 congr 1
 funext b S2
 rw[bD]
 congr 1
 funext r S3
 apply propext;cases r with
 |bl c=>cases c <;> simp[aC,bD]
 |_=>simp[aV]
theorem IK{i:Nat}:Ok (vT i ρ S) Q=∃d,ρ[i]?=some (some d)/\Q d S:=by
 apply propext;unfold vT;cases h:ρ[i]? with
 |none=>simp[aV]
 |some o=>cases o with
  |none=>simp[aV]
  |some d=>simp[aC]
theorem M1{i j:Int}:Ok (aj .le (.int i) (.int j) S) Q=Q (.bl (decide (i<=j))) S:=aC
theorem M2{i j:Int}:Ok (aj .lt (.int i) (.int j) S) Q=Q (.bl (decide (i < j))) S:=aC
theorem M3{i j:Int}:Ok (aj .gt (.int i) (.int j) S) Q=Q (.bl (decide (j < i))) S:=aC
theorem M4{i j:Int}:Ok (aj .ge (.int i) (.int j) S) Q=Q (.bl (decide (j<=i))) S:=aC
theorem IL{i j:Int}:Ok (bJ .add (.int i) (.int j) S) Q=Q (.int (i+j)) S:=aC
theorem IM{i j:Int}:Ok (bJ .sub (.int i) (.int j) S) Q=Q (.int (i - j)) S:=aC
theorem M5:Ok (xB x ρ S) Q=Ok (x ρ S) λd S1=>∃b,d = .bl b/\Q b S1:=by
 unfold xB;rw[bD]
 congr 1
 funext d S1
 apply propext;cases d with
 |bl b=>simp[aC]
 |_=>simp[aV]
theorem Dp{own k:Nat}:Ok (ky own it tg c k ρ S) Q=Ok (it ρ S) λnx S1=>cO tg (ρ++Zu own none)=true/\Ok (bg nx tg c (ρ++Zu own none) k 0 S1) λes S2=>es.length<=100000/\Q es S2:=by
 unfold ky;rw[bD]
 congr 1
 funext nx S1
 rw[cI,aV];apply propext
 have e:Ok (bnd (bg nx tg c (ρ++Zu own none) k 0 S1) λes S2=>if es.length<=100000 then some (es,S2) else none) Q=Ok (bg nx tg c (ρ++Zu own none) k 0 S1) λes S2=>es.length<=100000/\Q es S2:=by
  rw[bD]
  congr 1
  funext es S2
  rw[cI,aV,aC];apply propext;split
  ·rename_i h;exact⟨λz=>⟨h,z⟩,λz=>z.2⟩
  ·rename_i h;exact⟨λz=>z.elim,λz=>(h z.1).elim⟩
 rw[e];split
 ·rename_i h;exact⟨λz=>⟨h,z⟩,λz=>z.2⟩
 ·rename_i h;exact⟨λz=>z.elim,λz=>(h z.1).elim⟩
theorem zX{k:Nat}:Ok (iO it tg c k ρ S) Q=(cO tg ρ=true/\Ok (it ρ S) λnx S1=>Ok (bg nx tg c ρ k 0 S1) Q):=by
 unfold iO;rw[cI,aV,bD];apply propext;split
 ·rename_i h;exact⟨λz=>⟨h,z⟩,λz=>z.2⟩
 ·rename_i h;exact⟨λz=>z.elim,λz=>(h z.1).elim⟩
theorem Dq:Ok (mE x ρ S) Q=Ok (x ρ S) λds S1=>ds.length<=1000/\Q ds S1:=by
 unfold mE;rw[bD]
 congr 1
 funext ds S1
 rw[cI,aV,aC];apply propext;split
 ·rename_i h;exact⟨λz=>⟨h,z⟩,λz=>z.2⟩
 ·rename_i h;exact⟨λz=>z.elim,λz=>(h z.1).elim⟩
theorem Ds:Ok (ju ds S) Q=(ds.length<=1000/\Q (.tup ds) S):=by
 unfold ju;rw[cI,aV,aC];apply propext;split
 ·rename_i h;exact⟨λz=>⟨h,z⟩,λz=>z.2⟩
 ·rename_i h;exact⟨λz=>z.elim,λz=>(h z.1).elim⟩
theorem oE{α:Type}(l:List α)(g:α->Bool)(S:Sto):jw false (l.map λt=>D.bl (g t)) S=some (.bl (l.all g),S):=by
 unfold jw;have h1:(l.map λt=>D.bl (g t)).all yC=true:=by rw[Y4];simp[Function.comp_def,yC]
 have h2:(l.map λt=>D.bl (g t)).all v0=l.all g:=by rw[Y4];rfl
 rw[if_pos ⟨rfl,h1⟩,h2]
theorem Dt{S:Sto}{n:Nat}{lo:Int}{tg:Tg}{c:XA}{ρ:Rho}{Q:List D->Sto->Prop}(hl:n<=100000)(g:Nat->Bool)
  (step:∀ (i:Nat) S',i < n->Sm S S'->∃ρ1,au tg (.int (lo+i)) ρ=some ρ1/\Ok (c ρ1 S') λes S1=>es=[.bl (g i)]/\Sm S' S1) (q:∀S',Sm S S'->Q ((Zl n).map λi=>.bl (g i)) S') :
  Ok (bg (nxR lo n) tg c ρ LF 0 S) λes S2=>es.length<=100000/\Q es S2:=by
 refine(fG n (λi acc S'=>Sm S S'/\acc=(Zl i).map λt=>.bl (g t)) (by unfold LF;lia) (λi acc S' hi ⟨sm,ea⟩=>?_) (λacc S' ⟨sm,ea⟩=>?_) ⟨Sm.refl S,by simp⟩).mono λes S' ⟨sm,ea⟩=>?_
 ·obtain⟨ρ1,e2,es,S1,e3,rfl,sm'⟩:=step i S' hi sm;refine⟨_,ρ1,by show some (if i < n then some (D.int (lo+i)) else none)=_;rw[if_pos hi],e2,_,S1,e3,sm.trans sm',?_⟩;rw[ea,Xl,ZD];rfl
 ·show some (if n < n then some (D.int (lo+n)) else none)=_;rw[if_neg (ZM n)]
 ·subst ea;exact⟨by rw[Za,ZC];exact hl,q S' sm⟩
theorem sQ{m n:Nat}(hm:S[m]?=some (.lst ((Zl n).map λj=>.int (Int.ofNat j))))(hn:n<=1000)(f:Nat->List D)
  (step:∀ (i:Nat) S',i < n->Sm S S'->∃ρ1,au tg (.int i) ρ=some ρ1/\Ok (c ρ1 S') λes S1=>es=f i/\Sm S' S1):Ok (bg (nxS m) tg c ρ LF 0 S) λes S2=>es=(Zl n).flatMap f/\Sm S S2:=by
 refine(fG n (λi acc S'=>Sm S S'/\acc=(Zl i).flatMap f) (by unfold LF;lia) (λi acc S' hi ⟨sm,ea⟩=>?_) (λacc S' ⟨sm,ea⟩=>?_) ⟨Sm.refl S,by simp⟩).mono λes S' ⟨sm,ea⟩=>⟨ea,sm⟩
 ·obtain⟨ρ1,e2,es,S1,e3,rfl,sm'⟩:=step i S' hi sm;refine⟨.int i,ρ1,?_,e2,_,S1,e3,sm.trans sm',?_⟩
  ·show(am S' m).map (λds=>ds[i]?)=_;simp only[am,sm _ _ hm,ZA,Zs,Yr hi];rfl
  ·rw[ea,Dw.mB]
 ·show(am S' m).map (λds=>ds[n]?)=_;simp only[am,sm _ _ hm,ZA];rw[Zv (by simp)]
theorem zY:Ok (dG x ρ S) Q=Ok (x ρ S) λds S1=>Q (.ref S1.length) (S1++[.lst ds]):=by
 unfold dG;rw[bD]
 congr 1
 funext ds S1
 rw[aC]
theorem IP(h:Ok (x ρ S) λd S1=>∃i:Nat,d = .int i/\i<=1000/\Q ((Zl i).map λj=>.int (Int.ofNat j)) S1):Ok (wz x ρ S) Q:=by
 unfold wz;rw[bD];refine h.mono λd S1 ⟨i,e,hi,q⟩=>?_;subst e;dsimp only;rw[if_pos (by lia),aC,ZJ];exact q
theorem qB(is:List Int):(is.map D.int).all cf=true:=by rw[Y4];simp[Function.comp_def,cf]
theorem zZ(is:List Int)(i:Int)(S:Sto):sx (.tup (is.map D.int)) [.int i] S=some (.int (is.count i:Nat),S):=by
 have e:((is.map D.int).countP λz=>eqF z (.int i))=is.count i:=by
  rw[List.countP_map];unfold List.count
  congr 1
 simp only[sx];rw[if_pos ⟨rfl,qB is⟩,e]
theorem oG(neg:Bool)(is:List Int)(i:Int)(S:Sto):inS neg (.int i) (.tup (is.map D.int)) S=some (.bl (neg != decide (i ∈ is)),S):=by
 have e:inF (.int i) (is.map D.int)=decide (i ∈ is):=by
  unfold inF;rw[List.any_map,YZ,Xe];simp only[Function.comp_def,eqF,beq_iff_eq,decide_eq_true_eq];exact⟨λ⟨x,hx,e⟩=>e ▸ hx,λh=>⟨i,h,rfl⟩⟩
 simp only[inS,ay];rw[if_pos ⟨rfl,qB is⟩,e]
theorem Du(i j:Int)(S:Sto):aj .eq (.int i) (.int j) S=some (.bl (decide (i=j)),S):=by
 simp only[aj,eqS];have:eqD 60 S (.int i) (.int j)=some (i == j):=rfl;rw[this];rfl
theorem Dv(i j:Int)(S:Sto):aj .ne (.int i) (.int j) S=some (.bl (!decide (i=j)),S):=l8 (x:=.int i) (y:=.int j) (b:=decide (i=j)) rfl
theorem IQ{i j:Int}:Ok (aj .eq (.int i) (.int j) S) Q=Q (.bl (decide (i=j))) S:=by rw[Du,aC]
theorem IR{i j:Int}:Ok (aj .ne (.int i) (.int j) S) Q=Q (.bl (!decide (i=j))) S:=by rw[Dv,aC]
theorem Dx{i:Nat}:au (.name i) d ρ=if i < ρ.length then some (ρ.set i (some d)) else none:=by simp only[au]
theorem z3:au (.tup ts) (.tup ds) ρ=aK ts ds ρ:=by simp only[au]
theorem uC:aK [] [] ρ=some ρ:=by simp only[aK]
theorem qC{i:Nat}:aK (.name i::ts) (d::ds) ρ=if i < ρ.length then aK ts ds (ρ.set i (some d)) else none:=by
 simp only[aK,au];split
 ·rename_i ρ' h;split at h
  ·rename_i hc;cases h;rw[if_pos hc]
  ·cases h
 ·rename_i h;split at h
  ·cases h
  ·rename_i hc;rw[if_neg hc]
theorem dg{i j:Nat}(h1:i < ρ.length)(h2:j < ρ.length):au (.tup [.name i,.name j]) (.tup [a,b]) ρ=some ((ρ.set i (some a)).set j (some b)):=by
 rw[z3,qC,if_pos h1,qC,if_pos (by rw[ZX];exact h2),uC]
theorem aM{a:Nat}(h:S[a]?=some (.lst es)):am S a=some es:=by simp only[am,h]
theorem Dy{a b n:Nat}(h1:S[a]?=some (.lst es))(h2:S[b]?=some (.lst []))(hn:a ≠ b):eqD (n+1) S (.ref a) (.ref b)=some es.isEmpty:=by
 show(match am S a,am S b with |some xs,some ys=>if a=b then some true else if xs.length=ys.length then eqL (eqD n S) xs ys else some false |_,_=>none)=_;rw[aM h1,aM h2];show(if a=b then some true else if es.length=([]:List D).length then eqL (eqD n S) es [] else some false)=_;rw[if_neg hn];cases es with
 |nil=>simp[eqL]
 |cons x xs=>simp
theorem z4{a b:Nat}(h1:S[a]?=some (.lst es))(h2:S[b]?=some (.lst []))(hn:a ≠ b):aj .ne (.ref a) (.ref b) S=some (.bl (!es.isEmpty),S):=l8 (Dy h1 h2 hn)
theorem z5(ds:List D)(k:Nat)(hk:k<=ds.length):fW ds none (some (k:Int))=ds.take k:=by
 unfold fW;rw[Dw.yh _ _ (by lia),ZJ,X3 hk];rfl
theorem IS{p:Nat}(h:TDs p S ts ds):ai cD (.tup ds) S=some (.int ts.length,S):=by
 simp only[ai,ay,cD,h.len]
section
variable {S S' S1 S2:Sto} {p:Nat} {Q:D->Sto->Prop} {ρ:Rho}
theorem IT{i j:Int}:Ok (bJ .mod (.int i) (.int j) S) Q=(0 < j/\Q (.int (i % j)) S):=by
 simp only[bJ,Hq,cI,aC,aV];apply propext;split
 ·rename_i h;exact⟨λz=>⟨h,z⟩,λz=>z.2⟩
 ·rename_i h;exact⟨λz=>z.elim,λz=>(h z.1).elim⟩
theorem Dz{i j:Int}:Ok (bJ .fdiv (.int i) (.int j) S) Q=((0 < j/\j < 1298074214633706907132624082305024)/\Q (.int (i / j)) S):=by
 simp only[bJ,yx,cI,aC,aV];apply propext;split
 ·rename_i h;exact⟨λz=>⟨h,z⟩,λz=>z.2⟩
 ·rename_i h;exact⟨λz=>z.elim,λz=>(h z.1).elim⟩
theorem IU{i j:Int}:Ok (bJ .mul (.int i) (.int j) S) Q=(fb i j=true/\Q (.int (i * j)) S):=by
 simp only[bJ,pX,cI,aC,aV];apply propext;split
 ·rename_i h;exact⟨λz=>⟨h,z⟩,λz=>z.2⟩
 ·rename_i h;exact⟨λz=>z.elim,λz=>(h z.1).elim⟩
theorem IV{i j:Int}:Ok (bJ .pow (.int i) (.int j) S) Q=((0<=j/\j<=1000000/\i.natAbs < 2 ^ 64)/\Q (.int (i ^ j.toNat)) S):=by
 simp only[bJ,Hr,cI,aC,aV];apply propext;split
 ·rename_i h;exact⟨λz=>⟨h,z⟩,λz=>z.2⟩
 ·rename_i h;exact⟨λz=>z.elim,λz=>(h z.1).elim⟩
theorem uD{i j:Int}(h1:-(2 ^ 64) < j)(h2:j < 2 ^ 64):fb i j=true:=by simp only[fb,YH,bAE,decide_eq_true_eq];exact .inr ⟨h1,h2⟩
theorem oH{i j:Int}(h1:-(2 ^ 64) < i)(h2:i < 2 ^ 64):fb i j=true:=by simp only[fb,YH,bAE,decide_eq_true_eq];exact .inl ⟨h1,h2⟩
def Pot(p:Nat)(S:Sto):Prop:=∃n:Int,S[p]?=some (.lst [.int n])
structure Dr(p:Nat)(S S':Sto):Prop where
 kp:Kp p S S'
 pot:Pot p S'
theorem Dr.refl(h:Pot p S):Dr p S S:=⟨Kp.refl p S,h⟩
theorem Dr.trans(a:Dr p S S1)(b:Dr p S1 S2):Dr p S S2:=⟨a.kp.trans b.kp,b.pot⟩
theorem Dr.sm(h:Pot p S)(s:Sm S S'):Dr p S S':=⟨s.kp,let ⟨n,e⟩:=h;⟨n,s _ _ e⟩⟩
theorem Dr.thenSm(a:Dr p S S1)(s:Sm S1 S2):Dr p S S2:=a.trans (Dr.sm a.pot s)
theorem Pot.lt(h:Pot p S):p < S.length:=let ⟨_,e⟩:=h;(Zb.mp e).1
theorem IW:Kp p S (S.set p o):=λi u n e=>by rw[Zp (Ne.symm n)];exact e
theorem dh(h:p < S.length):(S.set p o)[p]?=some o:=by rw[ZS h]
theorem jl{n:Nat}{lo:Int}{tg:Tg}{b:XS}{Q:Fl->Rho->Sto->Prop}(hl:n<=100000)(I:Nat->Rho->Sto->Prop)
  (step:∀ (i:Nat) ρ S,i < n->I i ρ S->∃ρ1,au tg (.int (lo+i)) ρ=some ρ1/\OkS (b ρ1 S) λfl ρ2 S2=>match fl with |.nx=>I (i+1) ρ2 S2 |.ct=>I (i+1) ρ2 S2 |.bk=>Q .nx ρ2 S2 |.rt d=>Q (.rt d) ρ2 S2)
  (q:∀ρ S',I n ρ S'->Q .nx ρ S') (h0:I 0 ρ S):OkS (dI (nxR lo n) tg b LF 0 ρ S) Q:=by
 refine il n I (by unfold LF;lia) (λi ρ S' hi iv=>?_) (λρ S' iv=>⟨?_,q ρ S' iv⟩) h0
 ·obtain⟨ρ1,e2,z⟩:=step i ρ S' hi iv;exact⟨_,ρ1,by show some (if i < n then some (D.int (lo+i)) else none)=_;rw[if_pos hi],e2,z⟩
 ·show some (if n < n then some (D.int (lo+n)) else none)=_;rw[if_neg (ZM n)]
theorem sR{n:Nat}{lo:Int}{tg:Tg}{c:XA}{Q:List D->Sto->Prop}(hl:n<=100000)(I:Nat->List D->Sto->Prop)
  (step:∀ (i:Nat) acc S',i < n->I i acc S'->∃ρ1,au tg (.int (lo+i)) ρ=some ρ1/\Ok (c ρ1 S') λes S1=>I (i+1) (acc++es) S1) (q:∀es S',I n es S'->es.length<=100000/\Q es S') (h0:I 0 [] S) :
  Ok (bg (nxR lo n) tg c ρ LF 0 S) λes S2=>es.length<=100000/\Q es S2:=by
 refine(fG n I (by unfold LF;lia) (λi acc S' hi iv=>?_) (λacc S' iv=>?_) h0).mono q
 ·obtain⟨ρ1,e2,z⟩:=step i acc S' hi iv;exact⟨_,ρ1,by show some (if i < n then some (D.int (lo+i)) else none)=_;rw[if_pos hi],e2,z⟩
 ·show some (if n < n then some (D.int (lo+n)) else none)=_;rw[if_neg (ZM n)]
theorem IX:Ok (rP x y ρ S) Q=Ok (x ρ S) λds S1=>Ok (y ρ S1) λi S2=>∃k,i = .int k/\∃d,atI ds k=some d/\Q d S2:=by
 unfold rP;rw[bD]
 congr 1
 funext ds S1
 rw[bD]
 congr 1
 funext i S2
 apply propext;cases i with
 |int k=>simp[IA]
 |_=>simp[aV]
theorem IY{i:Int}(h0:0<=i)(h1:i < ds.length):∃d,atI ds i=some d/\ds[i.toNat]?=some d:=by
 have hi:i.toNat < ds.length:=by lia
 refine⟨ds[i.toNat],?_,gEG hi⟩;unfold atI ixN;rw[if_pos h0,if_pos (by lia)];exact gEG hi
theorem oI{nx:Nxt}{tg:Tg}{c:XA}{Q:List D->Sto->Prop}(n:Nat)(el:Nat->D)(I:Nat->List D->Sto->Prop)(hnx:∀i acc S',i<=n->I i acc S'->nx i S'=some (if i < n then some (el i) else none))(hl:n<=100000)
  (step:∀ (i:Nat) acc S',i < n->I i acc S'->∃ρ1,au tg (el i) ρ=some ρ1/\Ok (c ρ1 S') λes S1=>I (i+1) (acc++es) S1) (q:∀es S',I n es S'->es.length<=100000/\Q es S') (h0:I 0 [] S) :
  Ok (bg nx tg c ρ LF 0 S) λes S2=>es.length<=100000/\Q es S2:=by
 refine(fG n I (by unfold LF;lia) (λi acc S' hi iv=>?_) (λacc S' iv=>?_) h0).mono q
 ·obtain⟨ρ1,e2,z⟩:=step i acc S' hi iv;exact⟨_,ρ1,by rw[hnx i acc S' (by lia) iv,if_pos hi],e2,z⟩
 ·rw[hnx n acc S' (Zd _) iv,if_neg (ZM n)]
theorem z6{m i:Nat}(h:S[m]?=some (.lst ds))(el:Nat->D)(he:∀i d,ds[i]?=some d->el i=d):nxS m i S=some (if i < ds.length then some (el i) else none):=by
 show(am S m).map (λds=>ds[i]?)=_;rw[aM h,ZA];split
 ·rename_i hi;rw[gEG hi,he i _ (gEG hi)]
 ·rename_i hi;rw[Zv (by lia)]
structure RowsS(p:Nat)(S:Sto)(rs:List D)(M:List (List Int)):Prop where
 len:rs.length=M.length
 row:∀ (i:Nat) r,M[i]?=some r->∃a,rs[i]?=some (.ref a)/\a ≠ p/\S[a]?=some (.lst (r.map D.int))
theorem RowsS.keep(h:RowsS p S rs M)(k:Kp p S S'):RowsS p S' rs M:=⟨h.len,λi r hr=>let ⟨a,e,n,z⟩:=h.row i r hr;⟨a,e,n,k _ _ n z⟩⟩
theorem RowsS.nil:RowsS p S [] []:=⟨rfl,λi r h=>by simp at h⟩
theorem RowsS.snoc{a:Nat}(h:RowsS p S rs M)(n:a ≠ p)(z:S[a]?=some (.lst (r.map D.int))):RowsS p S (rs++[.ref a]) (M++[r]):=by
 refine⟨by simp[h.len],λi r' hr=>?_⟩;by_cases hi:i < M.length
 ·rw[Zt hi] at hr;obtain⟨b,e,nb,zb⟩:=h.row i r' hr;exact⟨b,by rw[Zt (by rw[h.len];exact hi)];exact e,nb,zb⟩
 ·rw[Zo (by lia)] at hr
  have hz:i - M.length=0:=by
   have:=(Zb.mp hr).1;simp at this;lia
  rw[hz] at hr;cases hr;exact⟨a,by rw[Zo (by rw[h.len];lia),h.len,hz];rfl,n,z⟩
theorem aI:(S++[o])[S.length]?=some o:=by rw[Zo (Zd _),ZZ];rfl
theorem Kp.setNew{f:Nat}(h:Kp p S S')(hf:S.length<=f):Kp p S (S'.set f o):=λi u n e=>by
 have hi:=(Zb.mp e).1;rw[Zp (by lia)];exact h i u n e
theorem Pot.setNe{f:Nat}(h:Pot p S)(hf:f ≠ p):Pot p (S.set f o):=by
 obtain⟨n,e⟩:=h;exact⟨n,by rw[Zp hf];exact e⟩
abbrev ae(q:Int × Int):D:=.tup [.int q.1,.int q.2]
theorem fH:∀ (es:List (Int × Int)),TDs p S (es.map Dw.mD) (es.map ae)
 |[]=>bE
 |e::es=>ak (bp (ak bu (ak bu bE))) (fH es)
theorem iX{f:Nat}(h:S[f]?=some (.lst ds))(hl:ds.length < 100000):Ok (qd (.ref f) [e] S) Q=Q .non (S.set f (.lst (ds++[e]))):=by
 simp only[qd,chg,h];rw[if_pos hl];exact aC
theorem cg{f:Nat}(h:S[f]?=some (.lst ds)):cN (.ref f) S=true:=by simp only[cN,aM h];rfl
theorem jE{f:Nat}(h:S[f]?=some (.lst (ds++[e]))):ixS (.ref f) (.int (-1)) S=some (e,S):=by
 have:atI (ds++[e]) (-1:Int)=some e:=by
  unfold atI ixN;rw[if_neg (by decide),if_pos (by rw[Zg,Zm];lia)];show(ds++[e])[((-1:Int)+((ds++[e]).length:Int)).toNat]?=some e;have:((-1:Int)+((ds++[e]).length:Int)).toNat=ds.length:=by rw[Zg,Zm];lia
  rw[this,Zo (Zd _),ZZ];rfl
 simp only[ixS,ay,aM h,ZA,this]
theorem xP{i:Nat}(h:ds[i]?=some d):ixS (.tup ds) (.int i) S=some (d,S):=by
 have hi:=(Zb.mp h).1
 have ea:atI ds (i:Int)=some d:=by
  unfold atI ixN;rw[if_pos (by lia),if_pos (by lia),ZJ];exact h
 simp only[ixS,ay,ea,ZA]
theorem tQ{i:Nat}(h:ds[i]?=some d):atI ds (i:Int)=some d:=by
 have hi:=(Zb.mp h).1;unfold atI ixN;rw[if_pos (by lia),if_pos (by lia),ZJ];exact h
theorem DA:aj .eq (.tup ds) (.tup []) S=some (.bl ds.isEmpty,S):=by
 simp only[aj,eqS]
 have:eqD 60 S (.tup ds) (.tup [])=some ds.isEmpty:=by
  cases ds <;> rfl
 rw[this];rfl
theorem DB:aj .ne (.tup ds) (.tup []) S=some (.bl (!ds.isEmpty),S):=l8 (x:=.tup ds) (y:=.tup []) (b:=ds.isEmpty) (by cases ds <;> rfl)
theorem IZ:Ok (bJ .add (.tup xs) (.tup ys) S) Q=(xs.length+ys.length<=1000/\Q (.tup (xs++ys)) S):=by
 simp only[bJ,jv,cI,aC,aV];apply propext;split
 ·rename_i h;exact⟨λz=>⟨h,z⟩,λz=>z.2⟩
 ·rename_i h;exact⟨λz=>z.elim,λz=>(h z.1).elim⟩
end
@[inline]abbrev WP(α:Type):=Rho->Sto->(α->Sto->Prop)->Prop
def Sd{α:Type}(w:WP α)(x:Rho->Sto->Option (α × Sto)):Prop:=∀ρ S Q,w ρ S Q->Ok (x ρ S) Q
theorem aW{α β:Type}{x:Option (α × Sto)}{f:α->Sto->Option (β × Sto)}{Q:β->Sto->Prop}(h:Ok x λa S=>Ok (f a S) Q):Ok (bnd x f) Q:=bD ▸ h
theorem bq{α:Type}{a:α}{S:Sto}{Q:α->Sto->Prop}(h:Q a S):Ok (some (a,S)) Q:=⟨_,_,rfl,h⟩
def wIf(b:Bool)(A B:Prop):Prop:=match b with
 |true=>A
 |false=>B
def wBl(d:D)(Q:Bool->Prop):Prop:=match d with
 |.bl b=>Q b
 |.non=>False |.int _=>False |.str _=>False |.tup _=>False |.ref _=>False
def cw(d:D)(Q:Int->Prop):Prop:=match d with
 |.int i=>Q i
 |.non=>False |.bl _=>False |.str _=>False |.tup _=>False |.ref _=>False
theorem lb{d:D}{Q:Bool->Prop}(h:wBl d Q):∃b,d = .bl b/\Q b:=by cases d <;> first |exact h.elim |exact⟨_,rfl,h⟩
theorem cb{d:D}{Q:Int->Prop}(h:cw d Q):∃b,d = .int b/\Q b:=by cases d <;> first |exact h.elim |exact⟨_,rfl,h⟩
def OX(o:Option D)(Q:D->Prop):Prop:=match o with
 |some d=>Q d
 |none=>False
def sS:Rho->Nat->(D->Prop)->Prop
 |[],_,_=>False
 |o::_,0,Q=>OX o Q
 |_::ρ,i+1,Q=>sS ρ i Q
theorem uE:∀ {ρ:Rho} {i:Nat} {Q:D->Prop},sS ρ i Q->∃d,ρ[i]?=some (some d)/\Q d
 |[],_,_,h=>h.elim
 |some d::_,0,_,h=>⟨d,rfl,h⟩
 |none::_,0,_,h=>h.elim
 |o::ρ,i+1,_,h=>by rw[Yw];exact uE (ρ:=ρ) h
def M6(i:Nat):WP D:=λρ S Q=>sS ρ i λd=>Q d S
theorem M7{i:Nat}:Sd (M6 i) (vT i):=λρ S Q h=>by
 rw[IK];exact uE h
def wC(d:D):WP D:=λ_ S Q=>Q d S
theorem s_c{d:D}:Sd (wC d) (xC d):=λ_ _ _ h=>bq h
def DC(g:D->D->Sto->(D->Sto->Prop)->Prop)(x y:WP D):WP D:=λρ S Q=>x ρ S λa S1=>y ρ S1 λb S2=>g a b S2 Q
theorem z7{g:D->D->Sto->(D->Sto->Prop)->Prop}{f:D->D->Sto->Option (D × Sto)}{w v:WP D}{x y:XE}(hw:Sd w x)(hv:Sd v y)(hg:∀ {a b S Q},g a b S Q->Ok (f a b S) Q):Sd (DC g w v) (pQ f x y):=
 λ_ _ _ h=>aW ((hw _ _ _ h).mono λ_ _ h=>aW ((hv _ _ _ h).mono λ_ _ h=>hg h))
def wUn{α β:Type}(g:α->Sto->(β->Sto->Prop)->Prop)(x:WP α):WP β:=λρ S Q=>x ρ S λa S1=>g a S1 Q
theorem DD{α β:Type}{g:α->Sto->(β->Sto->Prop)->Prop}{f:α->Sto->Option (β × Sto)}{w:WP α}{x:Rho->Sto->Option (α × Sto)}(hw:Sd w x)(hg:∀ {a S Q},g a S Q->Ok (f a S) Q):Sd (wUn g w) (λρ S=>bnd (x ρ S) f):=
 λ_ _ _ h=>aW ((hw _ _ _ h).mono λ_ _ h=>hg h)
def wOk{α β:Type}(f:α->Sto->Option (β × Sto))(a:α)(S:Sto)(Q:β->Sto->Prop):Prop:=Ok (f a S) Q
def wII:BOp->Int->Int->Sto->(D->Sto->Prop)->Prop
 |.add,i,j,S,Q=>Q (.int (i+j)) S
 |.sub,i,j,S,Q=>Q (.int (i - j)) S
 |.mul,i,j,S,Q=>fb i j=true/\Q (.int (i * j)) S
 |.mod,i,j,S,Q=>0 < j/\Q (.int (i % j)) S
 |.fdiv,i,j,S,Q=>(0 < j/\j < 1298074214633706907132624082305024)/\Q (.int (i / j)) S
 |.pow,i,j,S,Q=>(0<=j/\j<=1000000/\i.natAbs < 2 ^ 64)/\Q (.int (i ^ j.toNat)) S
theorem I0{o:BOp}{i j:Int}{S:Sto}{Q:D->Sto->Prop}(h:wII o i j S Q):Ok (bJ o (.int i) (.int j) S) Q:=by
 cases o with
 |add=>rw[IL];exact h
 |sub=>rw[IM];exact h
 |mul=>rw[IU];exact h
 |mod=>rw[IT];exact h
 |fdiv=>rw[Dz];exact h
 |pow=>rw[IV];exact h
def wTT:BOp->List D->List D->Sto->(D->Sto->Prop)->Prop
 |.add,xs,ys,S,Q=>xs.length+ys.length<=1000/\Q (.tup (xs++ys)) S
 |.sub,_,_,_,_=>False
 |.mul,_,_,_,_=>False
 |.mod,_,_,_,_=>False
 |.fdiv,_,_,_,_=>False
 |.pow,_,_,_,_=>False
theorem I8{o:BOp}{i j:List D}{S:Sto}{Q:D->Sto->Prop}(h:wTT o i j S Q):Ok (bJ o (.tup i) (.tup j) S) Q:=by
 cases o with
 |add=>rw[IZ];exact h
 |_=>exact h.elim
def z8(o:BOp)(i:Int)(y:D)(S:Sto)(Q:D->Sto->Prop):Prop:=match y with
 |.int j=>wII o i j S Q
 |.non=>False |.bl _=>False |.str _=>False |.ref _=>False
 |.tup ys=>Ok (bJ o (.int i) (.tup ys) S) Q
def uF(o:BOp)(xs:List D)(y:D)(S:Sto)(Q:D->Sto->Prop):Prop:=match y with
 |.tup ys=>wTT o xs ys S Q
 |.non=>False |.bl _=>False |.str _=>False |.ref _=>False
 |.int j=>Ok (bJ o (.tup xs) (.int j) S) Q
def sU(o:BOp)(x y:D)(S:Sto)(Q:D->Sto->Prop):Prop:=match x with
 |.int i=>z8 o i y S Q
 |.tup xs=>uF o xs y S Q
 |.non=>Ok (bJ o .non y S) Q
 |.bl b=>Ok (bJ o (.bl b) y S) Q
 |.str b=>Ok (bJ o (.str b) y S) Q
 |.ref b=>Ok (bJ o (.ref b) y S) Q
theorem DE{o:BOp}{x y:D}{S:Sto}{Q:D->Sto->Prop}(h:sU o x y S Q):Ok (bJ o x y S) Q:=by
 cases x with
 |int i=>cases y with
  |int j=>exact I0 h
  |tup ys=>exact h
  |_=>exact h.elim
 |tup xs=>cases y with
  |int j=>exact h
  |tup ys=>exact I8 h
  |_=>exact h.elim
 |_=>exact h
def wCI:COp->Int->Int->Sto->(D->Sto->Prop)->Prop
 |.eq,i,j,S,Q=>Q (.bl (decide (i=j))) S
 |.ne,i,j,S,Q=>Q (.bl (!decide (i=j))) S
 |.lt,i,j,S,Q=>Q (.bl (decide (i < j))) S
 |.le,i,j,S,Q=>Q (.bl (decide (i<=j))) S
 |.gt,i,j,S,Q=>Q (.bl (decide (j < i))) S
 |.ge,i,j,S,Q=>Q (.bl (decide (j<=i))) S
 |.is,_,_,_,_=>False
 |.isnot,_,_,_,_=>False
 |.isin,_,_,_,_=>False
 |.notin,_,_,_,_=>False
theorem Ja{o:COp}{i j:Int}{S:Sto}{Q:D->Sto->Prop}(h:wCI o i j S Q):Ok (aj o (.int i) (.int j) S) Q:=by
 cases o with
 |eq=>rw[IQ];exact h
 |ne=>rw[IR];exact h
 |lt=>rw[M2];exact h
 |le=>rw[M1];exact h
 |gt=>rw[M3];exact h
 |ge=>rw[M4];exact h
 |_=>exact h.elim
def Jb(o:COp)(i:Int)(y:D)(S:Sto)(Q:D->Sto->Prop):Prop:=match y with
 |.int j=>wCI o i j S Q
 |.non=>Ok (aj o (.int i) .non S) Q
 |.bl b=>Ok (aj o (.int i) (.bl b) S) Q
 |.str b=>Ok (aj o (.int i) (.str b) S) Q
 |.ref b=>Ok (aj o (.int i) (.ref b) S) Q
 |.tup b=>Ok (aj o (.int i) (.tup b) S) Q
def wN(o:COp)(xs:List D)(y:D)(S:Sto)(Q:D->Sto->Prop):Prop:=match o with
 |.eq=>match y with
  |.tup ys=>match ys with
   |[]=>Q (.bl xs.isEmpty) S
   |y::ys=>Ok (aj .eq (.tup xs) (.tup (y::ys)) S) Q
  |.non=>Ok (aj .eq (.tup xs) .non S) Q
  |.bl b=>Ok (aj .eq (.tup xs) (.bl b) S) Q
  |.str b=>Ok (aj .eq (.tup xs) (.str b) S) Q
  |.ref b=>Ok (aj .eq (.tup xs) (.ref b) S) Q
  |.int b=>Ok (aj .eq (.tup xs) (.int b) S) Q
 |.ne=>match y with
  |.tup ys=>match ys with
   |[]=>Q (.bl (!xs.isEmpty)) S
   |y::ys=>Ok (aj .ne (.tup xs) (.tup (y::ys)) S) Q
  |.non=>Ok (aj .ne (.tup xs) .non S) Q
  |.bl b=>Ok (aj .ne (.tup xs) (.bl b) S) Q
  |.str b=>Ok (aj .ne (.tup xs) (.str b) S) Q
  |.ref b=>Ok (aj .ne (.tup xs) (.ref b) S) Q
  |.int b=>Ok (aj .ne (.tup xs) (.int b) S) Q
 |.is=>Ok (aj .is (.tup xs) y S) Q
 |.isnot=>Ok (aj .isnot (.tup xs) y S) Q
 |.isin=>Ok (aj .isin (.tup xs) y S) Q
 |.notin=>Ok (aj .notin (.tup xs) y S) Q
 |.lt=>False |.le=>False |.gt=>False |.ge=>False
def wCx(o:COp)(x y:D)(S:Sto)(Q:D->Sto->Prop):Prop:=match x with
 |.int i=>Jb o i y S Q
 |.tup xs=>wN o xs y S Q
 |.non=>Ok (aj o .non y S) Q
 |.bl b=>Ok (aj o (.bl b) y S) Q
 |.str b=>Ok (aj o (.str b) y S) Q
 |.ref b=>Ok (aj o (.ref b) y S) Q
theorem Jc{o:COp}{x y:D}{S:Sto}{Q:D->Sto->Prop}(h:wCx o x y S Q):Ok (aj o x y S) Q:=by
 cases x with
 |int i=>cases y with
  |int j=>exact Ja h
  |_=>exact h
 |tup xs=>cases o with
  |eq=>cases y with
   |tup ys=>cases ys with
    |nil=>rw[DA,aC];exact h
    |cons y ys=>exact h
   |_=>exact h
  |ne=>cases y with
   |tup ys=>cases ys with
    |nil=>rw[DB,aC];exact h
    |cons y ys=>exact h
   |_=>exact h
  |lt=>exact h.elim
  |le=>exact h.elim
  |gt=>exact h.elim
  |ge=>exact h.elim
  |_=>exact h
 |_=>exact h
def wCm(o:COp)(x y:D)(S:Sto)(Q:D->Sto->Prop):Prop:=match o with
 |.is=>Ok (aj .is x y S) Q
 |.isnot=>Ok (aj .isnot x y S) Q
 |.isin=>Ok (aj .isin x y S) Q
 |.notin=>Ok (aj .notin x y S) Q
 |.eq=>wCx .eq x y S Q
 |.ne=>wCx .ne x y S Q
 |.lt=>wCx .lt x y S Q
 |.le=>wCx .le x y S Q
 |.gt=>wCx .gt x y S Q
 |.ge=>wCx .ge x y S Q
theorem oJ{o:COp}{x y:D}{S:Sto}{Q:D->Sto->Prop}(h:wCm o x y S Q):Ok (aj o x y S) Q:=by
 cases o <;> first |exact Jc h |exact h
def Jd(o p:COp)(x y z:WP D):WP D:=λρ S Q=>x ρ S λa S1=>y ρ S1 λb S2=>wCm o a b S2 λr S3=>wBl r λc=>wIf c (z ρ S3 λe S4=>wCm p b e S4 Q) (Q (.bl false) S3)
theorem F1{o p:COp}{w v u:WP D}{x y z:XE}(hw:Sd w x)(hv:Sd v y)(hu:Sd u z):Sd (Jd o p w v u) (wq (aj o) (aj p) x y z):=λ_ _ _ h=>by
 rw[IJ];refine(hw _ _ _ h).mono λa S1 h=>(hv _ _ _ h).mono λb S2 h=>(oJ h).mono λr S3 h=>?_;obtain⟨c,e,h⟩:=lb h;refine⟨c,e,?_⟩;cases c with
 |true=>exact(hu _ _ _ h).mono λe S4 h=>oJ h
 |false=>exact h
def M8(x y:WP D):WP D:=λρ S Q=>x ρ S λd S1=>wBl d λb=>wIf b (y ρ S1 Q) (Q (.bl false) S1)
theorem M9{w v:WP D}{x y:XE}(hw:Sd w x)(hv:Sd v y):Sd (M8 w v) (yZ x y):=λ_ _ _ h=>by
 rw[IH];refine(hw _ _ _ h).mono λa S1 h=>?_;obtain⟨c,e,h⟩:=lb h;refine⟨c,e,?_⟩;cases c with
 |true=>exact hv _ _ _ h
 |false=>exact h
def wOr(x y:WP D):WP D:=λρ S Q=>x ρ S λd S1=>wBl d λb=>wIf b (Q (.bl true) S1) (y ρ S1 Q)
theorem OY{w v:WP D}{x y:XE}(hw:Sd w x)(hv:Sd v y):Sd (wOr w v) (xOr x y):=λ_ _ _ h=>by
 rw[M0];refine(hw _ _ _ h).mono λa S1 h=>?_;obtain⟨c,e,h⟩:=lb h;refine⟨c,e,?_⟩;cases c with
 |false=>exact hv _ _ _ h
 |true=>exact h
def Na(x:WP D):WP D:=λρ S Q=>x ρ S λd S1=>wBl d λb=>Q (.bl (!b)) S1
theorem Nb{w:WP D}{x:XE}(hw:Sd w x):Sd (Na w) (xUn wp x):=λ_ _ _ h=>aW ((hw _ _ _ h).mono λa S1 h=>by
 rw[II];exact lb h)
def Nc(x:WP D):WP D:=λρ S Q=>x ρ S λd S1=>cw d λi=>Q (.int (-i)) S1
theorem Ng{w:WP D}{x:XE}(hw:Sd w x):Sd (Nc w) (xUn HL x):=λ_ _ _ h=>aW ((hw _ _ _ h).mono λa S1 h=>by
 obtain⟨i,rfl,h⟩:=cb h;exact bq h)
def Nh{α:Type}(c:WP Bool)(x y:WP α):WP α:=λρ S Q=>c ρ S λb S1=>wIf b (x ρ S1 Q) (y ρ S1 Q)
theorem Ni{c:WP Bool}{w v:WP D}{t:XT}{x y:XE}(hc:Sd c t)(hw:Sd w x)(hv:Sd v y):Sd (Nh c w v) (HM t x y):=λ_ _ _ h=>aW ((hc _ _ _ h).mono λb S1 h=>by
 cases b with
 |true=>exact hw _ _ _ h
 | false=>exact hv _ _ _ h)
def wO:Option (WP D)->WP (Option Int)
 |none=>λ_ S Q=>Q none S
 |some w=>λρ S Q=>w ρ S λd S1=>cw d λi=>Q (some i) S1
def sV(lo hi:Option Int)(d:D)(S:Sto)(Q:D->Sto->Prop):Prop:=match d with
 |.tup ds=>Q (.tup (fW ds lo hi)) S
 |.ref n=>Ok (slS lo hi (.ref n) S) Q
 |.non=>False |.bl _=>False |.str _=>False |.int _=>False
def wSl(x:WP D)(lo hi:WP (Option Int)):WP D:=λρ S Q=>x ρ S λd S1=>lo ρ S1 λl S2=>hi ρ S2 λh S3=>sV l h d S3 Q
theorem OZ:Sd (wO none) rT:=λ_ _ _ h=>bq h
theorem O0{w:WP D}{x:XE}(hw:Sd w x):Sd (wO (some w)) (rV x):=λ_ _ _ h=>aW ((hw _ _ _ h).mono λd S1 h=>by
 obtain⟨i,rfl,h⟩:=cb h;exact bq h)
theorem O1{w:WP D}{l u:WP (Option Int)}{x:XE}{lo hi:XO}(hw:Sd w x)(hl:Sd l lo)(hu:Sd u hi):Sd (wSl w l u) (xSl x lo hi):=λ_ _ _ h=>aW ((hw _ _ _ h).mono λd S1 h=>aW ((hl _ _ _ h).mono λa S2 h=>aW ((hu _ _ _ h).mono λb S3 h=>by
 cases d with
 |tup ds=>exact bq h
 |ref n=>exact h
 | _=>exact h.elim)))
def F2(g:List D->Sto->Option (D × Sto))(n:Nat)(x:WP (List D)):WP D:=λρ S Q=>x ρ S λds S1=>ds.length=n/\Ok (g ds S1) Q
theorem Je{g:List D->Sto->Option (D × Sto)}{n:Nat}{w:WP (List D)}{x:XA}(hw:Sd w x):Sd (F2 g n w) (ql g n x):=λ_ _ _ h=>by
 rw[Dn];exact hw _ _ _ h
def lc(x:WP (List D)):WP D:=λρ S Q=>x ρ S λds S1=>Q (.ref S1.length) (S1++[.lst ds])
theorem im{w:WP (List D)}{x:XA}(hw:Sd w x):Sd (lc w) (dG x):=λ_ _ _ h=>by rw[zY];exact hw _ _ _ h
def eC:Nat->List CE->Prop->Prop
 |_,[],A=>A
 |0,_::_,_=>False
 |n+1,_::es,A=>eC n es A
theorem io:∀ {n:Nat} {es:List CE} {A:Prop},eC n es A->es.length<=n/\A
 |n,[],_,h=>⟨Xa _,by cases n <;> exact h⟩
 |0,_::_,_,h=>h.elim
 |n+1,_::es,_,h=>by rw[Zr];exact⟨XN (io (es:=es) h).1,(io (es:=es) h).2⟩
def wSh{α:Type}(es:List CE)(x:WP α):WP α:=λρ S Q=>eC 60 es (x ρ S Q)
def z9(c:D->Sto->Bool)(f:D->List D->Sto->Option (D × Sto))(x:WP D)(y:WP (List D)):WP D:=λρ S Q=>x ρ S λd S1=>c d S1=true/\y ρ S1 λas S2=>Ok (f d as S2) Q
theorem uG{c:D->Sto->Bool}{f:D->List D->Sto->Option (D × Sto)}{w:WP D}{v:WP (List D)}{x:XE}{y:XA}(hw:Sd w x)(hv:Sd v y):Sd (z9 c f w v) (sj c f x y):=λ_ _ _ h=>aW ((hw _ _ _ h).mono λd S1 h=>by
 rw[if_pos h.1];exact aW (hv _ _ _ h.2))
def Jf(x:WP D):WP (List D):=λρ S Q=>x ρ S λd S1=>∃i:Nat,d = .int i/\i<=1000/\Q ((Zl i).map λj=>.int (Int.ofNat j)) S1
theorem F3{w:WP D}{x:XE}(hw:Sd w x):Sd (Jf w) (wz x):=λ_ _ _ h=>IP (hw _ _ _ h)
def Jg:WP (List D):=λ_ S Q=>Q [] S
theorem F4:Sd Jg vU:=λ_ _ _ h=>bq h
def F5(x:WP D)(y:WP (List D)):WP (List D):=λρ S Q=>x ρ S λa S1=>y ρ S1 λas S2=>Q (a::as) S2
theorem Jh{w:WP D}{v:WP (List D)}{x:XE}{y:XA}(hw:Sd w x)(hv:Sd v y):Sd (F5 w v) (t7 x y):=λ_ _ _ h=>aW ((hw _ _ _ h).mono λd S1 h=>aW ((hv _ _ _ h).mono λds S2 h=>bq h))
def O2(o:Option D)(A:Prop):Prop:=match o with
 |none=>A
 |some _=>False
def wFr:Rho->Nat->Prop->Prop
 |[],_,_=>False
 |o::_,0,A=>O2 o A
 |_::ρ,i+1,A=>wFr ρ i A
theorem oK:∀ {ρ:Rho} {i:Nat} {A:Prop},wFr ρ i A->ρ[i]?=some none/\A
 |[],_,_,h=>h.elim
 |none::_,0,_,h=>⟨rfl,h⟩
 |some _::_,0,_,h=>h.elim
 |o::ρ,i+1,_,h=>by rw[Yw];exact oK (ρ:=ρ) h
def qD:List Tg->Rho->Prop->Prop
 |[],_,A=>A
 |.name i::ts,ρ,A=>wFr ρ i (qD ts ρ A)
 |.tup us::ts,ρ,A=>cO (.tup us) ρ=true/\qD ts ρ A
def wFt:Tg->Rho->Prop->Prop
 |.name i,ρ,A=>wFr ρ i A
 |.tup ts,ρ,A=>qD ts ρ A
theorem m8{i:Nat}{ρ:Rho}(h:ρ[i]?=some none):cO (.name i) ρ=true:=by rw[cO,h]
theorem oM:∀ {ts:List Tg} {ρ:Rho} {A:Prop},qD ts ρ A->fh ts ρ=true/\A
 |[],_,_,h=>⟨by rw[fh],h⟩
 |.name i::ts,ρ,_,h=>by
  obtain⟨e,h⟩:=oK h;obtain⟨e2,h⟩:=oM h;exact⟨by rw[fh,m8 e,e2];rfl,h⟩
 |.tup us::ts,ρ,_,h=>by
  obtain⟨e,h⟩:=h;obtain⟨e2,h⟩:=oM h;exact⟨by rw[fh,e,e2];rfl,h⟩
theorem sW{t:Tg}{ρ:Rho}{A:Prop}(h:wFt t ρ A):cO t ρ=true/\A:=by
 cases t with
 |name i=>exact⟨m8 (oK h).1,(oK h).2⟩
 |tup ts=>rw[cO];exact oM h
def qE:List Str->Rho->(Rho->Prop)->Prop
 |[],r,Q=>Q r
 |_::own,r,Q=>qE own (none::r) Q
def qF:Rho->Rho->(Rho->Prop)->Prop
 |[],r,Q=>Q r
 |o::ρ,r,Q=>qF ρ r λr'=>Q (o::r')
theorem uH:∀ {ρ r:Rho} {Q:Rho->Prop},qF ρ r Q->Q (ρ++r)
 |[],_,_,h=>h
 |o::ρ,r,Q,h=>uH (ρ:=ρ) (Q:=λr'=>Q (o::r')) h
theorem uI:∀ {own:List Str} {k:Nat} {Q:Rho->Prop},qE own (Zu k none) Q->Q (Zu (own.length+k) none)
 |[],k,_,h=>by rw[Z1,Y5];exact h
 |_::own,k,Q,h=>by
  have:=uI (own:=own) (k:=k+1) h;rw[Zr,show own.length+1+k=own.length+(k+1) by lia];exact this
def F6(own:List Str)(it:WP Nxt)(tg:Tg)(c:XA)(k:Nat):WP (List D):=λρ S Q=>it ρ S λnx S1=>qE own [] λr=>qF ρ r λρ'=>wFt tg ρ' (Ok (bg nx tg c ρ' k 0 S1) λes S2=>es.length<=100000/\Q es S2)
theorem Aa{own:List Str}{k:Nat}{w:WP Nxt}{it:XI}{tg:Tg}{c:XA}(hw:Sd w it):Sd (F6 own w tg c k) (ky own.length it tg c k):=λ_ _ _ h=>by
 rw[Dp]
 exact(hw _ _ _ h).mono λnx S1 h=>by
  have h:=uH (uI (own:=own) (k:=0) h);exact sW h
def Ab(it:WP Nxt)(tg:Tg)(c:XA)(k:Nat):WP (List D):=λρ S Q=>wFt tg ρ (it ρ S λnx S1=>Ok (bg nx tg c ρ k 0 S1) Q)
theorem DF{k:Nat}{w:WP Nxt}{it:XI}{tg:Tg}{c:XA}(hw:Sd w it):Sd (Ab w tg c k) (iO it tg c k):=λ_ _ _ h=>by
 rw[zX];exact⟨(sW h).1,hw _ _ _ (sW h).2⟩
def Ac(d:D)(S1:Sto)(Q:Nxt->Sto->Prop):Prop:=match d with
 |.tup ds=>Q (nxL ds) S1
 |.ref n=>(am S1 n).isSome=true/\Q (nxS n) S1
 |.non=>False |.bl _=>False |.str _=>False |.int _=>False
theorem O3{w:WP D}{x:XE}(hw:Sd w x):Sd (λρ S Q=>w ρ S λd S1=>Ac d S1 Q) (xIV x):=λ_ _ _ h=>aW ((hw _ _ _ h).mono λd S1 h=>by
 cases d with
 |tup ds=>exact bq h
 |ref n=>dsimp only;rw[if_pos h.1];exact bq h.2
 | _=>exact h.elim)
def Ae(d:D)(S1:Sto)(Q:Nxt->Sto->Prop):Prop:=match d with
 |.tup ds=>Q (sC ds) S1
 |.ref n=>(am S1 n).isSome=true/\Q (CB n) S1
 |.non=>False |.bl _=>False |.str _=>False |.int _=>False
theorem O4{w:WP D}{x:XE}(hw:Sd w x):Sd (λρ S Q=>w ρ S λd S1=>Ae d S1 Q) (xEV x):=λ_ _ _ h=>aW ((hw _ _ _ h).mono λd S1 h=>by
 cases d with
 |tup ds=>exact bq h
 |ref n=>dsimp only;rw[if_pos h.1];exact bq h.2
 | _=>exact h.elim)
def wOn{α β:Type}(f:α->β)(x:WP α):WP β:=λρ S Q=>x ρ S λa S1=>Q (f a) S1
theorem Af{α β:Type}{f:α->β}{w:WP α}{x:Rho->Sto->Option (α × Sto)}(hw:Sd w x):Sd (wOn f w) (λρ S=>bnd (x ρ S) λa S1=>some (f a,S1)):=λ_ _ _ h=>aW ((hw _ _ _ h).mono λd S1 h=>bq h)
def wR1(x:WP D):WP Nxt:=λρ S Q=>x ρ S λd S1=>cw d λj=>lim j=true/\Q (nxR 0 j.toNat) S1
theorem O5{w:WP D}{x:XE}(hw:Sd w x):Sd (wR1 w) (xR1 x):=λ_ _ _ h=>aW ((hw _ _ _ h).mono λd S1 h=>by
 obtain⟨i,rfl,h⟩:=cb h;dsimp only;rw[if_pos h.1];exact bq h.2)
def wDn(x:WP D):WP Nxt:=λρ S Q=>x ρ S λd S1=>cw d λj=>lim j=true/\Q (nxD j (j+1).toNat) S1
theorem O6{w:WP D}{x:XE}(hw:Sd w x):Sd (wDn w) (xDn x):=λ_ _ _ h=>aW ((hw _ _ _ h).mono λd S1 h=>by
 cases d with
 |int j=>obtain⟨h,q⟩:=h;dsimp only;rw[if_pos h];exact bq q
 | _=>exact h.elim)
def wR2(x y:WP D):WP Nxt:=λρ S Q=>x ρ S λd S1=>y ρ S1 λe S2=>cw d λi=>cw e λj=>(lim i=true/\lim j=true)/\Q (nxR i (j - i).toNat) S2
theorem O7{w v:WP D}{x y:XE}(hw:Sd w x)(hv:Sd v y):Sd (wR2 w v) (xR2 x y):=λ_ _ _ h=>aW ((hw _ _ _ h).mono λd S1 h=>aW ((hv _ _ _ h).mono λe S2 h=>by
 obtain⟨i,rfl,h'⟩:=cb h;obtain⟨j,rfl,h''⟩:=cb h';dsimp only;rw[if_pos h''.1];exact bq h''.2))
def cq(d:D)(S:Sto)(Q:Bool->Sto->Prop):Prop:=match d with
 |.bl b=>Q b S
 |.tup ds=>Q (!ds.isEmpty) S
 |.int i=>Q (i != 0) S
 |.non=>Q false S
 |.str y=>Ok (kf (.str y) S) Q
 |.ref y=>Ok (kf (.ref y) S) Q
theorem Ag{d:D}{S:Sto}{Q:Bool->Sto->Prop}(h:cq d S Q):Ok (kf d S) Q:=by cases d <;> first |exact bq h |exact h
def wB(x:WP D):WP Bool:=λρ S Q=>x ρ S λd S1=>wBl d λb=>Q b S1
theorem s_b{w:WP D}{x:XE}(hw:Sd w x):Sd (wB w) (xB x):=λ_ _ _ h=>by
 rw[M5];exact(hw _ _ _ h).mono λd S1 h=>lb h
def F7(x y:WP Bool):WP Bool:=λρ S Q=>x ρ S λb S1=>wIf b (y ρ S1 Q) (Q false S1)
def Nj(x y:WP Bool):WP Bool:=λρ S Q=>x ρ S λb S1=>wIf b (Q true S1) (y ρ S1 Q)
def F8(x:WP Bool):WP Bool:=λρ S Q=>x ρ S λb S1=>Q (!b) S1
theorem Ji{w v:WP Bool}{x y:XT}(hw:Sd w x)(hv:Sd v y):Sd (F7 w v) (y6 x y):=λ_ _ _ h=>aW ((hw _ _ _ h).mono λb S1 h=>by
 cases b with
 |true=>exact hv _ _ _ h
 | false=>exact bq h)
theorem Nk{w v:WP Bool}{x y:XT}(hw:Sd w x)(hv:Sd v y):Sd (Nj w v) (HQ x y):=λ_ _ _ h=>aW ((hw _ _ _ h).mono λb S1 h=>by
 cases b with
 |false=>exact hv _ _ _ h
 | true=>exact bq h)
theorem Jj{w:WP Bool}{x:XT}(hw:Sd w x):Sd (F8 w) (y7 x):=λ_ _ _ h=>aW ((hw _ _ _ h).mono λb S1 h=>bq h)
def F9(t:WP Bool)(c:WP (List D)):WP (List D):=λρ S Q=>t ρ S λb S1=>wIf b (c ρ S1 Q) (Q [] S1)
theorem Jk{t:WP Bool}{c:WP (List D)}{x:XT}{y:XA}(ht:Sd t x)(hc:Sd c y):Sd (F9 t c) (yW x y):=λ_ _ _ h=>aW ((ht _ _ _ h).mono λb S1 h=>by
 cases b with
 |true=>exact hc _ _ _ h
 | false=>exact bq h)
def DG(f:Bool->List D->Option (List D))(ds:List D)(S:Sto)(Q:List D->Sto->Prop):Prop:=∃es,f false ds=some es/\Q es S
def DH(f:Bool->List D->Option (List D))(d:D)(S:Sto)(Q:List D->Sto->Prop):Prop:=∃r es,ay d S=some r/\f r.1 r.2=some es/\Q es S
theorem Nm{f:Bool->List D->Option (List D)}{w:WP (List D)}{x:XA}(hw:Sd w x):Sd (λρ S Q=>w ρ S λds S1=>DG f ds S1 Q) (wx f x):=λ_ _ _ h=>aW ((hw _ _ _ h).mono λds S1 ⟨es,e,h⟩=>by rw[e];exact bq h)
theorem Nn{f:Bool->List D->Option (List D)}{w:WP D}{x:XE}(hw:Sd w x):Sd (λρ S Q=>w ρ S λds S1=>DH f ds S1 Q) (wy f x):=λ_ _ _ h=>aW ((hw _ _ _ h).mono λds S1 ⟨r,es,e1,e,h⟩=>by
 rw[e1];dsimp only;rw[e];exact bq h)
def wNo{α:Type}:WP α:=λ_ _ _=>False
theorem oO{α:Type}{x:Rho->Sto->Option (α × Sto)}:Sd wNo x:=λ_ _ _ h=>h.elim
def aP(b:Bool)(x:WP (List D))(y:WP D)(ρ:Rho)(S:Sto)(KT:List D->Sto->Prop)(KV:D->Sto->Prop):Prop:=match b with
 |true=>x ρ S KT
 |false=>y ρ S KV
def wOf{α:Type}(b:Bool)(x:WP (List D))(y:WP D)(gt:List D->Sto->(α->Sto->Prop)->Prop)(gv:D->Sto->(α->Sto->Prop)->Prop):WP α:=λρ S Q=>aP b x y ρ S (λds S1=>gt ds S1 Q) (λd S1=>gv d S1 Q)
theorem s_of{α:Type}{b:Bool}{w:WP (List D)}{v:WP D}{gt:List D->Sto->(α->Sto->Prop)->Prop}{gv:D->Sto->(α->Sto->Prop)->Prop}{x y:Rho->Sto->Option (α × Sto)}(hw:Sd (λρ S Q=>w ρ S λds S1=>gt ds S1 Q) x)(hv:Sd (λρ S Q=>v ρ S λd S1=>gv d S1 Q) y):Sd (wOf b w v gt gv) (if b=true then x else y):=by
 cases b with
 |true=>exact hw
 |false=>exact hv
theorem O8{b:Bool}{w:WP (List D)}{v u:WP D}{x:XA}{y z:XE}(hw:Sd w x)(hu:Sd u z)(hv:Sd v y):Sd (λρ S Q=>aP b w u ρ S (λds S1=>v ρ S1 λi S2=>cw i λk=>∃d,atI ds k=some d/\Q d S2) (λd S1=>v ρ S1 λi S2=>Ok (ixS d i S2) Q)) (if b=true then rP x y else pQ ixS z y):=λρ S Q h=>by
 cases b with
 |true=>
  show Ok (rP x y ρ S) Q;rw[IX];exact(hw _ _ _ h).mono λds S1 h=>(hv _ _ _ h).mono λi S2 h=>cb h
 |false=>exact aW ((hu _ _ _ h).mono λds S1 h=>aW (hv _ _ _ h))
abbrev wO2(t:CE->WP D):Option CE->Option (WP D)
 |none=>none
 |some e=>some (t e)
def DI(t:CE->WP Bool):Option CE->WP (List D)->WP (List D)
 |some c,x=>F9 (t c) x
 |none,x=>x
def Ah(x y:D)(S:Sto)(Q:D->Sto->Prop):Prop:=cw x λi=>cw y λj=>Q (.int (if j > i then j else i)) S
def Ai(x y:D)(S:Sto)(Q:D->Sto->Prop):Prop:=cw x λi=>cw y λj=>Q (.int (if j < i then j else i)) S
def w2(g:D->D->Sto->(D->Sto->Prop)->Prop):List D->Sto->(D->Sto->Prop)->Prop
 |[],_,_=>False
 |[_],_,_=>False
 |[x,y],S,Q=>g x y S Q
 |_::_::_::_,_,_=>False
theorem Ga{g:D->D->Sto->(D->Sto->Prop)->Prop}{f:D->D->Sto->Option (D × Sto)}(hg:∀ {a b S Q},g a b S Q->Ok (f a b S) Q):∀ {ds:List D} {S:Sto} {Q:D->Sto->Prop},w2 g ds S Q->Ok (two f ds S) Q
 |[],_,_,h=>h.elim
 |[_],_,_,h=>h.elim
 |[x,y],_,_,h=>hg h
 |_::_::_::_,_,_,h=>h.elim
def Gb:WP D:=λ_ S Q=>Q (.ref (Zj S)) (S++[.dic [] []])
def wCf(i:CI->WP Nxt)(own:List Str)(t:CE->XT)(e:List Cl->XA):List Cl->WP (List D)
 |[]=>wNo
 |⟨tg,it,cond⟩::rest=>F6 own (i it) tg (cnd t cond (e rest)) LF
mutual
def wE(C:Calls)(ar:Nat->Nat):Nat->CE->WP D
 |0,_=>wNo
 |n+1,e=>match e with
  |.non=>wC .non
  |.bl b=>wC (.bl b)
  |.int i=>wC (.int i)
  |.str x=>wC (.str x)
  |.var i=>M6 i
  |.con _ v=>wC (.int v)
  |.tup es=>wSh es (wOn D.tup (wA C ar n es))
  |.lst es=>lc (wSh es (wA C ar n es))
  |.dic0=>Gb
  |.bin o a b=>DC (sU o) (wE C ar n a) (wE C ar n b)
  |.neg a=>Nc (wE C ar n a)
  |.cmp o a b=>DC (wCm o) (wE C ar n a) (wE C ar n b)
  |.chn o p a b c=>Jd o p (wE C ar n a) (wE C ar n b) (wE C ar n c)
  |.and a b=>M8 (wE C ar n a) (wE C ar n b)
  |.or a b=>wOr (wE C ar n a) (wE C ar n b)
  |.not a=>Na (wE C ar n a)
  |.ite c a b=>Nh (wT C ar n c) (wE C ar n a) (wE C ar n b)
  |.ix a b=>λρ S Q=>aP (ag a) (wTm C ar n a) (wE C ar n a) ρ S (λds S1=>wE C ar n b ρ S1 λi S2=>cw i λk=>∃d,atI ds k=some d/\Q d S2) (λd S1=>wE C ar n b ρ S1 λi S2=>Ok (ixS d i S2) Q)
  |.sl a lo hi=>wSl (wE C ar n a) (wO (wO2 (wE C ar n) lo)) (wO (wO2 (wE C ar n) hi))
  |.call f es=>F2 (C f) (ar f) (wA C ar n es)
  |.inst t a=>wUn (wOk (kh t)) (wE C ar n a)
  |.len a=>wOf (ag a) (wTm C ar n a) (wE C ar n a) (wOk (cD false)) (wOk (ai cD))
  |.all a=>wOf (ag a) (wTm C ar n a) (wE C ar n a) (wOk (jw false)) (wOk (ai jw))
  |.tupOf a=>wOf (ag a) (wTm C ar n a) (wE C ar n a) (wOk (cX false)) (wOk (ai cX))
  |.listR a=>lc (Jf (wE C ar n a))
  |.srt a=>lc (wOf (ag a) (wTm C ar n a) (wE C ar n a) (DG cu) (DH cu))
  |.mxL a=>wOf (ag a) (wTm C ar n a) (wE C ar n a) (wOk (lW false)) (wOk (ai lW))
  |.mxD a c=>wOf (ag a) (wTm C ar n a) (wE C ar n a) (wOk (eM c false)) (wOk (ai (eM c)))
  |.sm a=>wOf (ag a) (wTm C ar n a) (wE C ar n a) (wOk (lX false)) (wOk (ai lX))
  |.rev a=>wUn (wOk pZ) (wE C ar n a)
  |.mnN a=>wOf (ag a) (wTm C ar n a) (wE C ar n a) (wOk (lZ false)) (wOk (ai lZ))
  |.mx a b=>wUn (w2 Ah) (wA C ar n [a,b])
  |.mn a b=>wUn (w2 Ai) (wA C ar n [a,b])
  |.rep a=>wUn (wOk ku) (wE C ar n a)
  |.comp own elt cls=>lc (wCf (wI C ar n) own (evT C ar n) (fY C ar n elt) cls)
  |.app o a=>z9 cN qd (wE C ar n o) (wA C ar n [a])
  |.pop o=>z9 cN sv (wE C ar n o) Jg
  |.popAt o a=>z9 cN gy (wE C ar n o) (wA C ar n [a])
  |.cnt o a=>z9 (λd _=>isTup d) sx (wE C ar n o) (wA C ar n [a])
def wA(C:Calls)(ar:Nat->Nat):Nat->List CE->WP (List D)
 |0,_=>wNo
 |n+1,es=>match es with
  |[]=>Jg
  |e::es=>F5 (wE C ar n e) (wA C ar n es)
def wTm(C:Calls)(ar:Nat->Nat):Nat->CE->WP (List D)
 |0,_=>wNo
 |n+1,e=>match e with
  |.lst es=>wSh es (wA C ar n es)
  |.listR a=>Jf (wE C ar n a)
  |.srt a=>wOf (ag a) (wTm C ar n a) (wE C ar n a) (DG cu) (DH cu)
  |.comp own elt cls=>wCf (wI C ar n) own (evT C ar n) (fY C ar n elt) cls
  |_=>wNo
def wI(C:Calls)(ar:Nat->Nat):Nat->CI->WP Nxt
 |0,_=>wNo
 |n+1,it=>match it with
  |.val a=>wOf (ag a) (wTm C ar n a) (wE C ar n a) (λds S Q=>Q (nxL ds) S) Ac
  |.r1 a=>wR1 (wE C ar n a)
  |.dn a=>wDn (wE C ar n a)
  |.r2 a b=>wR2 (wE C ar n a) (wE C ar n b)
  |.en a=>wOf (ag a) (wTm C ar n a) (wE C ar n a) (λds S Q=>Q (sC ds) S) Ae
def wT(C:Calls)(ar:Nat->Nat):Nat->CE->WP Bool
 |0,_=>wNo
 |n+1,e=>match e with
  |.cmp o a b=>wB (DC (wCm o) (wE C ar n a) (wE C ar n b))
  |.chn o p a b c=>wB (Jd o p (wE C ar n a) (wE C ar n b) (wE C ar n c))
  |.and a b=>F7 (wT C ar n a) (wT C ar n b)
  |.or a b=>Nj (wT C ar n a) (wT C ar n b)
  |.not a=>F8 (wT C ar n a)
  |.ite _ _ _=>wNo
  |e=>wUn cq (wE C ar n e)
end
def wCl(C:Calls)(ar:Nat->Nat)(n:Nat)(elt:CE):List Cl->WP (List D)
 |[]=>wOn (λd=>[d]) (wE C ar n elt)
 |⟨tg,it,cond⟩::rest=>Ab (wI C ar n it) tg (cnd (evT C ar n) cond (fY C ar n elt rest)) LF
theorem oP{C:Calls}{ar:Nat->Nat}:∀ {n:Nat} {es:List CE} {ρ:Rho} {S S':Sto} {ds:List D},evA C ar n es ρ S=some (ds,S')->ds.length=es.length
 |0,_,_,_,_,_,h=>by simp only[evA,xNo] at h;cases h
 |n+1,[],_,_,_,_,h=>by simp only[evA,vU] at h;cases h;rfl
 |n+1,e::es,_,_,_,_,h=>by
  simp only[evA,t7] at h;obtain⟨a,S1,e1,h⟩:=ab h;obtain⟨as,S2,e2,h⟩:=ab h;cases h;rw[Zr,Zr,oP e2]
structure SndW(C:Calls)(ar:Nat->Nat)(n:Nat):Prop where
 e:∀ {e:CE},Sd (wE C ar n e) (evE C ar n e)
 a:∀ {es:List CE},Sd (wA C ar n es) (evA C ar n es)
 m:∀ {e:CE},Sd (wTm C ar n e) (cF C ar n e)
 i:∀ {i:CI},Sd (wI C ar n i) (evI C ar n i)
 t:∀ {e:CE},Sd (wT C ar n e) (evT C ar n e)
section
variable {C:Calls} {ar:Nat->Nat} {n:Nat}
theorem Np(h:SndW C ar n){es:List CE}:Sd (wSh es (wOn D.tup (wA C ar n es))) (jt ju (evA C ar n es)):=λρ S Q w=>by
 obtain⟨le,w⟩:=io w;obtain⟨ds,S1,e1,q⟩:=h.a _ _ _ w;refine aW ⟨ds,S1,e1,?_⟩;have l:=oP e1;show Ok (ju ds S1) Q;rw[Ds];exact⟨by lia,q⟩
theorem Aj(h:SndW C ar n){es:List CE}:Sd (wSh es (wA C ar n es)) (mE (evA C ar n es)):=λρ S Q w=>by
 obtain⟨le,w⟩:=io w;obtain⟨ds,S1,e1,q⟩:=h.a _ _ _ w;rw[Dq];have l:=oP e1;exact⟨ds,S1,e1,by lia,q⟩
theorem Gc(h:SndW C ar n){o:Option CE}:Sd (wO (wO2 (wE C ar n) o)) (opt (evE C ar n) o):=by
 cases o with
 |none=>exact OZ
 |some e=>exact O0 h.e
theorem DJ{a b:D}{S:Sto}{Q:D->Sto->Prop}(h:Ah a b S Q):Ok (yE a b S) Q:=by
 obtain⟨i,rfl,h'⟩:=cb h;obtain⟨j,rfl,h''⟩:=cb h';exact bq h''
theorem DK{a b:D}{S:Sto}{Q:D->Sto->Prop}(h:Ai a b S Q):Ok (yF a b S) Q:=by
 obtain⟨i,rfl,h'⟩:=cb h;obtain⟨j,rfl,h''⟩:=cb h';exact bq h''
end
section
variable {C:Calls} {ar:Nat->Nat} {n:Nat}
theorem Nq(h:SndW C ar n){o:Option CE}{w:WP (List D)}{x:XA}(hw:Sd w x):Sd (DI (wT C ar n) o w) (cnd (evT C ar n) o x):=by
 cases o with
 |none=>exact hw
 |some c=>exact Jk h.t hw
theorem Ak{α β:Type}{f:α->Sto->Option (β × Sto)}{a:α}{S:Sto}{Q:β->Sto->Prop}(h:wOk f a S Q):Ok (f a S) Q:=h
theorem s_q(h:SndW C ar n){f:Bool->List D->Sto->Option (D × Sto)}{a:CE}:Sd (wOf (ag a) (wTm C ar n a) (wE C ar n a) (wOk (f false)) (wOk (ai f))) (if ag a=true then lQ f (cF C ar n a) else lU f (evE C ar n a)):=
 s_of (DD (f:=f false) h.m Ak) (DD (f:=ai f) h.e Ak)
theorem Gd(h:SndW C ar n){a:CE}:Sd (wOf (ag a) (wTm C ar n a) (wE C ar n a) (DG cu) (DH cu)) (if ag a=true then wx cu (cF C ar n a) else wy cu (evE C ar n a)):=s_of (Nm h.m) (Nn h.e)
theorem s_u{g:D->Sto->Option (D × Sto)}{w:WP D}{x:XE}(hw:Sd w x):Sd (wUn (wOk g) w) (xUn g x):=DD (f:=g) hw Ak
theorem O9{w:WP (List D)}{x:XA}(hw:Sd w x):Sd (wUn (w2 Ah) w) (jt (two yE) x):=λ_ _ _ h=>aW ((hw _ _ _ h).mono λ_ _ h=>Ga (λz=>DJ z) h)
theorem Pa{w:WP (List D)}{x:XA}(hw:Sd w x):Sd (wUn (w2 Ai) w) (jt (two yF) x):=λ_ _ _ h=>aW ((hw _ _ _ h).mono λ_ _ h=>Ga (λz=>DK z) h)
theorem Jl:Sd Gb zh:=λ_ _ _ h=>bq h
theorem Nr{w:WP D}{x:XE}(hw:Sd w x):Sd (wUn cq w) (Cs x):=DD (f:=kf) hw Ag
theorem m9:∀n,SndW C ar n
 |0=>⟨oO,oO,oO,oO,oO⟩
 |n+1=>by
  have h:=m9 n;refine⟨λ{e}=>?_,λ{es}=>?_,λ{e}=>?_,λ{i}=>?_,λ{e}=>?_⟩
  ·cases e with
   |non=>exact s_c
   |bl b=>exact s_c
   |int b=>exact s_c
   |str b=>exact s_c
   |var b=>exact M7
   |con b v=>exact s_c
   |tup es=>exact Np h
   |lst es=>exact im (Aj h)
   |dic0=>exact Jl
   |bin o a b=>exact z7 h.e h.e DE
   |neg a=>exact Ng h.e
   |cmp o a b=>exact z7 h.e h.e oJ
   |chn o p a b c=>exact F1 h.e h.e h.e
   |and a b=>exact M9 h.e h.e
   |or a b=>exact OY h.e h.e
   |not a=>exact Nb h.e
   |ite c a b=>exact Ni h.t h.e h.e
   |ix a b=>exact O8 h.m h.e h.e
   |sl a lo hi=>exact O1 h.e (Gc h) (Gc h)
   |call f es=>exact Je h.a
   |inst t a=>exact s_u h.e
   |len a=>exact s_q h
   |all a=>exact s_q h
   |tupOf a=>exact s_q h
   |listR a=>exact im (F3 h.e)
   |srt a=>exact im (Gd h)
   |mxL a=>exact s_q h
   |mxD a c=>exact s_q h
   |rev a=>exact s_u h.e
   |mnN a=>exact s_q h
   |sm a=>exact s_q h
   |mx a b=>exact O9 h.a
   |mn a b=>exact Pa h.a
   |rep a=>exact s_u h.e
   |comp own elt cls=>cases cls with
    |nil=>exact im oO
    |cons c rest=>cases c with |mk tg it cond=>exact im (Aa h.i)
   |app o a=>exact uG h.e h.a
   |pop o=>exact uG h.e F4
   |popAt o a=>exact uG h.e h.a
   |cnt o a=>exact uG h.e h.a
  ·cases es with
   |nil=>exact F4
   |cons e es=>exact Jh h.e h.a
  ·cases e with
   |lst es=>exact Aj h
   |listR a=>exact F3 h.e
   |srt a=>exact Gd h
   |comp own elt cls=>cases cls with
    |nil=>exact oO
    |cons c rest=>cases c with |mk tg it cond=>exact Aa h.i
   |_=>exact oO
  ·cases i with
   |val a=>exact s_of (Af h.m) (O3 h.e)
   |r1 a=>exact O5 h.e
   |dn a=>exact O6 h.e
   |r2 a b=>exact O7 h.e h.e
   |en a=>exact s_of (Af h.m) (O4 h.e)
  ·cases e with
   |cmp o a b=>exact s_b (z7 h.e h.e oJ)
   |chn o p a b c=>exact s_b (F1 h.e h.e h.e)
   |and a b=>exact Ji h.t h.t
   |or a b=>exact Nk h.t h.t
   |not a=>exact Jj h.t
   |ite a b c=>exact oO
   |_=>exact Nr h.e
theorem Pb{elt:CE}{cls:List Cl}:Sd (wCl C ar n elt cls) (fY C ar (n+1) elt cls):=by
 cases cls with
 |nil=>exact Af (m9 n).e
 |cons c rest=>cases c with |mk tg it cond=>exact DF (m9 n).i
theorem Jm{elt:CE}{cls:List Cl}{o:Option CE}{ρ:Rho}{S:Sto}{Q:List D->Sto->Prop}(h:DI (wT C ar (n+1)) o (wCl C ar n elt cls) ρ S Q):Ok (cnd (evT C ar (n+1)) o (fY C ar (n+1) elt cls) ρ S) Q:=Nq (m9 (n+1)) Pb _ _ _ h
def wNm:Nat->D->Rho->(Rho->Prop)->Prop
 |_,_,[],_=>False
 |0,d,_::ρ,Q=>Q (some d::ρ)
 |i+1,d,o::ρ,Q=>wNm i d ρ λρ'=>Q (o::ρ')
theorem oQ:∀ {i:Nat} {d:D} {ρ:Rho} {Q:Rho->Prop},wNm i d ρ Q->i < ρ.length/\Q (ρ.set i (some d))
 |i,_,[],_,h=>by cases i <;> exact h.elim
 |0,d,_::ρ,Q,h=>⟨by simp,h⟩
 |i+1,d,o::ρ,Q,h=>by
  have:=oQ (ρ:=ρ) (Q:=λρ'=>Q (o::ρ')) h;exact⟨by rw[Zr];lia,this.2⟩
def wBs:List Tg->List D->Rho->(Rho->Prop)->Prop
 |[],[],ρ,Q=>Q ρ
 |[],_::_,_,_=>False
 |.name _::_,[],_,_=>False
 |.tup _::_,[],_,_=>False
 |.name i::ts,d::ds,ρ,Q=>wNm i d ρ λρ1=>wBs ts ds ρ1 Q
 |.tup us::ts,d::ds,ρ,Q=>∃ρ1,au (.tup us) d ρ=some ρ1/\wBs ts ds ρ1 Q
def wTp(ts:List Tg)(d:D)(ρ:Rho)(Q:Rho->Prop):Prop:=match d with
 |.tup ds=>wBs ts ds ρ Q
 |.non=>False |.bl _=>False |.str _=>False |.int _=>False |.ref _=>False
def wBd:Tg->D->Rho->(Rho->Prop)->Prop
 |.name i,d,ρ,Q=>wNm i d ρ Q
 |.tup ts,d,ρ,Q=>wTp ts d ρ Q
theorem Al{i:Nat}{d:D}{ρ:Rho}{Q:Rho->Prop}(h:wNm i d ρ Q):∃ρ1,au (.name i) d ρ=some ρ1/\Q ρ1:=⟨_,by rw[Dx,if_pos (oQ h).1],(oQ h).2⟩
theorem sX:∀ {ts:List Tg} {ds:List D} {ρ:Rho} {Q:Rho->Prop},wBs ts ds ρ Q->∃ρ1,aK ts ds ρ=some ρ1/\Q ρ1
 |[],[],ρ,Q,h=>⟨ρ,uC,h⟩
 |[],_::_,_,_,h=>h.elim
 |.name _::_,[],_,_,h=>h.elim
 |.tup _::_,[],_,_,h=>h.elim
 |.name i::ts,d::ds,ρ,Q,h=>by
  obtain⟨ρ1,e,q⟩:=Al h;obtain⟨ρ2,e2,q⟩:=sX q;exact⟨ρ2,by rw[aK,e];exact e2,q⟩
 |.tup us::ts,d::ds,ρ,Q,h=>by
  obtain⟨ρ1,e,q⟩:=h;obtain⟨ρ2,e2,q⟩:=sX q;exact⟨ρ2,by rw[aK,e];exact e2,q⟩
theorem Jn{t:Tg}{d:D}{ρ:Rho}{Q:Rho->Prop}(h:wBd t d ρ Q):∃ρ1,au t d ρ=some ρ1/\Q ρ1:=by
 cases t with
 |name i=>exact Al h
 |tup ts=>cases d with
  |tup ds=>rw[z3];exact sX h
  |_=>exact h.elim
@[inline]abbrev WS:=Rho->Sto->(Fl->Rho->Sto->Prop)->Prop
def rW(y:WS)(ρ:Rho)(S:Sto)(Q:Fl->Rho->Sto->Prop):Prop:=y ρ S Q
def wNx(y:WS)(Q:Fl->Rho->Sto->Prop)(f:Fl)(ρ:Rho)(S:Sto):Prop:=match f with
 |.nx=>rW y ρ S Q
 |.rt d=>Q (.rt d) ρ S
 |.bk=>Q .bk ρ S
 |.ct=>Q .ct ρ S
mutual
def wS(C:Calls)(ar:Nat->Nat):Nat->CS->WS
 |0,_=>λ_ _ _=>False
 |n+1,s=>match s with
  |.asg t e=>λρ S Q=>wE C ar n e ρ S λd S1=>wBd t d ρ λρ1=>Q .nx ρ1 S1
  |.setI v o i=>λρ S Q=>wE C ar n v ρ S λa S1=>wE C ar n o ρ S1 λb S2=>wE C ar n i ρ S2 λc S3=>∃S4,iM b c a S3=some S4/\Q .nx ρ S4
  |.ex e=>λρ S Q=>wE C ar n e ρ S λ_ S1=>Q .nx ρ S1
  |.ret e=>λρ S Q=>wE C ar n e ρ S λd S1=>Q (.rt d) ρ S1
  |.ifs c a b=>λρ S Q=>wT C ar n c ρ S λt S1=>wIf t (rW (wSs C ar n a) ρ S1 Q) (rW (wSs C ar n b) ρ S1 Q)
  |.for_ t it b=>λρ S Q=>wI C ar n it ρ S λnx S1=>OkS (dI nx t (eR C ar n b) LF 0 ρ S1) Q
  |.while_ c b=>λρ S Q=>OkS (bB (evT C ar n c) (eR C ar n b) LF ρ S) Q
  |.cnt=>λρ S Q=>Q .ct ρ S
  |.never=>λ_ _ _=>False
def wSs(C:Calls)(ar:Nat->Nat):Nat->List CS->WS
 |0,_=>λ_ _ _=>False
 |n+1,ss=>match ss with
  |[]=>λρ S Q=>Q .nx ρ S
  |s::ss=>λρ S Q=>wS C ar n s ρ S (wNx (wSs C ar n ss) Q)
end
structure SdS(C:Calls)(ar:Nat->Nat)(n:Nat):Prop where
 s:∀ {s:CS} {ρ S Q},wS C ar n s ρ S Q->OkS (evS C ar n s ρ S) Q
 ss:∀ {ss:List CS} {ρ S Q},wSs C ar n ss ρ S Q->OkS (eR C ar n ss ρ S) Q
theorem Am:∀n,SdS C ar n
 |0=>⟨λh=>by simp only[wS] at h,λh=>by simp only[wSs] at h⟩
 |n+1=>by
  have h:=Am n;have g:SndW C ar n:=m9 n;refine⟨λ{s ρ S Q} w=>?_,λ{ss ρ S Q} w=>?_⟩
  ·cases s with
   |asg t e=>simp only[evS,Dj];simp only[wS] at w;exact(g.e _ _ _ w).mono λd S1 w=>Jn w
   |setI v o i=>simp only[evS,zV];simp only[wS] at w;exact(g.e _ _ _ w).mono λa S1 w=>(g.e _ _ _ w).mono λb S2 w=>g.e _ _ _ w
   |ex e=>simp only[evS,zU];simp only[wS] at w;exact g.e _ _ _ w
   |ret e=>simp only[evS,Dk];simp only[wS] at w;exact g.e _ _ _ w
   |ifs c a b=>
    simp only[evS,IB];simp only[wS] at w;refine(g.t _ _ _ w).mono λt S1 w=>?_;cases t with
    |true=>exact h.ss w
    |false=>exact h.ss w
   |for_ t it b=>simp only[evS,Dm];simp only[wS] at w;exact g.i _ _ _ w
   |while_ c b=>simp only[wS] at w;simp only[evS];exact w
   |cnt=>simp only[wS] at w;simp only[evS];exact⟨_,_,_,rfl,w⟩
   |never=>simp only[wS] at w
  ·cases ss with
   |nil=>simp only[wSs] at w;simp only[eR];exact⟨_,_,_,rfl,w⟩
   |cons s ss=>
    simp only[wSs] at w;simp only[eR,Di];refine(h.s w).mono λf ρ1 S1 w=>?_;cases f with
    |nx=>exact h.ss w
    |_=>exact w
theorem Jo{ss:List CS}{ρ:Rho}{S:Sto}{Q:Fl->Rho->Sto->Prop}(h:rW (wSs C ar n ss) ρ S Q):OkS (eR C ar n ss ρ S) Q:=(Am n).ss h
theorem An{s:CS}{ss:List CS}{ρ:Rho}{S:Sto}{Q:Fl->Rho->Sto->Prop}(h:wS C ar n s ρ S (wNx (wSs C ar n ss) Q)):rW (wSs C ar (n+1) (s::ss)) ρ S Q:=h
theorem DM{ρ:Rho}{S:Sto}{Q:Fl->Rho->Sto->Prop}(h:Q .nx ρ S):rW (wSs C ar (n+1) []) ρ S Q:=h
end
section
variable {C:Calls} {ar:Nat->Nat} {A B:Prop} {S S1:Sto} {Q:D->Sto->Prop} {Ql:List D->Sto->Prop} {Qn:Nxt->Sto->Prop} {Qb:Bool->Prop} {Qi:Int->Prop} {Qd:D->Prop} {Qr:Rho->Prop} {Qt:Bool->Sto->Prop} {Qs:Fl->Rho->Sto->Prop} {t:Bool} {d x y:D} {i j:Int} {n m f:Nat} {s:Str} {o:BOp} {c p:COp} {ds xs ys:List D} {l h:Option Int} {tg:Tg} {ts:List Tg} {ρ ρ2:Rho} {es:List CE} {a b e:CE} {oa ob cd:Option CE} {own:List Str} {it:CI} {rest:List Cl} {ty:Ty} {w wl:WP (List D)} {wv:WP D} {sa sb:List CS} {ws:WS} {od:Option D} {g:D->D->Sto->(D->Sto->Prop)->Prop}
theorem Jp:wE C ar (n+1) (.non) ρ S Q=(Q .non S):=rfl
theorem Nt:wE C ar (n+1) (.bl t) ρ S Q=(Q (.bl t) S):=rfl
theorem Jq:wE C ar (n+1) (.int i) ρ S Q=(Q (.int i) S):=rfl
theorem Jr:wE C ar (n+1) (.str s) ρ S Q=(Q (.str s) S):=rfl
theorem Js:wE C ar (n+1) (.con m i) ρ S Q=(Q (.int i) S):=rfl
theorem Jt:wE C ar (n+1) (.var m) ρ S Q=(sS ρ m λd=>Q d S):=rfl
theorem Ju:wE C ar (n+1) (.tup es) ρ S Q=(eC 60 es (wA C ar n es ρ S λds S1=>Q (.tup ds) S1)):=rfl
theorem Jv:wE C ar (n+1) (.lst es) ρ S Q=(eC 60 es (wA C ar n es ρ S λds S1=>Q (.ref S1.length) (S1++[.lst ds]))):=rfl
theorem DN:wE C ar (n+1) (.dic0) ρ S Q=(Q (.ref (Zj S)) (S++[.dic [] []])):=rfl
theorem Jw:wE C ar (n+1) (.bin o a b) ρ S Q=(wE C ar n a ρ S λx S1=>wE C ar n b ρ S1 λy S2=>sU o x y S2 Q):=rfl
theorem Jx:wE C ar (n+1) (.neg a) ρ S Q=(wE C ar n a ρ S λd S1=>cw d λi=>Q (.int (-i)) S1):=rfl
theorem Jy:wE C ar (n+1) (.cmp c a b) ρ S Q=(wE C ar n a ρ S λx S1=>wE C ar n b ρ S1 λy S2=>wCm c x y S2 Q):=rfl
theorem Jz:wE C ar (n+1) (.chn c p a b e) ρ S Q=(wE C ar n a ρ S λx S1=>wE C ar n b ρ S1 λy S2=>wCm c x y S2 λr S3=>wBl r λt=>wIf t (wE C ar n e ρ S3 λz S4=>wCm p y z S4 Q) (Q (.bl false) S3)):=rfl
theorem JA:wE C ar (n+1) (.and a b) ρ S Q=(wE C ar n a ρ S λd S1=>wBl d λt=>wIf t (wE C ar n b ρ S1 Q) (Q (.bl false) S1)):=rfl
theorem Nu:wE C ar (n+1) (.or a b) ρ S Q=(wE C ar n a ρ S λd S1=>wBl d λt=>wIf t (Q (.bl true) S1) (wE C ar n b ρ S1 Q)):=rfl
theorem JB:wE C ar (n+1) (.not a) ρ S Q=(wE C ar n a ρ S λd S1=>wBl d λt=>Q (.bl (!t)) S1):=rfl
theorem JC:wE C ar (n+1) (.ite e a b) ρ S Q=(wT C ar n e ρ S λt S1=>wIf t (wE C ar n a ρ S1 Q) (wE C ar n b ρ S1 Q)):=rfl
theorem Nv:wE C ar (n+1) (.ix a b) ρ S Q=(aP (ag a) (wTm C ar n a) (wE C ar n a) ρ S (λds S1=>wE C ar n b ρ S1 λi S2=>cw i λk=>∃d,atI ds k=some d/\Q d S2) (λd S1=>wE C ar n b ρ S1 λi S2=>Ok (ixS d i S2) Q)):=rfl
theorem DP:wE C ar (n+1) (.sl a none none) ρ S Q=(wE C ar n a ρ S λd S1=>sV none none d S1 Q):=rfl
theorem DQ:wE C ar (n+1) (.sl a none (some b)) ρ S Q=(wE C ar n a ρ S λd S1=>wE C ar n b ρ S1 λy S2=>cw y λj=>sV none (some j) d S2 Q):=rfl
theorem DR:wE C ar (n+1) (.sl a (some b) none) ρ S Q=(wE C ar n a ρ S λd S1=>wE C ar n b ρ S1 λy S2=>cw y λj=>sV (some j) none d S2 Q):=rfl
theorem DS:wE C ar (n+1) (.sl a (some b) (some e)) ρ S Q=(wE C ar n a ρ S λd S1=>wE C ar n b ρ S1 λy S2=>cw y λj=>wE C ar n e ρ S2 λz S3=>cw z λk=>sV (some j) (some k) d S3 Q):=rfl
theorem DT:wE C ar (n+1) (.call f es) ρ S Q=(wA C ar n es ρ S λds S1=>ds.length=ar f/\Ok (C f ds S1) Q):=rfl
theorem DU:wE C ar (n+1) (.inst ty a) ρ S Q=(wE C ar n a ρ S λd S1=>Ok (kh ty d S1) Q):=rfl
theorem JD:wE C ar (n+1) (.len a) ρ S Q=(aP (ag a) (wTm C ar n a) (wE C ar n a) ρ S (λds S1=>Ok (cD false ds S1) Q) (λd S1=>Ok (ai cD d S1) Q)):=rfl
theorem JE:wE C ar (n+1) (.all a) ρ S Q=(aP (ag a) (wTm C ar n a) (wE C ar n a) ρ S (λds S1=>Ok (jw false ds S1) Q) (λd S1=>Ok (ai jw d S1) Q)):=rfl
theorem Ao:wE C ar (n+1) (.tupOf a) ρ S Q=(aP (ag a) (wTm C ar n a) (wE C ar n a) ρ S (λds S1=>Ok (cX false ds S1) Q) (λd S1=>Ok (ai cX d S1) Q)):=rfl
theorem JF:wE C ar (n+1) (.mxL a) ρ S Q=(aP (ag a) (wTm C ar n a) (wE C ar n a) ρ S (λds S1=>Ok (lW false ds S1) Q) (λd S1=>Ok (ai lW d S1) Q)):=rfl
theorem JG:wE C ar (n+1) (.mxD a i) ρ S Q=(aP (ag a) (wTm C ar n a) (wE C ar n a) ρ S (λds S1=>Ok (eM i false ds S1) Q) (λd S1=>Ok (ai (eM i) d S1) Q)):=rfl
theorem Nw:wE C ar (n+1) (.sm a) ρ S Q=(aP (ag a) (wTm C ar n a) (wE C ar n a) ρ S (λds S1=>Ok (lX false ds S1) Q) (λd S1=>Ok (ai lX d S1) Q)):=rfl
theorem Ap:wE C ar (n+1) (.listR a) ρ S Q=(wE C ar n a ρ S λd S1=>∃i:Nat,d = .int i/\i<=1000/\Q (.ref S1.length) (S1++[.lst ((Zl i).map λj=>.int (Int.ofNat j))])):=rfl
theorem JH:wE C ar (n+1) (.srt a) ρ S Q=(aP (ag a) (wTm C ar n a) (wE C ar n a) ρ S (λds S1=>∃es,cu false ds=some es/\Q (.ref S1.length) (S1++[.lst es])) (λd S1=>∃r es,ay d S1=some r/\cu r.1 r.2=some es/\Q (.ref S1.length) (S1++[.lst es]))):=rfl
theorem JI:wE C ar (n+1) (.rev a) ρ S Q=(wE C ar n a ρ S λd S1=>Ok (pZ d S1) Q):=rfl
theorem JJ:wE C ar (n+1) (.mnN a) ρ S Q=(aP (ag a) (wTm C ar n a) (wE C ar n a) ρ S (λds S1=>Ok (lZ false ds S1) Q) (λd S1=>Ok (ai lZ d S1) Q)):=rfl
theorem Nx:wE C ar (n+1) (.mx a b) ρ S Q=(wA C ar n [a,b] ρ S λds S1=>w2 Ah ds S1 Q):=rfl
theorem Ny:wE C ar (n+1) (.mn a b) ρ S Q=(wA C ar n [a,b] ρ S λds S1=>w2 Ai ds S1 Q):=rfl
theorem JK:wE C ar (n+1) (.rep a) ρ S Q=(wE C ar n a ρ S λd S1=>Ok (ku d S1) Q):=rfl
theorem DV:wE C ar (n+1) (.comp own a (⟨tg,it,cd⟩::rest)) ρ S Q=(wI C ar n it ρ S λnx S1=>qE own [] λr=>qF ρ r λρ'=>wFt tg ρ' (Ok (bg nx tg (cnd (evT C ar n) cd (fY C ar n a rest)) ρ' LF 0 S1) λes S2=>es.length<=100000/\Q (.ref S2.length) (S2++[.lst es]))):=rfl
theorem JL:wE C ar (n+1) (.app a b) ρ S Q=(wE C ar n a ρ S λd S1=>cN d S1=true/\wA C ar n [b] ρ S1 λas S2=>Ok (qd d as S2) Q):=rfl
theorem JM:wE C ar (n+1) (.pop a) ρ S Q=(wE C ar n a ρ S λd S1=>cN d S1=true/\Ok (sv d [] S1) Q):=rfl
theorem Aq:wE C ar (n+1) (.popAt a b) ρ S Q=(wE C ar n a ρ S λd S1=>cN d S1=true/\wA C ar n [b] ρ S1 λas S2=>Ok (gy d as S2) Q):=rfl
theorem JN:wE C ar (n+1) (.cnt a b) ρ S Q=(wE C ar n a ρ S λd S1=>isTup d=true/\wA C ar n [b] ρ S1 λas S2=>Ok (sx d as S2) Q):=rfl
theorem Pc:wA C ar (n+1) [] ρ S Ql=Ql [] S:=rfl
theorem Pd:wA C ar (n+1) (a::es) ρ S Ql=(wE C ar n a ρ S λd S1=>wA C ar n es ρ S1 λds S2=>Ql (d::ds) S2):=rfl
theorem JO:wTm C ar (n+1) (.lst es) ρ S Ql=eC 60 es (wA C ar n es ρ S Ql):=rfl
theorem Ar:wTm C ar (n+1) (.listR a) ρ S Ql=(wE C ar n a ρ S λd S1=>∃i:Nat,d = .int i/\i<=1000/\Ql ((Zl i).map λj=>.int (Int.ofNat j)) S1):=rfl
theorem JP:wTm C ar (n+1) (.srt a) ρ S Ql=(aP (ag a) (wTm C ar n a) (wE C ar n a) ρ S (λds S1=>∃es,cu false ds=some es/\Ql es S1) (λd S1=>∃r es,ay d S1=some r/\cu r.1 r.2=some es/\Ql es S1)):=rfl
theorem DW:wTm C ar (n+1) (.comp own a (⟨tg,it,cd⟩::rest)) ρ S Ql=(wI C ar n it ρ S λnx S1=>qE own [] λr=>qF ρ r λρ'=>wFt tg ρ' (Ok (bg nx tg (cnd (evT C ar n) cd (fY C ar n a rest)) ρ' LF 0 S1) λes S2=>es.length<=100000/\Ql es S2)):=rfl
theorem JQ:wI C ar (n+1) (.val a) ρ S Qn=(aP (ag a) (wTm C ar n a) (wE C ar n a) ρ S (λds S1=>Qn (nxL ds) S1) (λd S1=>Ac d S1 Qn)):=rfl
theorem Nz:wI C ar (n+1) (.en a) ρ S Qn=(aP (ag a) (wTm C ar n a) (wE C ar n a) ρ S (λds S1=>Qn (sC ds) S1) (λd S1=>Ae d S1 Qn)):=rfl
theorem NA:wI C ar (n+1) (.r1 a) ρ S Qn=(wE C ar n a ρ S λd S1=>cw d λj=>lim j=true/\Qn (nxR 0 j.toNat) S1):=rfl
theorem NB:wI C ar (n+1) (.dn a) ρ S Qn=(wE C ar n a ρ S λd S1=>cw d λj=>lim j=true/\Qn (nxD j (j+1).toNat) S1):=rfl
theorem NC:wI C ar (n+1) (.r2 a b) ρ S Qn=(wE C ar n a ρ S λd S1=>wE C ar n b ρ S1 λe S2=>cw d λi=>cw e λj=>(lim i=true/\lim j=true)/\Qn (nxR i (j - i).toNat) S2):=rfl
theorem JR:wT C ar (n+1) (.cmp c a b) ρ S Qt=(wE C ar n a ρ S λx S1=>wE C ar n b ρ S1 λy S2=>wCm c x y S2 λd S3=>wBl d λt=>Qt t S3):=rfl
theorem JS:wT C ar (n+1) (.chn c p a b e) ρ S Qt=(wE C ar n a ρ S λx S1=>wE C ar n b ρ S1 λy S2=>wCm c x y S2 λr S3=>wBl r λt=>wIf t (wE C ar n e ρ S3 λz S4=>wCm p y z S4 λd S5=>wBl d λt=>Qt t S5) (wBl (.bl false) λt=>Qt t S3)):=rfl
theorem JT:wT C ar (n+1) (.and a b) ρ S Qt=(wT C ar n a ρ S λt S1=>wIf t (wT C ar n b ρ S1 Qt) (Qt false S1)):=rfl
theorem ND:wT C ar (n+1) (.or a b) ρ S Qt=(wT C ar n a ρ S λt S1=>wIf t (Qt true S1) (wT C ar n b ρ S1 Qt)):=rfl
theorem JU:wT C ar (n+1) (.not a) ρ S Qt=(wT C ar n a ρ S λt S1=>Qt (!t) S1):=rfl
theorem NF:wT C ar (n+1) (.bl t) ρ S Qt=(wE C ar n (.bl t) ρ S λd S1=>cq d S1 Qt):=rfl
theorem JV:wT C ar (n+1) (.var m) ρ S Qt=(wE C ar n (.var m) ρ S λd S1=>cq d S1 Qt):=rfl
theorem DX:wT C ar (n+1) (.call f es) ρ S Qt=(wE C ar n (.call f es) ρ S λd S1=>cq d S1 Qt):=rfl
theorem DY:wT C ar (n+1) (.inst ty a) ρ S Qt=(wE C ar n (.inst ty a) ρ S λd S1=>cq d S1 Qt):=rfl
theorem JW:wT C ar (n+1) (.all a) ρ S Qt=(wE C ar n (.all a) ρ S λd S1=>cq d S1 Qt):=rfl
theorem JX:wT C ar (n+1) (.len a) ρ S Qt=(wE C ar n (.len a) ρ S λd S1=>cq d S1 Qt):=rfl
theorem NG:wT C ar (n+1) (.ix a b) ρ S Qt=(wE C ar n (.ix a b) ρ S λd S1=>cq d S1 Qt):=rfl
theorem JY:wT C ar (n+1) (.lst es) ρ S Qt=(wE C ar n (.lst es) ρ S λd S1=>cq d S1 Qt):=rfl
theorem JZ:wT C ar (n+1) (.tup es) ρ S Qt=(wE C ar n (.tup es) ρ S λd S1=>cq d S1 Qt):=rfl
theorem Pe:wCl C ar n a [] ρ S Ql=(wE C ar n a ρ S λd S1=>Ql [d] S1):=rfl
theorem Pf:wCl C ar n a (⟨tg,it,cd⟩::rest) ρ S Ql=(wFt tg ρ (wI C ar n it ρ S λnx S1=>Ok (bg nx tg (cnd (evT C ar n) cd (fY C ar n a rest)) ρ LF 0 S1) Ql)):=rfl
theorem Pg:DI (wT C ar n) none w ρ S Ql=w ρ S Ql:=rfl
theorem Ph:DI (wT C ar n) (some a) w ρ S Ql=(wT C ar n a ρ S λt S1=>wIf t (w ρ S1 Ql) (Ql [] S1)):=rfl
theorem J0:wS C ar (n+1) (.asg tg a) ρ S Qs=(wE C ar n a ρ S λd S1=>wBd tg d ρ λρ1=>Qs .nx ρ1 S1):=rfl
theorem DZ:wS C ar (n+1) (.setI a b e) ρ S Qs=(wE C ar n a ρ S λx S1=>wE C ar n b ρ S1 λy S2=>wE C ar n e ρ S2 λz S3=>∃S4,iM y z x S3=some S4/\Qs .nx ρ S4):=rfl
theorem NH:wS C ar (n+1) (.ex a) ρ S Qs=(wE C ar n a ρ S λ_ S1=>Qs .nx ρ S1):=rfl
theorem J1:wS C ar (n+1) (.ret a) ρ S Qs=(wE C ar n a ρ S λd S1=>Qs (.rt d) ρ S1):=rfl
theorem J2:wS C ar (n+1) (.ifs a sa sb) ρ S Qs=(wT C ar n a ρ S λt S1=>wIf t (rW (wSs C ar n sa) ρ S1 Qs) (rW (wSs C ar n sb) ρ S1 Qs)):=rfl
theorem J3:wS C ar (n+1) (.for_ tg it sa) ρ S Qs=(wI C ar n it ρ S λnx S1=>OkS (dI nx tg (eR C ar n sa) LF 0 ρ S1) Qs):=rfl
theorem As:wS C ar (n+1) (.while_ a sa) ρ S Qs=OkS (bB (evT C ar n a) (eR C ar n sa) LF ρ S) Qs:=rfl
theorem J4:wS C ar (n+1) .cnt ρ S Qs=Qs .ct ρ S:=rfl
theorem NI:wNx ws Qs .nx ρ S=rW ws ρ S Qs:=rfl
theorem NJ:wNx ws Qs (.rt d) ρ S=Qs (.rt d) ρ S:=rfl
theorem NL:wNx ws Qs .bk ρ S=Qs .bk ρ S:=rfl
theorem NM:wNx ws Qs .ct ρ S=Qs .ct ρ S:=rfl
theorem J5:wIf (true && t) A B=wIf t A B:=rfl
theorem J6:wIf (false && t) A B=B:=rfl
theorem J7:wIf (true || t) A B=A:=rfl
theorem D0:wIf (false || t) A B=wIf t A B:=rfl
theorem D1:wIf (!(true && t)) A B=wIf (!t) A B:=rfl
theorem D2:wIf (!(false && t)) A B=A:=rfl
theorem D3:wIf (!(true || t)) A B=B:=rfl
theorem D4:wIf (!(false || t)) A B=wIf (!t) A B:=rfl
theorem NN:wIf true A B=A:=rfl
theorem NP:wIf false A B=B:=rfl
theorem J8:wIf (!true) A B=B:=rfl
theorem J9:wIf (!false) A B=A:=rfl
theorem NQ:wBl (.bl t) Qb=Qb t:=rfl
theorem Ka:cw (.int i) Qi=Qi i:=rfl
theorem Kb:sS (some d::ρ) 0 Qd=Qd d:=rfl
theorem Kc:sS (od::ρ) (n+1) Qd=sS ρ n Qd:=rfl
theorem NR:wFr (none::ρ) 0 A=A:=rfl
theorem NS:wFr (od::ρ) (n+1) A=wFr ρ n A:=rfl
theorem Kd:qD [] ρ A=A:=rfl
theorem Ke:qD (.name m::ts) ρ A=wFr ρ m (qD ts ρ A):=rfl
theorem NT:wFt (.name m) ρ A=wFr ρ m A:=rfl
theorem NU:wFt (.tup ts) ρ A=qD ts ρ A:=rfl
theorem Kf:qE [] ρ Qr=Qr ρ:=rfl
theorem Kg:qE (s::own) ρ Qr=qE own (none::ρ) Qr:=rfl
theorem Kh:qF [] ρ Qr=Qr ρ:=rfl
theorem Ki:qF (od::ρ) ρ2 Qr=qF ρ ρ2 λr=>Qr (od::r):=rfl
theorem NV:eC (n+1) [] A=A:=rfl
theorem NW:eC (n+1) (a::es) A=eC n es A:=rfl
theorem NX:wNm 0 d (od::ρ) Qr=Qr (some d::ρ):=rfl
theorem NY:wNm (n+1) d (od::ρ) Qr=wNm n d ρ λr=>Qr (od::r):=rfl
theorem NZ:wBs [] [] ρ Qr=Qr ρ:=rfl
theorem N0:wBs (.name m::ts) (d::ds) ρ Qr=wNm m d ρ λr=>wBs ts ds r Qr:=rfl
theorem N5:wBd (.name m) d ρ Qr=wNm m d ρ Qr:=rfl
theorem N6:wBd (.tup ts) d ρ Qr=wTp ts d ρ Qr:=rfl
theorem N7:wTp ts (.tup ds) ρ Qr=wBs ts ds ρ Qr:=rfl
theorem D5:wII .add i j S Q=Q (.int (i+j)) S:=rfl
theorem D6:wII .sub i j S Q=Q (.int (i - j)) S:=rfl
theorem D7:wII .mul i j S Q=(fb i j=true/\Q (.int (i * j)) S):=rfl
theorem D8:wII .mod i j S Q=(0 < j/\Q (.int (i % j)) S):=rfl
theorem Au:wII .fdiv i j S Q=((0 < j/\j < 1298074214633706907132624082305024)/\Q (.int (i / j)) S):=rfl
theorem D9:wII .pow i j S Q=((0<=j/\j<=1000000/\i.natAbs < 2 ^ 64)/\Q (.int (i ^ j.toNat)) S):=rfl
theorem Ea:wTT .add xs ys S Q=(xs.length+ys.length<=1000/\Q (.tup (xs++ys)) S):=rfl
theorem Eb:z8 o i (.int j) S Q=wII o i j S Q:=rfl
theorem Ec:uF o xs (.tup ys) S Q=wTT o xs ys S Q:=rfl
theorem Ed:uF o xs (.int j) S Q=Ok (bJ o (.tup xs) (.int j) S) Q:=rfl
theorem Kj:sU o (.int i) y S Q=z8 o i y S Q:=rfl
theorem Kk:sU o (.tup xs) y S Q=uF o xs y S Q:=rfl
theorem Kl:sU o (.ref n) y S Q=Ok (bJ o (.ref n) y S) Q:=rfl
theorem Km:sU o (.str s) y S Q=Ok (bJ o (.str s) y S) Q:=rfl
theorem Ko:wCI .eq i j S Q=Q (.bl (decide (i=j))) S:=rfl
theorem Kq:wCm .eq x y S Q=wCx .eq x y S Q:=rfl
theorem Kr:wCI .ne i j S Q=Q (.bl (!decide (i=j))) S:=rfl
theorem Ks:wCm .ne x y S Q=wCx .ne x y S Q:=rfl
theorem Kt:wCI .lt i j S Q=Q (.bl (decide (i < j))) S:=rfl
theorem Ku:wCm .lt x y S Q=wCx .lt x y S Q:=rfl
theorem Kv:wCI .le i j S Q=Q (.bl (decide (i<=j))) S:=rfl
theorem Kw:wCm .le x y S Q=wCx .le x y S Q:=rfl
theorem Kx:wCI .gt i j S Q=Q (.bl (decide (j < i))) S:=rfl
theorem Ky:wCm .gt x y S Q=wCx .gt x y S Q:=rfl
theorem Kz:wCI .ge i j S Q=Q (.bl (decide (j<=i))) S:=rfl
theorem KA:wCm .ge x y S Q=wCx .ge x y S Q:=rfl
theorem KB:wCm .is x y S Q=Ok (aj .is x y S) Q:=rfl
theorem wP:wCm .isnot x y S Q=Ok (aj .isnot x y S) Q:=rfl
theorem Av:wCm .isin x y S Q=Ok (aj .isin x y S) Q:=rfl
theorem wQ:wCm .notin x y S Q=Ok (aj .notin x y S) Q:=rfl
theorem N8:wCx c (.int i) y S Q=Jb c i y S Q:=rfl
theorem N9:wCx c (.tup xs) y S Q=wN c xs y S Q:=rfl
theorem Oa:wCx c .non y S Q=Ok (aj c .non y S) Q:=rfl
theorem Oc:wCx c (.bl t) y S Q=Ok (aj c (.bl t) y S) Q:=rfl
theorem Od:wCx c (.str s) y S Q=Ok (aj c (.str s) y S) Q:=rfl
theorem Oe:wCx c (.ref n) y S Q=Ok (aj c (.ref n) y S) Q:=rfl
theorem KC:Jb c i (.int j) S Q=wCI c i j S Q:=rfl
theorem KD:wN .eq xs (.tup []) S Q=Q (.bl xs.isEmpty) S:=rfl
theorem KF:wN .ne xs (.tup []) S Q=Q (.bl (!xs.isEmpty)) S:=rfl
theorem Ee:wN .eq xs (.tup (y::ys)) S Q=Ok (aj .eq (.tup xs) (.tup (y::ys)) S) Q:=rfl
theorem Ef:wN .ne xs (.tup (y::ys)) S Q=Ok (aj .ne (.tup xs) (.tup (y::ys)) S) Q:=rfl
theorem KG:sV l h (.tup ds) S Q=Q (.tup (fW ds l h)) S:=rfl
theorem KH:sV l h (.ref n) S Q=Ok (slS l h (.ref n) S) Q:=rfl
theorem KJ:Ac (.tup ds) S Qn=Qn (nxL ds) S:=rfl
theorem KL:Ac (.ref n) S Qn=((am S n).isSome=true/\Qn (nxS n) S):=rfl
theorem KM:Ae (.tup ds) S Qn=Qn (sC ds) S:=rfl
theorem KN:Ae (.ref n) S Qn=((am S n).isSome=true/\Qn (CB n) S):=rfl
theorem Eg:cq (.bl t) S Qt=Qt t S:=rfl
theorem Eh:cq (.tup ds) S Qt=Qt (!ds.isEmpty) S:=rfl
theorem Ei:cq (.int i) S Qt=Qt (i != 0) S:=rfl
theorem Ej:cq (.ref n) S Qt=Ok (kf (.ref n) S) Qt:=rfl
theorem Pj:w2 g [x,y] S Q=g x y S Q:=rfl
theorem KO:Ah (.int i) (.int j) S Q=Q (.int (if j > i then j else i)) S:=rfl
theorem KP:Ai (.int i) (.int j) S Q=Q (.int (if j < i then j else i)) S:=rfl
theorem Ek:aP (ag (.lst es)) wl wv ρ S Ql Q=wl ρ S Ql:=rfl
theorem wR:aP (ag (.listR a)) wl wv ρ S Ql Q=wl ρ S Ql:=rfl
theorem El:aP (ag (.srt a)) wl wv ρ S Ql Q=wl ρ S Ql:=rfl
theorem Aw:aP (ag (.comp own a rest)) wl wv ρ S Ql Q=wl ρ S Ql:=rfl
theorem Em:aP (ag (.non)) wl wv ρ S Ql Q=wv ρ S Q:=rfl
theorem KQ:aP (ag (.bl t)) wl wv ρ S Ql Q=wv ρ S Q:=rfl
theorem En:aP (ag (.int i)) wl wv ρ S Ql Q=wv ρ S Q:=rfl
theorem Eo:aP (ag (.str s)) wl wv ρ S Ql Q=wv ρ S Q:=rfl
theorem Ep:aP (ag (.var m)) wl wv ρ S Ql Q=wv ρ S Q:=rfl
theorem Er:aP (ag (.con m i)) wl wv ρ S Ql Q=wv ρ S Q:=rfl
theorem Es:aP (ag (.tup es)) wl wv ρ S Ql Q=wv ρ S Q:=rfl
theorem Ax:aP (ag (.dic0)) wl wv ρ S Ql Q=wv ρ S Q:=rfl
theorem Et:aP (ag (.bin o a b)) wl wv ρ S Ql Q=wv ρ S Q:=rfl
theorem Eu:aP (ag (.neg a)) wl wv ρ S Ql Q=wv ρ S Q:=rfl
theorem Ew:aP (ag (.cmp c a b)) wl wv ρ S Ql Q=wv ρ S Q:=rfl
theorem Ex:aP (ag (.chn c p a b e)) wl wv ρ S Ql Q=wv ρ S Q:=rfl
theorem Ey:aP (ag (.and a b)) wl wv ρ S Ql Q=wv ρ S Q:=rfl
theorem KR:aP (ag (.or a b)) wl wv ρ S Ql Q=wv ρ S Q:=rfl
theorem Ez:aP (ag (.not a)) wl wv ρ S Ql Q=wv ρ S Q:=rfl
theorem EA:aP (ag (.ite e a b)) wl wv ρ S Ql Q=wv ρ S Q:=rfl
theorem KS:aP (ag (.ix a b)) wl wv ρ S Ql Q=wv ρ S Q:=rfl
theorem KU:aP (ag (.sl a oa ob)) wl wv ρ S Ql Q=wv ρ S Q:=rfl
theorem Ay:aP (ag (.call f es)) wl wv ρ S Ql Q=wv ρ S Q:=rfl
theorem Az:aP (ag (.inst ty a)) wl wv ρ S Ql Q=wv ρ S Q:=rfl
theorem EB:aP (ag (.len a)) wl wv ρ S Ql Q=wv ρ S Q:=rfl
theorem EC:aP (ag (.all a)) wl wv ρ S Ql Q=wv ρ S Q:=rfl
theorem wU:aP (ag (.tupOf a)) wl wv ρ S Ql Q=wv ρ S Q:=rfl
theorem ED:aP (ag (.mxL a)) wl wv ρ S Ql Q=wv ρ S Q:=rfl
theorem EF:aP (ag (.mxD a i)) wl wv ρ S Ql Q=wv ρ S Q:=rfl
theorem KW:aP (ag (.sm a)) wl wv ρ S Ql Q=wv ρ S Q:=rfl
theorem EG:aP (ag (.rev a)) wl wv ρ S Ql Q=wv ρ S Q:=rfl
theorem EH:aP (ag (.mnN a)) wl wv ρ S Ql Q=wv ρ S Q:=rfl
theorem KY:aP (ag (.mx a b)) wl wv ρ S Ql Q=wv ρ S Q:=rfl
theorem KZ:aP (ag (.mn a b)) wl wv ρ S Ql Q=wv ρ S Q:=rfl
theorem EI:aP (ag (.rep a)) wl wv ρ S Ql Q=wv ρ S Q:=rfl
theorem EJ:aP (ag (.app a b)) wl wv ρ S Ql Q=wv ρ S Q:=rfl
theorem EK:aP (ag (.pop a)) wl wv ρ S Ql Q=wv ρ S Q:=rfl
theorem wV:aP (ag (.popAt a b)) wl wv ρ S Ql Q=wv ρ S Q:=rfl
theorem EL:aP (ag (.cnt a b)) wl wv ρ S Ql Q=wv ρ S Q:=rfl
theorem aa{α:Type}{z:Option (α × Sto)}{r:α}{S2:Sto}{K:α->Sto->Prop}(e:z=some (r,S2))(q:K r S2):Ok z K:=⟨r,S2,e,q⟩
theorem cz(h1:t=true->A)(h2:t=false->B):wIf t A B:=by
 cases t with
 |true=>exact h1 rfl
 |false=>exact h2 rfl
end
end Ev
local macro_rules |`(tactic|k_go)=>`(tactic|dsimp only[↓Ev.Jp,↓Ev.Nt,↓Ev.Jq,↓Ev.Jr,↓Ev.Js,↓Ev.Jt,↓Ev.Ju,↓Ev.Jv,↓Ev.DN,↓Ev.Jw,↓Ev.Jx,↓Ev.Jy,↓Ev.Jz,↓Ev.JA,↓Ev.Nu,↓Ev.JB,↓Ev.JC,↓Ev.Nv,↓Ev.DP,↓Ev.DQ,↓Ev.DR,↓Ev.DS,↓Ev.DT,↓Ev.DU,↓Ev.JD,↓Ev.JE,↓Ev.Ao,↓Ev.JF,↓Ev.JG,↓Ev.Nw,↓Ev.Ap,↓Ev.JH,↓Ev.JI,↓Ev.JJ,↓Ev.Nx,↓Ev.Ny,↓Ev.JK,↓Ev.DV,↓Ev.JL,↓Ev.JM,↓Ev.Aq,↓Ev.JN,↓Ev.Pc,↓Ev.Pd,↓Ev.JO,↓Ev.Ar,↓Ev.JP,↓Ev.DW,↓Ev.JQ,↓Ev.Nz,↓Ev.NA,↓Ev.NC,↓Ev.NB,↓Ev.JR,↓Ev.JS,↓Ev.JT,↓Ev.ND,↓Ev.JU,↓Ev.NF,↓Ev.JV,↓Ev.DX,↓Ev.DY,↓Ev.JW,↓Ev.JX,↓Ev.NG,↓Ev.JY,↓Ev.JZ,↓Ev.Pe,↓Ev.Pf,↓Ev.Pg,↓Ev.Ph,↓Ev.J0,↓Ev.DZ,↓Ev.NH,↓Ev.J1,↓Ev.J2,↓Ev.J3,↓Ev.As,↓Ev.J4,↓Ev.NI,↓Ev.NJ,↓Ev.NL,↓Ev.NM,↓Ev.J5,↓Ev.J6,↓Ev.J7,↓Ev.D0,↓Ev.D1,↓Ev.D2,↓Ev.D3,↓Ev.D4,↓Ev.NN,↓Ev.NP,↓Ev.J8,↓Ev.J9,↓Ev.NQ,↓Ev.Ka,↓Ev.Kb,↓Ev.Kc,↓Ev.NR,↓Ev.NS,↓Ev.Kd,↓Ev.Ke,↓Ev.NT,↓Ev.NU,↓Ev.Kf,↓Ev.Kg,↓Ev.Kh,↓Ev.Ki,↓Ev.NV,↓Ev.NW,↓Ev.NX,↓Ev.NY,↓Ev.NZ,↓Ev.N0,↓Ev.N5,↓Ev.N6,↓Ev.N7,↓Ev.D5,↓Ev.D6,↓Ev.D7,↓Ev.D8,↓Ev.Au,↓Ev.D9,↓Ev.Ea,↓Ev.Eb,↓Ev.Ec,↓Ev.Ed,↓Ev.Kj,↓Ev.Kk,↓Ev.Kl,↓Ev.Km,↓Ev.Ko,↓Ev.Kq,↓Ev.Kr,↓Ev.Ks,↓Ev.Kt,↓Ev.Ku,↓Ev.Kv,↓Ev.Kw,↓Ev.Kx,↓Ev.Ky,↓Ev.Kz,↓Ev.KA,↓Ev.KB,↓Ev.wP,↓Ev.Av,↓Ev.wQ,↓Ev.N8,↓Ev.N9,↓Ev.Oa,↓Ev.Oc,↓Ev.Od,↓Ev.Oe,↓Ev.KC,↓Ev.KD,↓Ev.KF,↓Ev.Ee,↓Ev.Ef,↓Ev.KG,↓Ev.KH,↓Ev.KJ,↓Ev.KL,↓Ev.KM,↓Ev.KN,↓Ev.Eg,↓Ev.Eh,↓Ev.Ei,↓Ev.Ej,↓Ev.Pj,↓Ev.KO,↓Ev.KP,↓Ev.Ek,↓Ev.wR,↓Ev.El,↓Ev.Aw,↓Ev.Em,↓Ev.KQ,↓Ev.En,↓Ev.Eo,↓Ev.Ep,↓Ev.Er,↓Ev.Es,↓Ev.Ax,↓Ev.Et,↓Ev.Eu,↓Ev.Ew,↓Ev.Ex,↓Ev.Ey,↓Ev.KR,↓Ev.Ez,↓Ev.EA,↓Ev.KS,↓Ev.KU,↓Ev.Ay,↓Ev.Az,↓Ev.EB,↓Ev.EC,↓Ev.wU,↓Ev.ED,↓Ev.EF,↓Ev.KW,↓Ev.EG,↓Ev.EH,↓Ev.KY,↓Ev.KZ,↓Ev.EI,↓Ev.EJ,↓Ev.EK,↓Ev.wV,↓Ev.EL,↓Ev.IC,↓Ev.IE])
local macro_rules |`(tactic|k_is)=>`(tactic|((with_reducible first |refine Ev.Jo ?_ |refine Ev.Jm ?_ |refine Ev.wcl_ok ?_ |skip);(try dsimp only[List.set_cons_zero,List.set_cons_succ]);(try k_go);(repeat ((with_reducible first |refine Ev.An ?_ |refine Ev.DM ?_);(try k_go)))))
namespace Lw
open PySem Ev
variable {p:Nat} {S:Sto} {k:Nat} {Q:D->Sto->Prop}
theorem AA(h:TD p S t d)(q:Q (.bl (Dw.isW t)) S):Ok (evC ac (k+1) 0 [d] S) Q:=by
 refine ax (d:=gD) (ρ:=[some d]) rfl rfl ?_;dsimp only[gD,kR];k_is;refine aa (oD h) ?_;k_is;cases t <;> first |exact q |(k_is;rw[oD h,aC];exact q)
theorem nc{a b:Int}(h:TD p S t d)(q:Q (.bl (Dw.gu t a b)) S):Ok (evC ac (k+2) 1 [d,.int a,.int b] S) Q:=by
 refine ax (d:=fo) (ρ:=[some d,some (.int a),some (.int b)]) rfl rfl ?_;dsimp only[fo,ja];k_is;refine⟨rfl,AA h ?_⟩;k_is;cases t with
 |int i=>
  obtain rfl:=h.int;dsimp only[Dw.isW];k_is;dsimp only[Dw.gu] at q;cases c:decide (a<=i) with
  |true=>rw[c] at q;exact q
  |false=>rw[c] at q;exact q
 |_=>exact q
theorem wW(h:TD p S t d)(q:Q (.bl (Dw.gu t 0 9999)) S):Ok (evC ac (k+3) 2 [d] S) Q:=by
 refine ax (d:=fq) (ρ:=[some d]) rfl rfl ?_;dsimp only[fq,jb];k_is;exact⟨rfl,nc h q⟩
theorem AB{a b:Int}(h:TD p S t d)(q:Q (.bl (Dw.isT t a b)) S):Ok (evC ac (k+1) 3 [d,.int a,.int b] S) Q:=by
 refine ax (d:=gF) (ρ:=[some d,some (.int a),some (.int b)]) rfl rfl ?_;dsimp only[gF,kS];k_is;refine aa (oD h) ?_;k_is;cases t with
 |tup ts=>
  obtain⟨ds,rfl,hs⟩:=h.tup;rw[show fc Ty.tuple (tyT (Dw.D.tup ts))=true from rfl];k_is;refine aa (IS hs) ?_;k_is;dsimp only[Dw.isT] at q;cases c:decide (a<=(ts.length:Int)) with
  |true=>rw[c] at q;exact q
  |false=>rw[c] at q;exact q
 |_=>exact q
theorem aJ{f:Int}(h:Pot p S)(h0:0 < f)(h1:f < 1298074214633706907132624082305024)(q:∀ (r:Int) S',0<=r->r < f->Dr p S S'->Q (.int r) S'):Ok (evC ac (k+1) 42 [.ref p,.int f] S) Q:=by
 obtain⟨n,e⟩:=h;have lt:p < S.length:=(Zb.mp e).1;refine ax (d:=gJ) (ρ:=[some (.ref p),some (.int f),none]) rfl rfl ?_;dsimp only[gJ,kY];k_is;have ix:ixS (.ref p) (.int 0) S=some (.int n,S):=by simp only[ixS,ay,am,e];rfl
 refine aa ix ?_;k_is;refine⟨h0,?_⟩;k_is;refine aa ix ?_;k_is;refine⟨⟨h0,h1⟩,?_⟩;k_is;refine⟨S.set p (.lst [.int (n / f)]),by simp only[iM,e];rfl,?_⟩;exact q _ _ (X4 _ (by omega)) (XG _ h0) ⟨IW,_,dh lt⟩
theorem EM{c:Nat}{ns:List Int}(h:S[0]?=some (.frz (ns.map D.int)))(q:∀i:Int,Q (.int i) S):Ok (evC ac (k+1) 40 [.ref 0,.int c] S) Q:=by
 refine ax (d:=c9) (ρ:=[some (.ref 0),some (.int c)]) rfl rfl ?_;dsimp only[c9,gj];k_is;have ln:ai cD (.ref 0) S=some (.int ns.length,S):=by simp only[ai,ay,am,h,ZA,cD,Za]
 refine aa ln ?_;k_is;refine cz (λhc=>?_) λhc=>?_
 ·k_is;have hc':=of_decide_eq_true hc;obtain⟨d,e1,e2⟩:=IY (ds:=ns.map D.int) (i:=c) (by omega) (by rw[Za];omega);have ix:ixS (.ref 0) (.int c) S=some (d,S):=by simp only[ixS,ay,am,h,ZA,e1]
  refine aa ix ?_;rw[Zs] at e2;cases hn:ns[(c:Int).toNat]? with
  |none=>rw[hn] at e2;cases e2
  |some i=>rw[hn] at e2;cases e2;exact q i
 ·k_is;exact q 0
theorem K0{c:Int}(q:∀n:Int,Q (.ref S.length) (S++[.lst [.int n]])):Ok (evC ac (k+1) 41 [.int c] S) Q:=by
 refine ax (d:=iU) (ρ:=[some (.int c),none,none,none]) rfl rfl ?_;dsimp only[iU,mZ];k_is;refine⟨⟨by decide,by decide,by decide⟩,?_⟩;k_is;refine cz (λ_=>?_) λ_=>?_
 ·k_is;refine⟨⟨by decide,by decide,by decide⟩,?_⟩;k_is;exact q _
 ·k_is;refine⟨by decide,?_⟩;refine jl (by decide) (λi ρ S'=>S'=S/\∃n:Int,∃u v,ρ=[some (.int c),some (.int n),u,v]) (λi ρ S' hi ⟨es,n,u,v,er⟩=>?_) (λρ S' ⟨es,n,u,v,er⟩=>?_) ⟨rfl,0,none,none,rfl⟩
  ·subst es er;refine⟨_,rfl,?_⟩;k_is;refine⟨by decide,?_⟩;k_is;refine⟨oH (by decide) (by decide),?_⟩;k_is;refine⟨uD (by decide) (by decide),by decide,?_⟩;k_is;have a1:=X4 ((c % 2147483629+7919 * (0+(i:Int))+1) * 48271) (show(2147483647:Int) ≠ 0 by decide);have a2:=XG ((c % 2147483629+7919 * (0+(i:Int))+1) * 48271) (show(0:Int) < 2147483647 by decide);refine⟨oH (by omega) (by omega),?_⟩;k_is;refine⟨oH (by decide) (by decide),?_⟩;k_is;refine⟨by decide,?_⟩;k_is;refine⟨uD (by decide) (by decide),?_⟩;k_is;exact⟨rfl,_,_,_,rfl⟩
  ·subst es er;k_is;exact q n
end Lw
namespace Sn
open Ev
structure Sky where
 r:Int
 s:Int
 M:List (List Int)
 H:List (Int × Int)
 ah:Option (Int × Int)
 G:List (List Int)
 F:List Int
abbrev gi(G:List (List Int))(i:Int)(k:Nat):Int:=((G[i.toNat]?).getD []).getD k 0
abbrev fns:List (Int × Int)->Int->Int
 |[],m=>m
 |p::l,m=>if p.1<=m/\m < p.2 then p.2 else fns l m
abbrev opm:List (Int × Int)->Int->Int
 |[],m=>m
 |p::l,m=>opm l (if p.1<=m/\m < p.2 then p.2 else m)
def Ris:Int->List (Int × Int)->Prop
 |_,[]=>True
 |lo,p::l=>lo < p.1/\p.1 < p.2/\Ris p.2 l
theorem uJ:∀ {l:List (Int × Int)} {lo m:Int},Ris lo l->m<=lo->opm l m=m
 |[],_,_,_,_=>rfl
 |p::l,lo,m,h,hm=>by
  rw[Ris] at h;rw[opm,if_neg (by lia)];exact uJ h.2.2 (by lia)
theorem uK:∀ {l:List (Int × Int)} {lo m:Int},Ris lo l->opm l m=fns l m
 |[],_,_,_=>rfl
 |p::l,lo,m,h=>by
  rw[Ris] at h;rw[opm,fns];split
  ·exact uJ h.2.2 (ZP _)
  ·exact uK h.2.2
section
variable (K:Sky)
abbrev jn(g:Int):Int:=gi K.G g 1
abbrev gp(a b:Int):Int:=Dw.mg2 K.M a.toNat b.toNat
abbrev wX(ah:Option (Int × Int))(k:Int):Int:=match ah with
 |none=>0
 |some p=>p.2+gp K p.1 k
abbrev bc(ah:Option (Int × Int))(g:Int):Int:=match ah with
 |none=>gi K.G g 2
 |some p=>if p.2+gp K p.1 (gi K.G g 0) > gi K.G g 2 then p.2+gp K p.1 (gi K.G g 0) else gi K.G g 2
abbrev js:List Int:=f9 (K.G.map λg=>g.getD 1 0)
abbrev sY(place:Nat)(m:Int):Bool:=match (js K)[(K.r+place).toNat]? with
 |some j=>decide (j < m - K.s)
 |none=>false
abbrev step(ah:Option (Int × Int))(g:Int)(place:Nat):Option Int:=if (decide (gi K.G g 3 < opm K.H (bc K ah g)) || sY K place (opm K.H (bc K ah g)))=true then none else some (opm K.H (bc K ah g))
abbrev aF(t:Int)(p:Int × Int):Bool:=decide (jn K p.1<=t) && decide (t < p.2 - K.s)
abbrev wts(L:List (Int × Int))(t:Int):Nat:=(L.filter (aF K t)).length
abbrev fI(L:List (Int × Int))(g m:Int):List Int:=((jn K g::L.map λp=>jn K p.1).filter λt=>decide (jn K g<=t) && decide (t < m - K.s))
abbrev qG(L:List (Int × Int))(g m:Int):Int:=qc 0 ((fI K L g m).map λt=>1+(wts K L t:Int))
abbrev gP(L:List (Int × Int))(g m:Int):List Int:=jn K g::(js K).filter λt=>decide (jn K g < t) && aF K t (g,m)
abbrev qH(L:List (Int × Int))(g m:Int):Int:=gx ((gP K L g m).map λt=>1+(wts K L t:Int))
abbrev qI(L:List (Int × Int))(g m:Int):Bool:=decide (0 < gi K.G g 6) && (aF K (jn K g) (g,m) && decide (gi K.G g 6 < qH K L g m))
abbrev ng(L:List (Int × Int))(g m:Int):Bool:=decide (0 < gi K.G g 6) && decide (gi K.G g 6 < qG K L g m)
abbrev rn:List Int->Option (Int × Int)->List (Int × Int)->Nat ⊕ List (Int × Int)
 |[],_,L=>.inr L
 |g::os,ah,L=>match step K ah g L.length with
  |none=>.inl L.length
  |some m=>if ng K L g m=true then .inl L.length else rn os (some (gi K.G g 0,m)) (L++[(g,m)])
end
variable {K:Sky}
theorem uL(h:ns ≠ []):gx ns ∈ ns:=by
 cases ns with
 |nil=>exact absurd rfl h
 |cons n ns=>exact(hU ns n).1
theorem AC{x:Int}(h:x ∈ ns):x<=gx ns:=by
 cases ns with
 |nil=>simp at h
 |cons n ns=>exact(hU ns n).2 x h
theorem AE(hA:A ≠ [])(h:∀x ∈ A,∃y ∈ B,x<=y):gx A<=gx B:=by
 obtain⟨y,hy,hle⟩:=h _ (uL hA);exact Xi hle (AC hy)
theorem qJ{c:Int}(h:ns ≠ []):qc c ns=gx ns:=by
 cases ns with
 |nil=>exact absurd rfl h
 |cons n ns=>rfl
theorem uM{α:Type}{p q:α->Bool}:∀ {l:List α},(∀x ∈ l,p x=true->q x=true)->(l.filter p).length<=(l.filter q).length
 |[],_=>Zd _
 |a::l,h=>by
  have ih:=uM (l:=l) λx hx=>h x (Zf _ hx);have h0:=h a Zh;rw[YD,YD];split
  ·rename_i c;rw[if_pos (h0 c),Zr,Zr]
   lia
  ·split
   ·rw[Zr];lia
   ·exact ih
theorem AF{j t:Int}(hj:j<=t):∀ (L:List (Int × Int)),∃u,(u=j\/∃p ∈ L,u=jn K p.1)/\j<=u/\u<=t/\∀p ∈ L,aF K t p=true->jn K p.1<=u
 |[]=>⟨j,.inl rfl,ZP _,hj,λp hp=>by simp at hp⟩
 |p::L=>by
  obtain⟨u,h1,h2,h3,h4⟩:=AF hj L;by_cases hw:aF K t p=true/\u < jn K p.1
  ·refine⟨jn K p.1,.inr ⟨p,Zh,rfl⟩,by lia,?_,λq hq hqw=>?_⟩
   ·have:=hw.1;simp only[aF,bAE,decide_eq_true_eq] at this;exact this.1
   ·rcases Zn.mp hq with rfl |hq
    ·exact ZP _
    ·have:=h4 q hq hqw;lia
  ·refine⟨u,?_,h2,h3,λq hq hqw=>?_⟩
   ·rcases h1 with h1 |⟨q,hq,h1⟩
    ·exact .inl h1
    ·exact .inr ⟨q,Zf _ hq,h1⟩
   ·rcases Zn.mp hq with rfl |hq
    ·by_cases hlt:u < jn K q.1
     ·exact absurd ⟨hqw,hlt⟩ hw
     ·lia
    ·exact h4 q hq hqw
theorem EN{L:List (Int × Int)}{g m:Int}(h:jn K g < m - K.s)(hL:∀p ∈ L,jn K p.1 ∈ js K):qH K L g m=qG K L g m:=by
 have k0:jn K g ∈ fI K L g m:=by
  unfold fI;rw[ZW];exact⟨Zh,by simp[h]⟩
 have kn:(fI K L g m).map (λt=>1+(wts K L t:Int)) ≠ []:=λz=>by
  rw[List.map_eq_nil_iff] at z;rw[z] at k0;simp at k0
 unfold qG qH;rw[qJ kn];refine X5 (AE (by simp[gP]) λx hx=>?_) (AE kn λx hx=>?_)
 ·obtain⟨t,ht,rfl⟩:=ZL.mp hx
  have ht':jn K g<=t/\t < m - K.s:=by
   rcases Zn.mp ht with rfl |ht
   ·exact⟨ZP _,h⟩
   ·have:=(ZW.mp ht).2;simp only[aF,bAE,decide_eq_true_eq] at this;exact⟨this.2.1,this.2.2⟩
  obtain⟨u,h1,h2,h3,h4⟩:=AF (K:=K) ht'.1 L;refine⟨1+(wts K L u:Int),ZL.mpr ⟨u,?_,rfl⟩,?_⟩
  ·unfold fI;refine ZW.mpr ⟨?_,by simp only[bAE,decide_eq_true_eq];lia⟩;rcases h1 with rfl |⟨p,hp,rfl⟩
   ·exact Zh
   ·exact Zf _ (ZL.mpr ⟨p,hp,rfl⟩)
  ·have:wts K L t<=wts K L u:=uM λp hp hw=>by
    have a:=h4 p hp hw;simp only[aF,bAE,decide_eq_true_eq] at hw ⊢
    lia
   lia
 ·obtain⟨t,ht,rfl⟩:=ZL.mp hx;refine⟨1+(wts K L t:Int),ZL.mpr ⟨t,?_,rfl⟩,ZP _⟩;unfold fI at ht;obtain⟨h1,h2⟩:=ZW.mp ht;simp only[bAE,decide_eq_true_eq] at h2;unfold gP;by_cases e:t=jn K g
  ·rw[e];exact Zh
  ·refine Zf _ (ZW.mpr ⟨?_,by simp only[aF,bAE,decide_eq_true_eq];lia⟩);rcases Zn.mp h1 with rfl |h1
   ·exact absurd rfl e
   ·obtain⟨p,hp,rfl⟩:=ZL.mp h1;exact hL p hp
theorem wY{g m:Int}(h:¬ jn K g < m - K.s):qG K L g m=0:=by
 have:fI K L g m=[]:=by
  unfold fI;rw[List.filter_eq_nil_iff];intro t _;simp only[bAE,decide_eq_true_eq]
  lia
 unfold qG;rw[this];rfl
theorem EO{g m:Int}(hL:∀p ∈ L,jn K p.1 ∈ js K):qI K L g m=ng K L g m:=by
 unfold qI ng;by_cases h:jn K g < m - K.s
 ·rw[EN h hL];have:aF K (jn K g) (g,m)=true:=by simp only[aF,bAE,decide_eq_true_eq];exact⟨ZP _,h⟩
  rw[this,XB]
 ·rw[wY h];have:aF K (jn K g) (g,m)=false:=by simp[aF,h]
  rw[this,Y7];by_cases h0:0 < gi K.G g 6
  ·have e:decide (gi K.G g 6 < 0)=false:=by simp;lia
   rw[e]
  ·rw[decide_eq_false h0];rfl
theorem AG{g:Int}(h:0<=gi K.G g 2):(if wX K ah (gi K.G g 0) > gi K.G g 2 then wX K ah (gi K.G g 0) else gi K.G g 2)=bc K ah g:=by
 cases ah with
 |none=>unfold wX bc;dsimp only;rw[if_neg (by lia)]
 |some p=>rfl
end Sn
namespace Lw
open PySem Ev Sn
variable {p:Nat} {S:Sto} {k:Nat} {Q:D->Sto->Prop}
theorem AH{ds:List D}{tg:Tg}{b:XS}{ρ:Rho}{Q:Fl->Rho->Sto->Prop}(hl:ds.length<=100000)(I:Nat->Rho->Sto->Prop)
  (step:∀ (i:Nat) d ρ S',ds[i]?=some d->I i ρ S'->∃ρ1,au tg d ρ=some ρ1/\OkS (b ρ1 S') λfl ρ2 S2=>match fl with |.nx=>I (i+1) ρ2 S2 |.ct=>I (i+1) ρ2 S2 |.bk=>Q .nx ρ2 S2 |.rt d=>Q (.rt d) ρ2 S2)
  (q:∀ρ S',I ds.length ρ S'->Q .nx ρ S') (h0:I 0 ρ S):OkS (dI (nxL ds) tg b LF 0 ρ S) Q:=by
 refine il ds.length I (by unfold LF;lia) (λi ρ S' hi iv=>?_) (λρ S' iv=>⟨?_,q ρ S' iv⟩) h0
 ·obtain⟨ρ1,e2,z⟩:=step i ds[i] ρ S' (gEG hi) iv;exact⟨ds[i],ρ1,by show some ds[i]?=_;rw[gEG hi],e2,z⟩
 ·show some ds[ds.length]?=_;rw[Zv (Zd _)]
theorem AI{ds:List D}{tg:Tg}{b:XS}{ρ:Rho}{Q:Fl->Rho->Sto->Prop}(hl:ds.length<=100000)(I:Nat->Rho->Sto->Prop)
  (step:∀ (i:Nat) d ρ S',ds[i]?=some d->I i ρ S'->∃ρ1,au tg (.tup [.int i,d]) ρ=some ρ1/\OkS (b ρ1 S') λfl ρ2 S2=>match fl with |.nx=>I (i+1) ρ2 S2 |.ct=>I (i+1) ρ2 S2 |.bk=>Q .nx ρ2 S2 |.rt d=>Q (.rt d) ρ2 S2)
  (q:∀ρ S',I ds.length ρ S'->Q .nx ρ S') (h0:I 0 ρ S):OkS (dI (sC ds) tg b LF 0 ρ S) Q:=by
 refine il ds.length I (by unfold LF;lia) (λi ρ S' hi iv=>?_) (λρ S' iv=>⟨?_,q ρ S' iv⟩) h0
 ·obtain⟨ρ1,e2,z⟩:=step i ds[i] ρ S' (gEG hi) iv;refine⟨.tup [.int i,ds[i]],ρ1,?_,e2,z⟩;show enm ds i=_;unfold enm;rw[if_pos (by lia),gEG hi];rfl
 ·show enm ds ds.length=_;unfold enm;rw[if_pos (Zd _),Zv (Zd _)];rfl
theorem bI{α:Type}{nx:Nxt}{tg:Tg}{c:XA}{ρ:Rho}{Q:List D->Sto->Prop}(l:List α)(E:α->D)(f:α->List D)(hl:l.length<=1000)(hf:∀a ∈ l,(f a).length<=1)
  (hnx:∀i S',Sm S S'->nx i S'=some ((l[i]?).map E))
  (step:∀ (i:Nat) a S',l[i]?=some a->Sm S S'->∃ρ1,au tg (E a) ρ=some ρ1/\Ok (c ρ1 S') λes S1=>es=f a/\Sm S' S1) (q:∀S',Sm S S'->Q (l.flatMap f) S') :
  Ok (bg nx tg c ρ LF 0 S) λes S2=>es.length<=100000/\Q es S2:=by
 refine(fG l.length (λi acc S'=>Sm S S'/\acc=(l.take i).flatMap f) (by unfold LF;lia) (λi acc S' hi ⟨sm,ea⟩=>?_) (λacc S' ⟨sm,ea⟩=>?_) ⟨Sm.refl S,by simp⟩).mono λes S' ⟨sm,ea⟩=>?_
 ·obtain⟨ρ1,e2,es,S1,e3,e4,sm'⟩:=step i l[i] S' (gEG hi) sm;refine⟨E l[i],ρ1,by rw[hnx i S' sm,gEG hi];rfl,e2,es,S1,e3,sm.trans sm',?_⟩;rw[ea,e4,ZT hi,Xv];simp
 ·rw[hnx _ S' sm,Zv (Zd _)];rfl
 ·rw[YV] at ea;subst ea;refine⟨?_,q S' sm⟩
  have:∀m:List α,(∀a ∈ m,(f a).length<=1)->(m.flatMap f).length<=m.length:=λm=>by
   induction m with
   |nil=>intro _;simp
   |cons a m ih=>
    intro h;rw[YK,Zg,Zr];have:=h a Zh;have:=ih λb hb=>h b (Zf _ hb)
    lia
  have:=this l hf
  lia
theorem cp{α:Type}{l:List α}{E:α->D}:∀i S',Sm S S'->nxL (l.map E) i S'=some ((l[i]?).map E):=λi S' _=>by
 show some (l.map E)[i]?=_;rw[Zs]
theorem eD{α:Type}{n:Nat}{l:List α}{E:α->D}(h:S[n]?=some (.lst (l.map E))):∀i S',Sm S S'->nxS n i S'=some ((l[i]?).map E):=λi S' sm=>by
 show(am S' n).map (λds=>ds[i]?)=_;rw[aM (sm _ _ h),ZA,Zs]
theorem bL{α:Type}(l:List α)(f:α->D):(l.flatMap λa=>[f a])=l.map f:=by
 induction l with
 |nil=>rfl
 |cons a l ih=>rw[YK,ih];rfl
theorem bP{α:Type}(l:List α)(c:α->Bool)(f:α->D):(l.flatMap λa=>if c a=true then [f a] else [])=(l.filter c).map f:=by
 induction l with
 |nil=>rfl
 |cons a l ih=>
  rw[YK,ih,YD];split <;> rfl
abbrev aA(r:List Int):D:=.tup (r.map D.int)
abbrev ahE:Option (Int × Int)->D
 |none=>.non
 |some q=>.tup [.int q.1,.int q.2]
abbrev meE(K:Sky):D:=.tup [.int K.r,.int K.s,.tup (K.M.map aA),.tup (K.H.map ae)]
abbrev skE(K:Sky):D:=.tup [meE K,ahE K.ah,.tup (K.G.map aA),.tup (K.F.map D.int)]
structure Vd(K:Sky):Prop where
 r0:0<=K.r
 r8:K.r<=8
 s0:0<=K.s
 s60:K.s<=60
 m0:1<=K.M.length
 m4:K.M.length<=4
 row:∀r ∈ K.M,r.length=K.M.length
 ris:Ris (-1) K.H
 h4:K.H.length<=4
 ah0:∀q,K.ah=some q->0<=q.1/\q.1 < K.M.length
 g7:K.G.length<=7
 gl:∀g ∈ K.G,g.length=7/\0<=g.getD 0 0/\g.getD 0 0 < K.M.length/\0<=g.getD 2 0
variable {K:Sky}
theorem sk0:ixS (skE K) (.int 0) S=some (meE K,S):=rfl
theorem sk1:ixS (skE K) (.int 1) S=some (ahE K.ah,S):=rfl
theorem sk2:ixS (skE K) (.int 2) S=some (.tup (K.G.map aA),S):=rfl
theorem sk3:ixS (skE K) (.int 3) S=some (.tup (K.F.map D.int),S):=rfl
theorem me0:ixS (meE K) (.int 0) S=some (.int K.r,S):=rfl
theorem me1:ixS (meE K) (.int 1) S=some (.int K.s,S):=rfl
theorem me2:ixS (meE K) (.int 2) S=some (.tup (K.M.map aA),S):=rfl
theorem me3:ixS (meE K) (.int 3) S=some (.tup (K.H.map ae),S):=rfl
theorem gl7(V:Vd K){g:Int}(h0:0<=g)(h1:g < K.G.length):∃a b c d e f h,K.G[g.toNat]?=some [a,b,c,d,e,f,h]/\gi K.G g 0=a/\gi K.G g 1=b/\gi K.G g 2=c/\gi K.G g 3=d/\gi K.G g 6=h/\0<=a/\a < K.M.length/\0<=c:=by
 have hi:g.toNat < K.G.length:=by lia
 obtain⟨l7,a0,a1,c0⟩:=V.gl K.G[g.toNat] (ZQ hi)
 match hr:K.G[g.toNat],l7 with
 |[a,b,c,d,e,f,h],_=>
  have eq:K.G[g.toNat]?=some [a,b,c,d,e,f,h]:=by rw[gEG hi,hr]
  rw[hr] at a0 a1 c0;refine⟨a,b,c,d,e,f,h,eq,?_,?_,?_,?_,?_,a0,a1,c0⟩ <;> (unfold gi;rw[eq];rfl)
theorem qK{i:Int}(h0:0<=i)(h:ds[i.toNat]?=some d):ixS (.tup ds) (.int i) S=some (d,S):=by
 obtain⟨n,rfl⟩:∃n:Nat,i=(n:Int):=⟨i.toNat,by lia⟩;exact xP h
theorem cJ{g:Int}(h0:0<=g)(h:K.G[g.toNat]?=some r):ixS (.tup (K.G.map aA)) (.int g) S=some (aA r,S):=qK h0 (by rw[Zs,h];rfl)
theorem lh(V:Vd K){a b:Int}(a0:0<=a)(a1:a < K.M.length)(b0:0<=b)(b1:b < K.M.length):∃r,ixS (.tup (K.M.map aA)) (.int a) S=some (aA r,S)/\ixS (aA r) (.int b) S=some (.int (gp K a b),S):=by
 have hi:a.toNat < K.M.length:=by lia
 have hr:=V.row K.M[a.toNat] (ZQ hi);have hj:b.toNat < K.M[a.toNat].length:=by lia
 refine⟨K.M[a.toNat],qK a0 (by rw[Zs,gEG hi];rfl),qK b0 ?_⟩;rw[Zs,gEG hj];have:gp K a b=K.M[a.toNat][b.toNat]:=by unfold gp Dw.mg2;rw[gEG hi,ZY,gEG hj];rfl
 rw[this];rfl
end Lw
namespace Lw
open PySem Ev Sn
variable {p:Nat} {S:Sto} {k:Nat} {Q:D->Sto->Prop} {K:Sky}
theorem qL{t u:Bool}{A B:Prop}(ha:t=true->u=true->A)(hb:(t && u)=false->B):wIf t (wIf u A B) B:=by
 cases t with
 |false=>exact hb rfl
 |true=>cases u with
  |true=>exact ha rfl rfl
  |false=>exact hb rfl
theorem jF{α:Type}{l:List α}{i:Nat}{a:α}(h:l[i]?=some a):l.drop i=a::l.drop (i+1):=by
 obtain⟨hi,e⟩:=Zb.mp h;rw[YF hi,e]
theorem lj{α:Type}{l:List α}{E:α->D}{i:Nat}{d:D}(h:(l.map E)[i]?=some d):∃a,l[i]?=some a/\d=E a:=by
 rw[Zs] at h;cases e:l[i]? with
 |none=>rw[e] at h;cases h
 |some a=>rw[e] at h;cases h;exact⟨a,rfl,rfl⟩
theorem K1{m:Int}(hl:K.H.length<=4)(q:Q (.int (fns K.H m)) S):Ok (evC ac (k+1) 13 [meE K,.int m] S) Q:=by
 refine ax (d:=b6) (ρ:=[some (meE K),some (.int m),none,none]) rfl rfl ?_;dsimp only[b6,dA];k_is;refine aa me3 ?_;k_is;refine AH (by rw[Za];lia) (λi ρ S'=>S'=S/\fns K.H m=fns (K.H.drop i) m/\∃u v,ρ=[some (meE K),some (.int m),u,v]) (λi d ρ S' hd ⟨es,ef,u,v,er⟩=>?_) (λρ S' ⟨es,ef,u,v,er⟩=>?_) ⟨rfl,rfl,none,none,rfl⟩
 ·subst es er;obtain⟨pr,hp,rfl⟩:=lj hd;refine⟨_,show au (.tup [.name 2,.name 3]) (.tup [.int pr.1,.int pr.2]) _=_ from dg (by simp) (by simp),?_⟩;k_is;rw[jF hp,fns] at ef;refine qL (λh1 h2=>?_) λh=>?_
  ·k_is;rw[if_pos ⟨of_decide_eq_true h1,of_decide_eq_true h2⟩] at ef;rw[ef] at q;exact q
  ·k_is;rw[if_neg (λz=>by rw[decide_eq_true z.1,decide_eq_true z.2] at h;cases h)] at ef;exact⟨rfl,ef,_,_,rfl⟩
 ·subst es er;k_is;rw[Za,YE,fns] at ef;rw[ef] at q;exact q
abbrev aG(K:Sky)(L:List (Int × Int)):Option (Int × Int):=match L.getLast? with
 |none=>K.ah
 |some p=>some (gi K.G p.1 0,p.2)
def InG(K:Sky)(L:List (Int × Int)):Prop:=∀p ∈ L,0<=p.1/\p.1 < K.G.length
theorem qM(V:Vd K){L:List (Int × Int)}{n:Nat}(hn:S[n]?=some (.lst (L.map ae)))(hL:InG K L)(q:Q (ahE (aG K L)) S):Ok (evC ac (k+1) 22 [skE K,.ref n] S) Q:=by
 refine ax (d:=cj) (ρ:=[some (skE K),some (.ref n),none,none]) rfl rfl ?_;dsimp only[cj,eO];k_is;have tr:kf (.ref n) S=some (!(L.map ae).isEmpty,S):=by simp only[kf,aM hn]
 refine aa tr ?_;k_is;rcases Xo L with rfl |⟨L',z,rfl⟩
 ·k_is;exact aa sk1 q
 ·rw[Xp] at hn hL q ⊢;rw[show(!!((L'++[z]).map ae).isEmpty)=false by simp];k_is;have hz:=hL z (by simp);refine aa (jE (ds:=L'.map ae) (e:=ae z) (by rw[hn,ZD];rfl)) ?_;rw[show ae z = .tup [.int z.1,.int z.2] from rfl];k_is;refine aa sk2 ?_;obtain⟨a,b,c,d,e,f,h,eg,e0,_⟩:=gl7 V hz.1 hz.2;refine aa (cJ hz.1 eg) (aa (show ixS (aA [a,b,c,d,e,f,h]) (.int 0) S=some (.int a,S) from rfl) ?_);k_is
  have:aG K (L'++[z])=some (a,z.2):=by
   unfold aG;rw[YX];simp[e0]
  rw[this] at q;exact q
theorem ER(V:Vd K){a:Option (Int × Int)}{kd:Int}(ha:∀q,a=some q->0<=q.1/\q.1 < K.M.length)(k0:0<=kd)(k1:kd < K.M.length)(q:Q (.int (wX K a kd)) S):Ok (evC ac (k+1) 23 [skE K,ahE a,.int kd] S) Q:=by
 refine ax (d:=iT) (ρ:=[some (skE K),some (ahE a),some (.int kd)]) rfl rfl ?_;dsimp only[iT,mY];k_is;cases a with
 |none=>exact aa (show aj .is (ahE none) .non S=some (.bl true,S) from rfl) (by k_is;exact q)
 |some z=>
  refine aa (show aj .is (ahE (some z)) .non S=some (.bl false,S) from rfl) ?_;k_is;obtain⟨h0,h1⟩:=ha z rfl;refine aa (show ixS (ahE (some z)) (.int 1) S=some (.int z.2,S) from rfl) ?_;refine aa sk0 (aa me2 (aa (show ixS (ahE (some z)) (.int 0) S=some (.int z.1,S) from rfl) ?_));obtain⟨r,g1,g2⟩:=lh (S:=S) V h0 h1 k0 k1;refine aa g1 (aa g2 ?_);k_is;exact q
theorem ll(V:Vd K){z:Int × Int}{t:Int}(h0:0<=z.1)(h1:z.1 < K.G.length)(q:Q (.bl (aF K t z)) S):Ok (evC ac (k+1) 24 [skE K,ae z,.int t] S) Q:=by
 refine ax (d:=gI) (ρ:=[some (skE K),some (ae z),some (.int t),none,none]) rfl rfl ?_;dsimp only[gI,kW];rw[show ae z = .tup [.int z.1,.int z.2] from rfl];k_is;refine aa sk2 ?_;obtain⟨a,b,c,d,e,f,h,eg,_,e1,_⟩:=gl7 V h0 h1;refine aa (cJ h0 eg) (aa (show ixS (aA [a,b,c,d,e,f,h]) (.int 1) S=some (.int b,S) from rfl) ?_);k_is;have ew:aF K t z=(decide (b<=t) && decide (t < z.2 - K.s)):=by unfold aF jn;rw[e1]
 rw[ew] at q;cases c1:decide (b<=t) with
 |false=>rw[c1] at q;k_is;exact q
 |true=>
  rw[c1] at q;k_is;refine aa sk0 (aa me1 ?_);k_is;exact q
theorem K2(V:Vd K){L:List (Int × Int)}{n:Nat}{t:Int}(hn:S[n]?=some (.lst (L.map ae)))(hL:InG K L)(hl:L.length<=1000)(q:∀S',Sm S S'->Q (.int (wts K L t)) S'):Ok (evC ac (k+2) 25 [skE K,.ref n,.int t] S) Q:=by
 refine ax (d:=cm) (ρ:=[some (skE K),some (.ref n),some (.int t)]) rfl rfl ?_;dsimp only[cm,eP];k_is;refine⟨by rw[aM hn];rfl,?_⟩;refine bI L ae (λz=>if aF K t z=true then [ae z] else []) hl (λz _=>by split <;> simp) (eD hn) (λi z S' hz sm=>⟨_,rfl,?_⟩) λS' sm=>?_
 ·have:=hL z (Zi hz);k_is;refine⟨rfl,ll V this.1 this.2 ?_⟩;k_is;cases aF K t z with
  |true=>k_is;exact⟨rfl,Sm.refl _⟩
  |false=>k_is;exact⟨rfl,Sm.refl _⟩
 ·rw[bP];refine aa (show cD false ((L.filter (aF K t)).map ae) S'=some (.int (wts K L t),S') by unfold cD wts;rw[Za]) ?_;k_is;exact q S' sm
theorem wZ{x:Int}{xs:List Int}:ff ((x::xs).map D.int)=none:=by simp only[Zz,ff,nZ]
theorem eF:∀ (xs:List Int),eK (xs.map D.int)=some xs
 |[]=>rfl
 |x::xs=>by simp only[Zz,eK,eF xs]
theorem qN{xs:List Int}(h:xs.length < 64):cu false (xs.map D.int)=some ((f9 xs).map D.int):=by
 unfold cu;rw[if_pos rfl];cases xs with
 |nil=>rfl
 |cons x xs=>
  simp only[yL,wZ,eF];rw[if_pos h]
theorem K3:(js K).length=K.G.length:=by unfold js;rw[(cE _).length_eq,Za]
theorem qO(V:Vd K)(q:∀S',Sm S S'->S'[Zj S' - 1]?=some (.lst ((js K).map D.int))->Zj S<=Zj S' - 1->Q (.ref (Zj S' - 1)) S'):Ok (evC ac (k+1) 26 [skE K] S) Q:=by
 refine ax (d:=bT) (ρ:=[some (skE K)]) rfl rfl ?_;dsimp only[bT,cR];k_is;refine aa sk2 ?_;k_is;refine bI K.G aA (λg=>[.int (g.getD 1 0)]) (by have:=V.g7;lia) (λ_ _=>Zd _) cp (λi g S' hg sm=>⟨_,rfl,?_⟩) λS' sm=>?_
 ·obtain⟨l7,_⟩:=V.gl g (Zi hg)
  match g,l7 with
  |[a,b,c,d,e,f,h],_=>
   k_is;exact aa (show ixS (aA [a,b,c,d,e,f,h]) (.int 1) S'=some (.int b,S') from rfl) ⟨rfl,Sm.refl _⟩
 ·rw[bL];refine⟨_,show cu false (K.G.map λg=>D.int (g.getD 1 0))=some ((js K).map D.int) from ?_,?_⟩
  ·have:=qN (xs:=K.G.map λg=>g.getD 1 0) (by rw[Za];have:=V.g7;lia);rw[Z7] at this;exact this
  ·have e:Zj (S'++[Ob.lst ((js K).map D.int)]) - 1=Zj S':=by simp
   have sl:Zj S<=Zj S':=by
    cases hz:decide (Zj S<=Zj S') with
    |true=>exact of_decide_eq_true hz
    |false=>
     exfalso;have hlt:Zj S' < Zj S:=by have:=of_decide_eq_false hz;lia
     have:=sm (Zj S') S[Zj S'] (gEG hlt);rw[Zv (Zd _)] at this;cases this
   have:=q (S'++[Ob.lst ((js K).map D.int)]) (sm.trans (Sm.app _ _)) (by rw[e];exact aI) (by rw[e];exact sl);rw[e] at this;exact this
theorem gQ{n:Nat}{ds:List D}{i:Int}{d:D}(hn:S[n]?=some (.lst ds))(h0:0<=i)(h:ds[i.toNat]?=some d):ixS (.ref n) (.int i) S=some (d,S):=by
 obtain⟨j,rfl⟩:∃j:Nat,i=(j:Int):=⟨i.toNat,by lia⟩;rw[ZJ] at h;simp only[ixS,ay,aM hn,ZA,Ev.tQ h]
theorem uN{n:Nat}{ds:List D}{j:Nat}(hn:S[n]?=some (.lst ds)):slS none (some (j:Int)) (.ref n) S=some (.ref (Zj S),S++[.lst (ds.take j)]):=by
 have:fW ds none (some (j:Int))=ds.take j:=by
  by_cases h:j<=ds.length
  ·exact z5 ds j h
  ·unfold fW;rw[Dw.yh _ _ (by lia),ZJ,XV (by lia)];show(ds.drop 0).take (ds.length - 0)=ds.take j;rw[List.drop_zero,Z6 (by lia),Z6 (by lia)]
 simp only[slS,aM hn,this]
theorem oT{a b:Nat}{xs ys:List D}(ha:S[a]?=some (.lst xs))(hb:S[b]?=some (.lst ys))(hl:xs.length+ys.length<=100000):bJ .add (.ref a) (.ref b) S=some (.ref (Zj S),S++[.lst (xs++ys)]):=by
 simp only[bJ,jv,Ho,ha,hb];rw[if_pos hl]
theorem fT{n:Nat}{ds:List D}(hn:S[n]?=some (.lst ds)):ai cD (.ref n) S=some (.int ds.length,S):=by simp only[ai,ay,aM hn,ZA,cD]
theorem AJ{xs:List Int}(h:xs ≠ []):lW false (xs.map D.int) S=some (.int (gx xs),S):=by
 cases xs with
 |nil=>exact absurd rfl h
 |cons x xs=>unfold lW;rw[eF]
theorem ES(V:Vd K){L:List (Int × Int)}{n j:Nat}{z:Int × Int}(hn:S[n]?=some (.lst (L.map ae)))(hz:L[j]?=some z)(hL:InG K L)(hl:L.length<=100)(q:∀S',Sm S S'->Q (.int (qH K (L.take j) z.1 z.2)) S'):Ok (evC ac (k+3) 28 [skE K,.ref n,.int j,.int (jn K z.1)] S) Q:=by
 refine ax (d:=c8) (ρ:=[some (skE K),some (.ref n),some (.int j),some (.int (jn K z.1)),none,none]) rfl rfl ?_;dsimp only[c8,gh];have hzG:=hL z (Zi hz);k_is;refine aa (uN hn) ?_;k_is;have s1:Sm S (S++[Ob.lst ((L.map ae).take j)]):=Sm.app _ _;have a1:(S++[Ob.lst ((L.map ae).take j)])[Zj S]?=some (Ob.lst ((L.take j).map ae)):=by rw[aI,Wc]
 generalize Zj S=N1 at *;generalize S++[Ob.lst ((L.map ae).take j)]=S1 at *;refine⟨rfl,qO V λS2 s2 a2 _=>?_⟩;k_is;refine⟨by rw[aM a2];rfl,?_⟩;have hjl:(js K).length<=7:=by rw[K3];exact V.g7
 refine bI (js K) D.int (λt=>if (decide (jn K z.1 < t) && aF K t z)=true then [D.int t] else []) (by lia) (λ_ _=>by split <;> simp) (eD a2) (λi t S' ht sm=>⟨_,rfl,?_⟩) λS3 s3=>?_
 ·k_is;cases c:decide (jn K z.1 < t) with
  |false=>k_is;exact⟨rfl,Sm.refl _⟩
  |true=>
   k_is;have hn':=sm _ _ (s2 _ _ (s1 _ _ hn));refine aa (gQ hn' (by lia) (show(L.map ae)[((j:Nat):Int).toNat]?=some (ae z) by rw[ZJ,Zs,hz];rfl)) ?_;refine⟨rfl,ll V hzG.1 hzG.2 ?_⟩;k_is;cases aF K t z with
   |true=>k_is;exact⟨rfl,Sm.refl _⟩
   |false=>k_is;exact⟨rfl,Sm.refl _⟩
 ·rw[bP];k_is;have lt3:Zj S3 < Zj (S3++[Ob.lst (((js K).filter λt=>decide (jn K z.1 < t) && aF K t z).map D.int)]):=by simp
  have a3:(S3++[Ob.lst (((js K).filter λt=>decide (jn K z.1 < t) && aF K t z).map D.int)])[Zj S3]?=some (Ob.lst (((js K).filter λt=>decide (jn K z.1 < t) && aF K t z).map D.int)):=aI;have s4:Sm S3 (S3++[Ob.lst (((js K).filter λt=>decide (jn K z.1 < t) && aF K t z).map D.int)]):=Sm.app _ _;have lf:((js K).filter λt=>decide (jn K z.1 < t) && aF K t z).length<=7:=ZI (YR _ _) hjl;generalize Zj S3=N3 at *;generalize S3++[Ob.lst (((js K).filter λt=>decide (jn K z.1 < t) && aF K t z).map D.int)]=S4 at *;have s5:Sm S4 (S4++[Ob.lst [D.int (jn K z.1)]]):=Sm.app _ _;refine aa (oT (xs:=[D.int (jn K z.1)]) aI (s5 _ _ a3) (by rw[Za,Zm];lia)) ?_;k_is;have s6:Sm (S4++[Ob.lst [D.int (jn K z.1)]]) (S4++[Ob.lst [D.int (jn K z.1)]]++[Ob.lst ([D.int (jn K z.1)]++((js K).filter λt=>decide (jn K z.1 < t) && aF K t z).map D.int)]):=Sm.app _ _;have a6:(S4++[Ob.lst [D.int (jn K z.1)]]++[Ob.lst ([D.int (jn K z.1)]++((js K).filter λt=>decide (jn K z.1 < t) && aF K t z).map D.int)])[Zj (S4++[Ob.lst [D.int (jn K z.1)]])]?=some (Ob.lst ((gP K (L.take j) z.1 z.2).map D.int)):=aI;refine⟨by rw[aM a6];rfl,?_⟩;have sA:=((((s1.trans s2).trans s3).trans s4).trans s5).trans s6;have aL:=(((((s2.trans s3).trans s4).trans s5).trans s6)) _ _ a1;refine bI (gP K (L.take j) z.1 z.2) D.int (λt=>[D.int (1+(wts K (L.take j) t:Int))]) (by show((js K).filter λt=>decide (jn K z.1 < t) && aF K t z).length+1<=1000;lia) (λ_ _=>Zd _) (eD a6) (λi t S' ht sm=>⟨_,rfl,?_⟩) λS7 s7=>?_
  ·k_is;refine⟨rfl,K2 V (sm _ _ aL) (λw hw=>hL w (List.mem_of_mem_take hw)) (by rw[Ys];lia) λS8 s8=>?_⟩;k_is;exact⟨rfl,s8⟩
  ·rw[bL];have em:=AJ (S:=S7) (xs:=(gP K (L.take j) z.1 z.2).map λt=>1+(wts K (L.take j) t:Int)) (by unfold gP;simp);rw[Z7] at em;exact aa em (by k_is;exact q S7 (sA.trans s7))
theorem ET(V:Vd K){L:List (Int × Int)}{n j:Nat}{z:Int × Int}(hn:S[n]?=some (.lst (L.map ae)))(hz:L[j]?=some z)(hL:InG K L)(hl:L.length<=100)(q:∀S',Sm S S'->Q (.bl (qI K (L.take j) z.1 z.2)) S'):Ok (evC ac (k+4) 27 [skE K,.ref n,.int j] S) Q:=by
 refine ax (d:=c7) (ρ:=[some (skE K),some (.ref n),some (.int j),none,none,none,none,none,none,none]) rfl rfl ?_;dsimp only[c7,gg];have hzG:=hL z (Zi hz);obtain⟨a,b,c,d,e,f,h,eg,e0,e1,e2,e3,e6,_⟩:=gl7 V hzG.1 hzG.2;have hi:=gQ hn (show(0:Int)<=(j:Int) by lia) (show(L.map ae)[((j:Nat):Int).toNat]?=some (ae z) by rw[ZJ,Zs,hz];rfl);k_is;refine aa sk2 (aa hi (aa (show ixS (ae z) (.int 0) S=some (.int z.1,S) from rfl) (aa (cJ hzG.1 eg) ?_)));rw[show aA [a,b,c,d,e,f,h] = .tup [.int a,.int b,.int c,.int d,.int e,.int f,.int h] from rfl];k_is;have ej:jn K z.1=b:=e1;have eh:qI K (L.take j) z.1 z.2=(decide (0 < h) && (aF K b z && decide (h < qH K (L.take j) z.1 z.2))):=by unfold qI;rw[e6,ej]
 rw[eh] at q;cases c1:decide (0 < h) with
 |false=>rw[c1] at q;k_is;exact q S (Sm.refl S)
 |true=>
  rw[c1] at q;k_is;refine aa hi ?_;refine⟨rfl,ll V hzG.1 hzG.2 ?_⟩;k_is;cases c2:aF K b z with
  |false=>rw[c2] at q;k_is;exact q S (Sm.refl S)
  |true=>
   rw[c2] at q;k_is
   have rg:=ES (k:=k) (Q:=λy S2=>wCx .gt y (.int h) S2 λd S1=>Q d S1) V hn hz hL hl λS' sm=>by
    k_is;exact q S' sm
   rw[ej] at rg;exact⟨rfl,rg⟩
theorem EU(V:Vd K){j:Nat}{m:Int}(q:∀S',Sm S S'->Q (.bl (sY K j m)) S'):Ok (evC ac (k+2) 32 [skE K,.int j,.int m] S) Q:=by
 refine ax (d:=bU) (ρ:=[some (skE K),some (.int j),some (.int m),none,none,none,none,none,none]) rfl rfl ?_;dsimp only[bU,cS];k_is;refine aa sk0 ?_;rw[show meE K = .tup [.int K.r,.int K.s,.tup (K.M.map aA),.tup (K.H.map ae)] from rfl];k_is;refine⟨rfl,qO V λS1 s1 a1 _=>?_⟩;k_is;refine aa (fT a1) ?_;k_is;rw[Za];have r0:=V.r0;have el:sY K j m=match (js K)[(K.r+j).toNat]? with |some t=>decide (t < m - K.s) |none=>false:=rfl
 refine cz (λh=>?_) λh=>?_
 ·have hlt:(K.r+j).toNat < (js K).length:=by have:=of_decide_eq_true h;lia
  rw[gEG hlt] at el;k_is;refine aa (gQ a1 (by lia) (show((js K).map D.int)[(K.r+(j:Int)).toNat]?=some (.int (js K)[(K.r+(j:Int)).toNat]) by rw[Zs,gEG hlt];rfl)) ?_;k_is;have:=q S1 s1;rw[el] at this;exact this
 ·have hge:(js K).length<=(K.r+j).toNat:=by have:=of_decide_eq_false h;lia
  rw[Zv hge] at el;have:=q S1 s1;rw[el] at this;exact this
abbrev ip:Option Int->D
 |none=>.non
 |some m=>.int m
theorem nh(V:Vd K){a:Option (Int × Int)}{g:Int}{j:Nat}(ha:∀q,a=some q->0<=q.1/\q.1 < K.M.length)(g0:0<=g)(g1:g < K.G.length)(q:∀S',Sm S S'->Q (ip (Sn.step K a g j)) S'):Ok (evC ac (k+3) 31 [skE K,ahE a,.int g,.int j] S) Q:=by
 refine ax (d:=b8) (ρ:=[some (skE K),some (ahE a),some (.int g),some (.int j),none,none,none,none,none,none,none,none]) rfl rfl ?_;dsimp only[b8,dC];obtain⟨a0,b,c,d,e,f,h,eg,e0,e1,e2,e3,e6,k0,k1,c0⟩:=gl7 V g0 g1;k_is;refine aa sk2 (aa (cJ g0 eg) ?_);rw[show aA [a0,b,c,d,e,f,h] = .tup [.int a0,.int b,.int c,.int d,.int e,.int f,.int h] from rfl];k_is;refine aa sk0 ?_;refine⟨rfl,ER V ha k0 k1 ?_⟩;k_is;refine⟨rfl,K1 V.h4 ?_⟩;k_is
 have em:fns K.H (if wX K a a0 > c then wX K a a0 else c)=opm K.H (bc K a g):=by
  have:=AG (K:=K) (ah:=a) (g:=g) (by rw[e2];exact c0);rw[e0,e2] at this;rw[this,uK V.ris]
 rw[em];have es:Sn.step K a g j=if (decide (d < opm K.H (bc K a g)) || sY K j (opm K.H (bc K a g)))=true then none else some (opm K.H (bc K a g)):=by unfold Sn.step;rw[e3]
 rw[es] at q;cases c1:decide (d < opm K.H (bc K a g)) with
 |true=>rw[c1] at q;k_is;exact q S (Sm.refl S)
 |false=>
  rw[c1] at q;k_is;refine⟨rfl,EU V λS1 s1=>?_⟩;k_is;cases c2:sY K j (opm K.H (bc K a g)) with
  |true=>rw[c2] at q;k_is;exact q S1 s1
  |false=>rw[c2] at q;k_is;exact q S1 s1
theorem Sm.setNew{S S':Sto}{f:Nat}{o:Ob}(h:Sm S S')(hf:S.length<=f):Sm S (S'.set f o):=λi u e=>by
 have hi:=(Zb.mp e).1;rw[Zp (by lia)];exact h i u e
theorem K4{g:Int}(g0:0<=g)(g1:g < K.G.length):jn K g ∈ js K:=by
 have hi:g.toNat < K.G.length:=by lia
 refine(cE _).mem_iff.mpr (ZL.mpr ⟨K.G[g.toNat],ZQ hi,?_⟩);unfold jn gi;rw[gEG hi];rfl
theorem iq(V:Vd K){L:List (Int × Int)}(hL:InG K L):∀q,aG K L=some q->0<=q.1/\q.1 < K.M.length:=λq e=>by
 unfold aG at e;cases h:L.getLast? with
 |none=>rw[h] at e;exact V.ah0 q e
 |some z=>
  rw[h] at e;cases e;have hz:=hL z (List.mem_of_getLast? h);obtain⟨a,b,c,d,e,f,h,eg,e0,e1,e2,e3,e6,k0,k1,c0⟩:=gl7 V hz.1 hz.2;show 0<=gi K.G z.1 0/\gi K.G z.1 0 < K.M.length;rw[e0];exact⟨k0,k1⟩
theorem cK{L:List (Int × Int)}{z:Int × Int}:aG K (L++[z])=some (gi K.G z.1 0,z.2):=by
 unfold aG;rw[YX];rfl
theorem iK:∀ (os:List Int) (a:Option (Int × Int)) (L:List (Int × Int)) (j:Nat),rn K os a L = .inl j->j < L.length+os.length
 |[],_,_,_,h=>by cases h
 |g::os,a,L,j,h=>by
  rw[rn] at h;rw[Zr];split at h
  ·cases h;lia
  ·split at h
   ·cases h;lia
   ·have:=iK os _ _ j h;rw[Zg,Zm] at this
    lia
theorem jG:∀ (os:List Int) (a:Option (Int × Int)) (L R:List (Int × Int)),rn K os a L = .inr R->R.length=L.length+os.length
 |[],_,_,_,h=>by cases h;rfl
 |g::os,a,L,R,h=>by
  rw[rn] at h;rw[Zr];split at h
  ·cases h
  ·split at h
   ·cases h
   ·have:=jG os _ _ R h;rw[Zg,Zm] at this
    lia
structure Ends(K:Sky)(os:List Int)(L:List (Int × Int)):Prop where
 stuck:∀j,rn K os K.ah [] = .inl j->L.length=j
 lands:∀R,rn K os K.ah [] = .inr R->L=R
theorem qP(V:Vd K){os:List Int}(ho:∀g ∈ os,0<=g/\g < K.G.length)(lo:os.length<=7)
  (q:∀n L S',Sm S S'->S'[n]?=some (.lst (L.map ae))->Zj S<=n->Ends K os L->Q (.ref n) S'):Ok (evC ac (k+5) 29 [skE K,.tup (os.map D.int)] S) Q:=by
 refine ax (d:=bO) (ρ:=[some (skE K),some (.tup (os.map D.int)),none,none,none,none]) rfl rfl ?_;dsimp only[bO,cH];k_is;refine AI (by rw[Za];lia) (λi ρ S'=>Sm S S'/\∃L u v w,ρ=[some (skE K),some (.tup (os.map D.int)),some (.ref (Zj S)),u,v,w]/\S'[Zj S]?=some (.lst (L.map ae))/\L.length=i/\InG K L/\rn K os K.ah []=rn K (os.drop i) (aG K L) L) (λi d ρ S1 hd ⟨s1,L,u,v,w,er,hn,hi,hL,hr⟩=>?_) (λρ S1 ⟨s1,L,u,v,w,er,hn,hi,hL,hr⟩=>?_) ⟨Sm.app _ _,[],none,none,none,rfl,aI,rfl,λ_ h=>(by simp at h),rfl⟩
 ·subst er;obtain⟨g,hg,rfl⟩:=lj hd;have hgG:=ho g (Zi hg);have hil:i < os.length:=(Zb.mp hg).1;rw[jF hg,rn,hi] at hr;refine⟨_,dg (by simp) (by simp),?_⟩;k_is;refine⟨rfl,qM V hn hL ?_⟩;refine⟨rfl,nh V (iq V hL) hgG.1 hgG.2 λS2 s2=>?_⟩;k_is;cases hst:Sn.step K (aG K L) g i with
  |none=>
   rw[hst] at hr;refine aa (show aj .is (ip none) .non S2=some (.bl true,S2) from rfl) ?_;k_is;exact q _ L S2 (s1.trans s2) (s2 _ _ hn) (Zd _) ⟨λj e=>by rw[hr] at e;cases e;exact hi,λR e=>by rw[hr] at e;cases e⟩
  |some m=>
   rw[hst] at hr;refine aa (show aj .is (ip (some m)) .non S2=some (.bl false,S2) from rfl) ?_;rw[show ip (some m) = .int m from rfl];k_is;have hn2:=s2 _ _ hn;refine⟨cg hn2,?_⟩;rw[iX hn2 (by rw[Za];lia)];k_is;have lt2:Zj S < S2.length:=(Zb.mp hn2).1;have hn3:(S2.set (Zj S) (Ob.lst (L.map ae++[D.tup [D.int g,D.int m]])))[Zj S]?=some (.lst ((L++[(g,m)]).map ae)):=by rw[dh lt2,ZD];rfl
   have s3:Sm S (S2.set (Zj S) (Ob.lst (L.map ae++[D.tup [D.int g,D.int m]]))):=Sm.setNew (s1.trans s2) (Zd _);generalize S2.set (Zj S) (Ob.lst (L.map ae++[D.tup [D.int g,D.int m]]))=S3 at *
   have hL3:InG K (L++[(g,m)]):=λz hz=>by
    rcases ZO.mp hz with hz |hz
    ·exact hL z hz
    ·rw[Zy.mp hz];exact hgG
   have hz3:(L++[(g,m)])[i]?=some (g,m):=by rw[Zo (by lia),hi,ZZ];rfl
   have ht3:(L++[(g,m)]).take i=L:=by rw[<-hi,List.take_left]
   refine⟨rfl,ET V hn3 hz3 hL3 (by rw[Zg,Zm];lia) λS4 s4=>?_⟩;rw[ht3,EO λz hz=>K4 (hL z hz).1 (hL z hz).2];k_is;dsimp only at hr;cases hh:ng K L g m with
   |true=>
    rw[hh,if_pos rfl] at hr;k_is;refine aa (uN (s4 _ _ hn3)) ?_;k_is;have a5:(S4++[Ob.lst (((L++[(g,m)]).map ae).take i)])[Zj S4]?=some (.lst (L.map ae)):=by rw[aI,<-Wc,ht3]
    have l4:Zj S<=Zj S4:=Y2 (Zb.mp (s4 _ _ hn3)).1;exact q _ L _ ((s3.trans s4).trans (Sm.app _ _)) a5 l4 ⟨λj e=>by rw[hr] at e;cases e;exact hi,λR e=>by rw[hr] at e;cases e⟩
   |false=>
    rw[hh,if_neg Ze] at hr;k_is;exact⟨s3.trans s4,L++[(g,m)],_,_,_,rfl,s4 _ _ hn3,by rw[Zg,Zm];lia,hL3,by rw[cK];exact hr⟩
 ·subst er;k_is;rw[Za,YE,rn] at hr;exact q _ L S1 s1 hn (Zd _) ⟨λj e=>(by rw[hr] at e;cases e),λR e=>(by rw[hr] at e;cases e;rfl)⟩
end Lw
namespace Lw
open PySem Ev
variable {p:Nat} {S:Sto} {k:Nat} {Q:D->Sto->Prop}
end Lw
namespace Lw
open PySem Ev Sn
variable {p:Nat} {S:Sto} {k:Nat} {Q:D->Sto->Prop} {K:Sky}
theorem eG(r:List Int):TDs p S (r.map Dw.D.int) (r.map D.int):=by
 induction r with
 |nil=>exact bE
 |cons a r ih=>exact ak bu ih
theorem fJ:∀ (M:List (List Int)),TDs p S (Dw.jr M) (M.map aA)
 |[]=>bE
 |r::M=>ak (bp (eG r)) (fJ M)
abbrev ahT:Option (Int × Int)->Dw.D
 |none=>.non
 |some q=>.tup [.int q.1,.int q.2]
abbrev skT(K:Sky):Dw.D:=.tup [.tup [.int K.r,.int K.s,.tup (Dw.jr K.M),.tup (K.H.map Dw.mD)],ahT K.ah,.tup (Dw.jr K.G),.tup (K.F.map Dw.D.int)]
theorem Gf:∀ (a:Option (Int × Int)),TD p S (ahT a) (ahE a)
 |none=>zW
 |some q=>bp (ak bu (ak bu bE))
theorem Og:TD p S (skT K) (skE K):=bp (ak (bp (ak bu (ak bu (ak (bp (fJ K.M)) (ak (bp (fH K.H)) bE))))) (ak (Gf K.ah) (ak (bp (fJ K.G)) (ak (bp (eG K.F)) bE))))
def Res(K:Sky)(os:List Int)(b:Nat)(d:D)(S':Sto):Prop:=match rn K os K.ah [] with
 |.inl j=>d = .tup [.str "stuck", .int j]
 |.inr R=>∃n,d = .tup [.str "lands", .ref n]/\S'[n]?=some (.lst (R.map ae))/\b<=n
theorem AK{H:List (Int × Int)}{m:Int}(hl:H.length<=4)(q:Q (.int (opm H m)) S):Ok (evC ac (k+1) 46 [.tup (H.map ae),.int m] S) Q:=by
 refine ax (d:=gL) (ρ:=[some (.tup (H.map ae)),some (.int m),none,none]) rfl rfl ?_;dsimp only[gL,kZ];k_is;refine AH (by rw[Za];lia) (λi ρ S'=>S'=S/\∃ (m':Int) (u v:Option D),opm H m=opm (H.drop i) m'/\ρ=[some (.tup (H.map ae)),some (.int m'),u,v]) (λi d ρ S' hd ⟨es,m',u,v,ef,er⟩=>?_) (λρ S' ⟨es,m',u,v,ef,er⟩=>?_) ⟨rfl,m,none,none,rfl,rfl⟩
 ·subst es er;obtain⟨pr,hp,rfl⟩:=lj hd;refine⟨_,show au (.tup [.name 2,.name 3]) (.tup [.int pr.1,.int pr.2]) _=_ from dg (by simp) (by simp),?_⟩;k_is;rw[jF hp,opm] at ef;refine qL (λh1 h2=>?_) λh=>?_
  ·k_is;rw[if_pos ⟨of_decide_eq_true h1,of_decide_eq_true h2⟩] at ef;exact⟨rfl,_,_,_,ef,rfl⟩
  ·k_is;rw[if_neg (λz=>by rw[decide_eq_true z.1,decide_eq_true z.2] at h;cases h)] at ef;exact⟨rfl,_,_,_,ef,rfl⟩
 ·subst es er;k_is;rw[Za,YE,opm] at ef;rw[ef] at q;exact q
theorem w4(V:Vd K){L:List (Int × Int)}{n:Nat}{t:Int}(hn:S[n]?=some (.lst (L.map ae)))(hL:InG K L)(hl:L.length<=1000)(q:∀N ds S',Sm S S'->S'[N]?=some (.lst ds)->ds.length=wts K L t->Q (.ref N) S'):Ok (evC ac (k+1) 47 [skE K,.ref n,.int t] S) Q:=by
 refine ax (d:=fE) (ρ:=[some (skE K),some (.ref n),some (.int t)]) rfl rfl ?_;dsimp only[fE,jj];k_is;refine⟨by rw[aM hn];rfl,?_⟩;refine bI L ae (λz=>if aF K t z=true then [.int z.1] else []) hl (λz _=>by split <;> simp) (eD hn) (λi z S' hz sm=>⟨_,show au (.tup [.name 3,.name 4]) (.tup [.int z.1,.int z.2]) _=_ from dg (by simp) (by simp),?_⟩) λS' sm=>?_
 ·obtain⟨h0,h1⟩:=hL z (Zi hz);obtain⟨a,b,c,d,e,f,h,eg,_,e1,_⟩:=gl7 V h0 h1;k_is;refine aa sk2 (aa (cJ h0 eg) (aa (show ixS (aA [a,b,c,d,e,f,h]) (.int 1) S'=some (.int b,S') from rfl) ?_));k_is;have ew:aF K t z=(decide (b<=t) && decide (t < z.2 - K.s)):=by unfold aF jn;rw[e1]
  rw[ew];cases c1:decide (b<=t) with
  |false=>k_is;exact⟨rfl,Sm.refl _⟩
  |true=>
   k_is;refine aa sk0 (aa me1 ?_);k_is;cases c2:decide (t < z.2 - K.s) with
   |true=>k_is;exact⟨rfl,Sm.refl _⟩
   |false=>k_is;exact⟨rfl,Sm.refl _⟩
 ·rw[bP];k_is;exact q _ _ _ (sm.trans (Sm.app _ _)) aI (by rw[Za];rfl)
theorem w5{c:Int}{xs:List Int}{n:Nat}(h:S[n]?=some (.lst (xs.map D.int))):ai (eM c) (.ref n) S=some (.int (qc c xs),S):=by
 simp only[ai,ay,aM h,ZA,eM,eF]
theorem AL(V:Vd K){L:List (Int × Int)}{n:Nat}{g m:Int}(hn:S[n]?=some (.lst (L.map ae)))(hL:InG K L)(hl:L.length<=100)(g0:0<=g)(g1:g < K.G.length)(q:∀S',Sm S S'->Q (.int (qG K L g m)) S'):Ok (evC ac (k+2) 48 [skE K,.ref n,.int g,.int m] S) Q:=by
 refine ax (d:=gM) (ρ:=[some (skE K),some (.ref n),some (.int g),some (.int m),none,none,none]) rfl rfl ?_;dsimp only[gM,k6];obtain⟨a,b,c,d,e,f,h,eg,_,e1,_⟩:=gl7 V g0 g1;have ej:jn K g=b:=e1;k_is;refine aa sk2 (aa (cJ g0 eg) (aa (show ixS (aA [a,b,c,d,e,f,h]) (.int 1) S=some (.int b,S) from rfl) ?_));k_is;have s1:Sm S (S++[Ob.lst [D.int b]]):=Sm.app _ _;have a1:(S++[Ob.lst [D.int b]])[Zj S]?=some (Ob.lst [D.int b]):=aI;generalize Zj S=N1 at *;generalize S++[Ob.lst [D.int b]]=S1 at *;have hn1:=s1 _ _ hn;refine⟨by rw[aM hn1];rfl,?_⟩;refine bI L ae (λz=>[.int (jn K z.1)]) (by lia) (λ_ _=>Zd _) (eD hn1) (λi z S' hz sm=>⟨_,show au (.tup [.name 7,.name 8]) (.tup [.int z.1,.int z.2]) _=_ from dg (by simp) (by simp),?_⟩) λS2 s2=>?_
 ·obtain⟨h0,h1⟩:=hL z (Zi hz);obtain⟨a,b,c,d,e,f,h,eg,_,e1,_⟩:=gl7 V h0 h1;k_is;refine aa sk2 (aa (cJ h0 eg) (aa (show ixS (aA [a,b,c,d,e,f,h]) (.int 1) S'=some (.int b,S') from rfl) ?_));exact⟨by rw[show jn K z.1=b from e1],Sm.refl _⟩
 ·rw[bL];have s3:Sm S2 (S2++[Ob.lst (L.map λz=>D.int (jn K z.1))]):=Sm.app _ _;refine aa (oT (s3 _ _ (s2 _ _ a1)) aI (by rw[Za,Zm];lia)) ?_;k_is;have s4:Sm (S2++[Ob.lst (L.map λz=>D.int (jn K z.1))]) (S2++[Ob.lst (L.map λz=>D.int (jn K z.1))]++[Ob.lst ([D.int b]++L.map λz=>D.int (jn K z.1))]):=Sm.app _ _
  have a4:(S2++[Ob.lst (L.map λz=>D.int (jn K z.1))]++[Ob.lst ([D.int b]++L.map λz=>D.int (jn K z.1))])[Zj (S2++[Ob.lst (L.map λz=>D.int (jn K z.1))])]?=some (Ob.lst ((jn K g::L.map λz=>jn K z.1).map D.int)):=by
   rw[aI,ej,Zz,Z7];rfl
  have sA:=((s1.trans s2).trans s3).trans s4;have hn4:=sA _ _ hn;generalize Zj (S2++[Ob.lst (L.map λz=>D.int (jn K z.1))])=N4 at *;generalize S2++[Ob.lst (L.map λz=>D.int (jn K z.1))]++[Ob.lst ([D.int b]++L.map λz=>D.int (jn K z.1))]=S4 at *;refine⟨by rw[aM a4];rfl,?_⟩;refine bI (jn K g::L.map λz=>jn K z.1) D.int (λt=>if (decide (jn K g<=t) && decide (t < m - K.s))=true then [D.int (1+(wts K L t:Int))] else []) (by rw[Zr,Za];lia) (λ_ _=>by split <;> simp) (eD a4) (λi t S' ht sm=>⟨_,rfl,?_⟩) λS5 s5=>?_
  ·k_is;rw[ej];cases c1:decide (b<=t) with
   |false=>k_is;exact⟨rfl,Sm.refl _⟩
   |true=>
    k_is;refine aa sk0 (aa me1 ?_);k_is;cases c2:decide (t < m - K.s) with
    |false=>k_is;exact⟨rfl,Sm.refl _⟩
    |true=>
     k_is;refine⟨rfl,w4 V (sm _ _ hn4) hL (by lia) λN ds S6 s6 hN hd=>?_⟩;refine aa (fT hN) ?_;k_is;rw[hd];exact⟨rfl,s6⟩
  ·rw[bP];k_is;have s6:Sm S5 (S5++[Ob.lst ((fI K L g m).map λt=>D.int (1+(wts K L t:Int)))]):=Sm.app _ _;have a6:(S5++[Ob.lst ((fI K L g m).map λt=>D.int (1+(wts K L t:Int)))])[Zj S5]?=some (Ob.lst (((fI K L g m).map λt=>1+(wts K L t:Int)).map D.int)):=by rw[aI,Z7];rfl
   refine aa (w5 a6) ?_;k_is;exact q _ ((sA.trans s5).trans s6)
theorem AM{ds:List D}{i:Int}(h0:0<=i):fW ds (some i) none=ds.drop i.toNat:=by
 unfold fW;rw[Dw.Hb _ _ h0,HT.xM];by_cases h:i.toNat<=ds.length
 ·rw[X3 h,Z6 (by rw[YT];lia)]
 ·rw[XV (by lia),YE,List.take_nil,YL (by lia)]
theorem AN{n:Nat}{ds:List D}{i:Int}(hn:S[n]?=some (.lst ds))(h0:0<=i):slS (some i) none (.ref n) S=some (.ref (Zj S),S++[.lst (ds.drop i.toNat)]):=by
 simp only[slS,aM hn,AM h0]
theorem sZ(V:Vd K){a:Option (Int × Int)}{g:Int}{j:Nat}{kd jo la:Int}{w1 w2:Option D}(e3:gi K.G g 3=la)(q:∀S',Sm S S'->Q (ip (Sn.step K a g j)) S') :
  rW (wSs (evC ac (k+1)) (eS ac) 58 (dU.drop 2)) [some (skE K),some (ahE a),some (.int g),some (.int j),some (.int kd),some (.int jo),some (.int (bc K a g)),some (.int la),none,none] S (out Q):=by
 dsimp only[dU,Yj];k_is;refine aa sk0 (aa me3 ?_);refine⟨rfl,AK V.h4 ?_⟩;k_is;have es:Sn.step K a g j=if (decide (la < opm K.H (bc K a g)) || sY K j (opm K.H (bc K a g)))=true then none else some (opm K.H (bc K a g)):=by unfold Sn.step;rw[e3]
 rw[es] at q;generalize opm K.H (bc K a g)=m at *;refine aa sk2 ?_;k_is;refine bI K.G aA (λg=>[.int (g.getD 1 0)]) (by have:=V.g7;lia) (λ_ _=>Zd _) cp (λi g S' hg sm=>⟨_,rfl,?_⟩) λS1 s1=>?_
 ·obtain⟨l7,_⟩:=V.gl g (Zi hg)
  match g,l7 with
  |[a,b,c,d,e,f,h],_=>
   k_is;exact aa (show ixS (aA [a,b,c,d,e,f,h]) (.int 1) S'=some (.int b,S') from rfl) ⟨rfl,Sm.refl _⟩
 ·rw[bL];refine⟨_,show cu false (K.G.map λg=>D.int (g.getD 1 0))=some ((js K).map D.int) from ?_,?_⟩
  ·have:=qN (xs:=K.G.map λg=>g.getD 1 0) (by rw[Za];have:=V.g7;lia);rw[Z7] at this;exact this
  ·refine aa sk0 (aa me0 ?_);k_is;have s2:Sm S1 (S1++[Ob.lst ((js K).map D.int)]):=Sm.app _ _;have a2:(S1++[Ob.lst ((js K).map D.int)])[Zj S1]?=some (Ob.lst ((js K).map D.int)):=aI;generalize Zj S1=N1 at *;generalize S1++[Ob.lst ((js K).map D.int)]=S2 at *;have r0:=V.r0;refine aa (AN a2 (by lia)) ?_;k_is;have s3:Sm S2 (S2++[Ob.lst (((js K).map D.int).drop (K.r+(j:Int)).toNat)]):=Sm.app _ _;have a3:(S2++[Ob.lst (((js K).map D.int).drop (K.r+(j:Int)).toNat)])[Zj S2]?=some (Ob.lst (((js K).map D.int).drop (K.r+(j:Int)).toNat)):=aI;have l3:Zj S2 < Zj (S2++[Ob.lst (((js K).map D.int).drop (K.r+(j:Int)).toNat)]):=by simp
   generalize Zj S2=N2 at *;generalize S2++[Ob.lst (((js K).map D.int).drop (K.r+(j:Int)).toNat)]=S3 at *;have sA:=(s1.trans s2).trans s3;cases c1:decide (la < m) with
   |true=>rw[c1] at q;k_is;exact q _ sA
   |false=>
    rw[c1] at q;k_is;refine aa (z4 (Sm.app _ _ _ _ a3) aI (by lia)) ?_;k_is;have sB:Sm S (S3++[Ob.lst []]):=sA.trans (Sm.app _ _);have a4:=Sm.app S3 [Ob.lst []] _ _ a3;generalize S3++[Ob.lst []]=S4 at *;have el:sY K j m=match (js K)[(K.r+j).toNat]? with |some t=>decide (t < m - K.s) |none=>false:=rfl
    by_cases hlt:(K.r+(j:Int)).toNat < (js K).length
    ·rw[gEG hlt] at el;dsimp only at el
     have ed:((js K).map D.int).drop (K.r+(j:Int)).toNat = .int (js K)[(K.r+(j:Int)).toNat]::((js K).map D.int).drop ((K.r+(j:Int)).toNat+1):=by
      rw[YF (by rw[Za];exact hlt),List.getElem_map]
     rw[ed] at a4;rw[ed,show(!(D.int (js K)[(K.r+(j:Int)).toNat]::((js K).map D.int).drop ((K.r+(j:Int)).toNat+1)).isEmpty)=true from rfl];k_is;refine aa sk0 (aa me1 ?_);k_is;refine aa (gQ (i:=0) a4 (by lia) rfl) ?_;k_is;rw[el] at q;cases c2:decide ((js K)[(K.r+(j:Int)).toNat] < m - K.s) with
     |true=>rw[c2] at q;k_is;exact q _ sB
     |false=>rw[c2] at q;k_is;exact q _ sB
    ·rw[Zv (by lia)] at el;have ed:((js K).map D.int).drop (K.r+(j:Int)).toNat=[]:=YL (by rw[Za];lia);rw[ed,show(!([]:List D).isEmpty)=false from rfl];k_is;rw[el] at q;exact q _ sB
theorem qQ(V:Vd K){a:Option (Int × Int)}{g:Int}{j:Nat}(ha:∀q,a=some q->0<=q.1/\q.1 < K.M.length)(g0:0<=g)(g1:g < K.G.length)(q:∀S',Sm S S'->Q (ip (Sn.step K a g j)) S'):Ok (evC ac (k+2) 49 [skE K,ahE a,.int g,.int j] S) Q:=by
 refine ax (d:=gN) (ρ:=[some (skE K),some (ahE a),some (.int g),some (.int j),none,none,none,none,none,none]) rfl rfl ?_;dsimp only[gN,dU];obtain⟨a0,b,c,d,e,f,h,eg,e0,e1,e2,e3,e6,k0,k1,c0⟩:=gl7 V g0 g1;k_is;refine aa sk2 (aa (cJ g0 eg) ?_);rw[show aA [a0,b,c,d,e,f,h] = .tup [.int a0,.int b,.int c,.int d,.int e,.int f,.int h] from rfl];k_is;rw[show fW [D.int a0,.int b,.int c,.int d,.int e,.int f,.int h] none (some 4)=[.int a0,.int b,.int c,.int d] from rfl];k_is;have tail:=sZ (k:=k) (S:=S) (Q:=Q) V (a:=a) (g:=g) (j:=j) (kd:=a0) (jo:=b) (w1:=none) (w2:=none) e3 q;dsimp only[dU,Yj] at tail;cases a with
 |none=>
  have ef:bc K none g=c:=e2;rw[ef] at tail;refine aa (show aj .isnot (ahE none) .non S=some (.bl false,S) from rfl) ?_;k_is;exact tail
 |some z=>
  obtain⟨z0,z1⟩:=ha z rfl;refine aa (show aj .isnot (ahE (some z)) .non S=some (.bl true,S) from rfl) ?_;k_is;refine aa (show ixS (ahE (some z)) (.int 1) S=some (.int z.2,S) from rfl) ?_;refine aa sk0 (aa me2 (aa (show ixS (ahE (some z)) (.int 0) S=some (.int z.1,S) from rfl) ?_));obtain⟨r,h1,h2⟩:=lh (S:=S) V z0 z1 k0 k1;refine aa h1 (aa h2 ?_);k_is;have ef:bc K (some z) g=if z.2+gp K z.1 a0 > c then z.2+gp K z.1 a0 else c:=by unfold bc;rw[e0,e2]
  rw[ef] at tail;exact tail
theorem lm(V:Vd K){L:List (Int × Int)}{S3:Sto}{N i:Nat}{g m h:Int}{od ad:D}(hn:S3[N]?=some (.lst (L.map ae)))(hl:L.length<=100)(g0:0<=g)(g1:g < K.G.length){Qf:Fl->Rho->Sto->Prop}
  (q:Qf .nx [some (skE K),some od,some (ahE (aG K (L++[(g,m)]))),some (.ref N),some (.int i),some (.int g),some (.int m),some (.int h)] (S3.set N (.lst (L.map ae++[.tup [.int g,.int m]])))) :
  cN (.ref N) S3=true/\Ok (qd (.ref N) [.tup [.int g,.int m]] S3) λ_ S1=>rW (wSs (evC ac (k+2)) (eS ac) 54 [CS.asg (Tg.name 2) (CE.tup [(((CE.var 0).ix (CE.int 2)).ix (CE.var 5)).ix (CE.int 0),CE.var 6])]) [some (skE K),some od,some ad,some (.ref N),some (.int i),some (.int g),some (.int m),some (.int h)] S1 Qf:=by
 refine⟨cg hn,?_⟩;rw[iX hn (by rw[Za];lia)];obtain⟨a,b,c,d,e,f,h',eg,e0,_⟩:=gl7 V g0 g1;k_is;refine aa sk2 (aa (cJ g0 eg) (aa (show ixS (aA [a,b,c,d,e,f,h']) (.int 0) (S3.set N (.lst (L.map ae++[.tup [.int g,.int m]])))=some (.int a,_) from rfl) ?_));k_is;rw[cK,e0] at q;exact q
theorem qR(V:Vd K){os:List Int}(ho:∀g ∈ os,0<=g/\g < K.G.length)(lo:os.length<=7)(q:∀d S',Sm S S'->Res K os (Zj S) d S'->Q d S'):Ok (evC ac (k+3) 50 [skE K,.tup (os.map D.int)] S) Q:=by
 refine ax (d:=df) (ρ:=[some (skE K),some (.tup (os.map D.int)),none,none,none,none,none,none]) rfl rfl ?_;dsimp only[df,gk];k_is;refine aa sk1 ?_;k_is;refine AI (by rw[Za];lia) (λi ρ S'=>Sm S S'/\∃L u v w x,ρ=[some (skE K),some (.tup (os.map D.int)),some (ahE (aG K L)),some (.ref (Zj S)),u,v,w,x]/\S'[Zj S]?=some (.lst (L.map ae))/\L.length=i/\InG K L/\rn K os K.ah []=rn K (os.drop i) (aG K L) L) (λi d ρ S1 hd ⟨s1,L,u,v,w,x,er,hn,hi,hL,hr⟩=>?_) (λρ S1 ⟨s1,L,u,v,w,x,er,hn,hi,hL,hr⟩=>?_) ⟨Sm.app _ _,[],none,none,none,none,rfl,aI,rfl,λ_ h=>(by simp at h),rfl⟩
 ·subst er;obtain⟨g,hg,rfl⟩:=lj hd;have hgG:=ho g (Zi hg);have hil:i < os.length:=(Zb.mp hg).1;rw[jF hg,rn,hi] at hr;refine⟨_,dg (by simp) (by simp),?_⟩;k_is;refine⟨rfl,qQ V (iq V hL) hgG.1 hgG.2 λS2 s2=>?_⟩;obtain⟨a,b,c,d,e,f,h,eg,e0,e1,e2,e3,e6,k0,k1,c0⟩:=gl7 V hgG.1 hgG.2;refine aa sk2 (aa (cJ hgG.1 eg) (aa (show ixS (aA [a,b,c,d,e,f,h]) (.int 6) S2=some (.int h,S2) from rfl) ?_));k_is;have hn2:=s2 _ _ hn;have stuck:rn K os K.ah [] = .inl i->∀S',Sm S S'->Q (.tup [.str "stuck", .int i]) S':=λe S' s=>q _ S' s (by unfold Res;rw[e]);cases hst:Sn.step K (aG K L) g i with
  |none=>
   rw[hst] at hr;refine aa (show aj .is (ip none) .non S2=some (.bl true,S2) from rfl) ?_;k_is;exact stuck hr S2 (s1.trans s2)
  |some m=>
   rw[hst] at hr;refine aa (show aj .is (ip (some m)) .non S2=some (.bl false,S2) from rfl) ?_;rw[show ip (some m) = .int m from rfl];k_is;dsimp only at hr;have eh:ng K L g m=(decide (0 < h) && decide (h < qG K L g m)):=by unfold ng;rw[e6]
   rw[eh] at hr
   have fin:∀S3,Sm S S3->S3[Zj S]?=some (.lst (L.map ae))->rn K os K.ah []=rn K (os.drop (i+1)) (some (gi K.G g 0,m)) (L++[(g,m)])->Sm S (S3.set (Zj S) (.lst (L.map ae++[.tup [.int g,.int m]])))/\∃L' u v w x,[some (skE K),some (.tup (os.map D.int)),some (ahE (aG K (L++[(g,m)]))),some (.ref (Zj S)),some (.int (i:Int)),some (.int g),some (.int m),some (.int h)]=[some (skE K),some (.tup (os.map D.int)),some (ahE (aG K L')),some (.ref (Zj S)),u,v,w,x]/\(S3.set (Zj S) (.lst (L.map ae++[.tup [.int g,.int m]])))[Zj S]?=some (.lst (L'.map ae))/\L'.length=i+1/\InG K L'/\rn K os K.ah []=rn K (os.drop (i+1)) (aG K L') L':=λS3 s3 h3 hr=>by
    have lt3:Zj S < S3.length:=(Zb.mp h3).1;refine⟨Sm.setNew s3 (Zd _),L++[(g,m)],_,_,_,_,rfl,by rw[dh lt3,ZD];rfl,by rw[Zg,Zm];lia,λz hz=>?_,by rw[cK];exact hr⟩;rcases ZO.mp hz with hz |hz
    ·exact hL z hz
    ·rw[Zy.mp hz];exact hgG
   refine cz (λc1=>?_) λc1=>?_
   ·rw[c1,XB] at hr;k_is;refine⟨rfl,AL (k:=k) V hn2 hL (by lia) hgG.1 hgG.2 λS3 s3=>?_⟩;k_is;cases c2:decide (h < qG K L g m) with
    |true=>
     rw[c2,if_pos rfl] at hr;k_is;exact stuck hr S3 ((s1.trans s2).trans s3)
    |false=>
     rw[c2,if_neg Ze] at hr;k_is;refine lm V (s3 _ _ hn2) (by lia) hgG.1 hgG.2 ?_;exact fin S3 ((s1.trans s2).trans s3) (s3 _ _ hn2) hr
   ·rw[c1,Y7,if_neg Ze] at hr;k_is;refine lm V hn2 (by lia) hgG.1 hgG.2 ?_;exact fin S2 (s1.trans s2) hn2 hr
 ·subst er;k_is;rw[Za,YE,rn] at hr;exact q _ S1 s1 (by unfold Res;rw[hr];exact⟨_,rfl,hn,Zd _⟩)
theorem Gg{ds:List D}(i:Nat)(d:D)(h:ds[i]?=some d):(λi=>(ds[i]?).getD .non) i=d:=by
 show(ds[i]?).getD .non=d;rw[h];rfl
theorem gR{i:Int}(h0:0<=i)(h1:i < 1000):lim i=true:=by simp only[lim,bAE,decide_eq_true_eq];lia
theorem K5{n:Nat}{lo:Int}{tg:Tg}{c:XA}{ρ:Rho}{Q:List D->Sto->Prop}(f:Nat->D)(hl:n<=1000)(step:∀ (i:Nat),i < n->∃ρ1,au tg (.int (lo+i)) ρ=some ρ1/\Ok (c ρ1 S) λes S1=>es=[f i]/\S1=S)(q:Q ((Zl n).map f) S) :
  Ok (bg (nxR lo n) tg c ρ LF 0 S) λes S2=>es.length<=100000/\Q es S2:=by
 refine sR (by lia) (λi acc S'=>S'=S/\acc=(Zl i).map f) (λi acc S' hi ⟨e,ea⟩=>?_) (λes S' ⟨e,ea⟩=>?_) ⟨rfl,rfl⟩
 ·subst e;obtain⟨ρ1,e2,es,S1,e3,e4,e5⟩:=step i hi;exact⟨ρ1,e2,es,S1,e3,e5,by rw[ea,e4,Xl,ZD];rfl⟩
 ·subst e ea;exact⟨by rw[Za,ZC];lia,q⟩
abbrev mid(M:List (List Int))(n c a:Nat):List (List Int):=(Zl n).map λi=>if i < a then Dw.aQ M n c i else (M[i]?).getD []
theorem ir{M:List (List Int)}{n c a i:Nat}(hi:i < n):(mid M n c a)[i]?=some (if i < a then Dw.aQ M n c i else (M[i]?).getD []):=by
 unfold mid;rw[Zs,Yr hi];rfl
theorem AO{M:List (List Int)}{n c:Nat}(h:Dw.Mat n M):mid M n c 0=M:=by
 apply YI;intro i;by_cases hi:i < n
 ·rw[ir hi,if_neg (by lia)];have:i < M.length:=by rw[h.len];exact hi
  rw[gEG this];rfl
 ·rw[Zv (by unfold mid;rw[Za,ZC];lia),Zv (by rw[h.len];lia)]
theorem EV{M:List (List Int)}{n c:Nat}:mid M n c n=(Zl n).map (Dw.aQ M n c):=by
 unfold mid;refine Y1 λi hi=>?_;rw[if_pos (ZV.mp hi)]
theorem EW{M:List (List Int)}{n c a:Nat}(ha:a < n):(mid M n c a).set a (Dw.aQ M n c a)=mid M n c (a+1):=by
 apply YI;intro i;by_cases hi:i < n
 ·rw[ir hi];by_cases hia:i=a
  ·subst hia;rw[ZS (by unfold mid;rw[Za,ZC];lia),if_pos (by lia)]
  ·rw[Zp (Ne.symm hia),ir hi];by_cases h:i < a
   ·rw[if_pos h,if_pos (by lia)]
   ·rw[if_neg h,if_neg (by lia)]
 ·rw[Zv (by rw[ZX];unfold mid;rw[Za,ZC];lia),Zv (by unfold mid;rw[Za,ZC];lia)]
theorem Oh{M:List (List Int)}{n c a b:Nat}(h:Dw.Mat n M)(hc:c < n)(hb:b < n):Dw.mg2 (mid M n c a) c b=Dw.mg2 M c b:=by
 unfold Dw.mg2;rw[ir hc];split
 ·rw[ZY,Dw.pL M hb];obtain⟨_,_,_,_,p1,_⟩:=h.at hc hc;show(if Dw.mg2 M c c+Dw.mg2 M c b < Dw.mg2 M c b then Dw.mg2 M c c+Dw.mg2 M c b else Dw.mg2 M c b)=_;rw[if_neg (by lia)];rfl
 ·rfl
theorem Oi{M:List (List Int)}{n c a b:Nat}(ha:a < n):Dw.mg2 (mid M n c a) a b=Dw.mg2 M a b:=by
 unfold Dw.mg2;rw[ir ha,if_neg (ZM _)];rfl
theorem RowsS.at{rs:List D}{M:List (List Int)}(h:RowsS p S rs M){n:Nat}{L:Nat}(hL:S[L]?=some (.lst rs)){i j:Int}(i0:0<=i)(j0:0<=j)(hm:∃r x,M[i.toNat]?=some r/\r[j.toNat]?=some x/\x=Dw.mg2 M i.toNat j.toNat) :
  ∃a,ixS (.ref L) (.int i) S=some (.ref a,S)/\ixS (.ref a) (.int j) S=some (.int (Dw.mg2 M i.toNat j.toNat),S):=by
 obtain⟨r,x,hr,hx,ex⟩:=hm;obtain⟨a,ea,na,za⟩:=h.row _ r hr;exact⟨a,gQ hL i0 ea,gQ za j0 (by rw[Zs,hx,ex];rfl)⟩
theorem td{M:List (List Int)}{n i j:Nat}(hl:M.length=n)(hr:∀r ∈ M,r.length=n)(hi:i < n)(hj:j < n):∃r x,M[i]?=some r/\r[j]?=some x/\x=Dw.mg2 M i j:=by
 have hi':i < M.length:=by lia
 have hj':j < M[i].length:=by rw[hr _ (ZQ hi')];exact hj
 refine⟨M[i],M[i][j],gEG hi',gEG hj',?_⟩;unfold Dw.mg2;rw[gEG hi',ZY,gEG hj'];rfl
theorem AQ{M:List (List Int)}{n c a:Nat}(h:Dw.Mat n M):∀r ∈ mid M n c a,r.length=n:=λr hr=>by
 unfold mid at hr;obtain⟨i,hi,rfl⟩:=ZL.mp hr;have hi:=ZV.mp hi;split
 ·exact Dw.pK M n c i
 ·have:i < M.length:=by rw[h.len];exact hi
  rw[gEG this];exact h.row _ (ZQ this)
theorem EX{M:List (List Int)}{n c a:Nat}:(mid M n c a).length=n:=by unfold mid;rw[Za,ZC]
theorem RowsS.set{rs:List D}{M:List (List Int)}{L i a:Nat}{r:List Int}(h:RowsS p S rs M)(hL:S[L]?=some (.lst rs))(hi:i < M.length)(na:a ≠ p)(za:S[a]?=some (.lst (r.map D.int)))(nL:a ≠ L)(hz:∀ (i:Nat) r b,M[i]?=some r->rs[i]?=some (D.ref b)->b ≠ L):RowsS p (S.set L (.lst (rs.set i (.ref a)))) (rs.set i (.ref a)) (M.set i r):=by
 refine⟨by rw[ZX,ZX];exact h.len,λj r' hr=>?_⟩;by_cases hj:j=i
 ·subst hj;rw[ZS hi] at hr;cases hr;exact⟨a,by rw[ZS (by rw[h.len];exact hi)],na,by rw[Zp (Ne.symm nL)];exact za⟩
 ·rw[Zp (Ne.symm hj)] at hr;obtain⟨b,eb,nb,zb⟩:=h.row j r' hr;have:=hz j r' b hr eb;exact⟨b,by rw[Zp (Ne.symm hj)];exact eb,nb,by rw[Zp (Ne.symm this)];exact zb⟩
theorem EY{rs:List D}{M:List (List Int)}{L n:Nat}(h:RowsS p S rs M)(hL:S[L]?=some (.lst rs))(hr:∀r ∈ M,0 < r.length):∀ (i:Nat) r b,M[i]?=some r->rs[i]?=some (D.ref b)->b ≠ L:=λi r b e1 e2 e3=>by
 obtain⟨b',e4,_,z⟩:=h.row i r e1;rw[e2] at e4;cases e4;rw[e3,hL] at z;cases z;rw[Zs] at e2;cases hx:r[i]? with
 |none=>rw[hx] at e2;cases e2
 |some x=>rw[hx] at e2;cases e2
end Lw
namespace Lw
open PySem Ev Sn L2
variable {p:Nat} {S:Sto} {k:Nat} {Q:D->Sto->Prop} {K:Sky}
theorem Kp.len{p:Nat}{S S':Sto}(h:Ev.Kp p S S')(hp:p < S'.length):S.length<=S'.length:=by
 by_cases hz:S.length<=S'.length
 ·exact hz
 ·exfalso;have hlt:S'.length < S.length:=by lia
  have:=h S'.length S[S'.length] (by lia) (gEG hlt);rw[Zv (Zd _)] at this;cases this
theorem uO{n:Nat}{ds:List D}{i:Int}{v:D}(hn:S[n]?=some (.lst ds))(h0:0<=i)(h1:i.toNat < ds.length):iM (.ref n) (.int i) v S=some (S.set n (.lst (ds.set i.toNat v))):=by
 have hix:ixN ds.length i=some i.toNat:=by
  unfold ixN;rw[if_pos (by lia),if_pos (by lia)]
 simp only[iM,hn,hix,ZA]
theorem AR{n L:Nat}{es:List D}{M:List (List Int)}{u v w x:Option D}{pt:D}(hL:S[L]?=some (.lst es))(hr:RowsS p S es M)(hm:Dw.Mat n M)(hn:n<=4)(q:∀S',Sm S S'->Q (.tup (M.map aA)) S') :
  rW (wSs (evC ac (k+1)) (eS ac) 57 (dS.drop 3)) [some pt,u,v,some (.ref L),w,x] S (out Q):=by
 dsimp only[dS,Yj];k_is;refine⟨by rw[aM hL];rfl,?_⟩;have le:es.length=n:=by rw[hr.len,hm.len]
 refine oI n (λi=>(es[i]?).getD .non) (λi acc S'=>S'=S/\acc=(M.take i).map aA) (λi acc S' hi ⟨e,_⟩=>by subst e;rw[<-le];exact z6 hL _ Gg) (by lia) (λi acc S2 hi ⟨e2,ea⟩=>?_) (λes' S2 ⟨e2,ea⟩=>⟨by rw[ea,Za,Ys];lia,?_⟩) ⟨rfl,rfl⟩
 ·subst e2;have li:i < M.length:=by rw[hm.len];exact hi
  obtain⟨a,eb,na,za⟩:=hr.row i M[i] (gEG li);simp only[eb,ZY];refine⟨_,rfl,?_⟩;k_is;refine aa (show ai cX (.ref a) S2=some (.tup (M[i].map D.int),S2) by simp only[ai,ay,aM za,ZA,cX]) ?_;refine⟨rfl,?_⟩;rw[ea,ZT li,ZD];rfl
 ·subst e2;rw[Z6 (by rw[hm.len];exact Zd _)] at ea;subst ea;refine aa (show cX false (M.map aA) S2=some (.tup (M.map aA),S2) from rfl) ?_;k_is;exact q S2 (Sm.refl _)
theorem AS(h:Pot p S)(q:∀n M S',Dr p S S'->Dw.Mat n M->1<=n->n<=4->Dw.pJ n n M->Q (.tup (M.map aA)) S'):Ok (evC ac (k+2) 43 [.ref p] S) Q:=by
 refine ax (d:=gK) (ρ:=[some (.ref p),none,none,none,none,none]) rfl rfl ?_;dsimp only[gK,dS];k_is;refine⟨rfl,aJ h (by decide) (by decide) λr0 S0 r1 r2 d0=>?_⟩;k_is;refine⟨rfl,aJ d0.pot (by decide) (by decide) λf0 S1 f1 f2 d01=>?_⟩;k_is;have d1:=d0.trans d01;obtain⟨n,rfl⟩:∃n:Nat,r0=(n:Int):=⟨r0.toNat,by lia⟩
 obtain⟨far,at1,hf⟩:∃e:Int,atI [D.int 3,D.int 12,D.int 40] f0=some (D.int e)/\0 < e/\e<=40:=by
  have:f0=0\/f0=1\/f0=2:=by lia
  rcases this with rfl |rfl |rfl
  ·exact⟨3,rfl,by decide,by decide⟩
  ·exact⟨12,rfl,by decide,by decide⟩
  ·exact⟨40,rfl,by decide,by decide⟩
 refine⟨_,at1,?_⟩;k_is;have e1:((1:Int)+n).toNat=n+1:=by lia
 have l1:lim (1+(n:Int))=true:=gR (by lia) (by lia);refine⟨l1,?_⟩;rw[e1];refine sR (by lia) (λi acc S'=>Dr p S1 S'/\∃M:List (List Int),M.length=i/\RowsS p S' acc M/\∀r ∈ M,r.length=n+1/\∀x ∈ r,1<=x/\x<=99) (λi acc S2 hi ⟨d2,M,lM,rM,bM⟩=>⟨_,rfl,?_⟩) (λes S2 ⟨d2,M,lM,rM,bM⟩=>⟨by rw[rM.len];lia,?_⟩) ⟨Dr.refl d1.pot,[],rfl,RowsS.nil,λr hr=>by simp at hr⟩
 ·k_is;refine⟨l1,?_⟩;rw[e1];refine sR (by lia) (λj acc S'=>Dr p S2 S'/\∃r:List Int,acc=r.map D.int/\r.length=j/\∀x ∈ r,1<=x/\x<=99) (λj acc S3 hj ⟨d3,r,ea,lr,br⟩=>⟨_,rfl,?_⟩) (λes S3 ⟨d3,r,ea,lr,br⟩=>⟨by rw[ea,Za];lia,?_⟩) ⟨Dr.refl d2.pot,[],rfl,rfl,λx hx=>by simp at hx⟩
  ·k_is;refine⟨rfl,aJ d3.pot hf.1 (by lia) λx S4 x1 x2 d4=>?_⟩;k_is;refine⟨d3.trans d4,r++[1+x],by rw[ea,ZD];rfl,by simp[lr],λy hy=>?_⟩;rcases ZO.mp hy with hy |hy
   ·exact br y hy
   ·simp at hy;lia
  ·subst ea;k_is;have lt:=d3.pot.lt;refine⟨(d2.trans d3).thenSm (Sm.app _ _),M++[r],by simp[lM],((rM.keep d3.kp).keep (Sm.app _ _).kp).snoc (by lia) aI,λr' hr'=>?_⟩;rcases ZO.mp hr' with hr' |hr'
   ·exact bM r' hr'
   ·simp at hr';subst hr';exact⟨lr,br⟩
 ·have lt2:=d2.pot.lt;have d3:Dr p S (S2++[Ob.lst es]):=(d1.trans d2).thenSm (Sm.app _ _);have r3:RowsS p (S2++[Ob.lst es]) es M:=rM.keep (Sm.app _ _).kp;have a3:(S2++[Ob.lst es])[S2.length]?=some (Ob.lst es):=aI;have m3:Dw.Mat (n+1) M:=⟨lM,λr hr=>(bM r hr).1,λr hr=>(bM r hr).2⟩;have lS:S.length<=S2.length:=Kp.len (d1.trans d2).kp lt2;have ne3:S2.length ≠ p:=by lia
  revert a3 r3 d3;generalize S2++[Ob.lst es]=S3;generalize S2.length=L at *;intro d3 r3 a3;k_is;refine⟨l1,?_⟩;rw[e1];refine jl (by lia) (λc ρ S'=>Dr p S S'/\∃es M u v,ρ=[some (.ref p),some (.int (1+(n:Int))),some (.int far),some (.ref L),u,v]/\S'[L]?=some (.lst es)/\RowsS p S' es M/\Dw.Mat (n+1) M/\Dw.pJ (n+1) c M) (λc ρ S4 hc ⟨d4,es,M,u,v,er,hL,hr,hm,tr⟩=>?_) (λρ S4 ⟨d4,es,M,u,v,er,hL,hr,hm,tr⟩=>?_) ⟨d3,es,M,none,none,rfl,a3,r3,m3,λ_ _ _ _ _ h=>absurd h (X6 _)⟩
  ·subst er;refine⟨_,rfl,?_⟩;k_is;refine⟨l1,?_⟩;rw[e1];refine jl (by lia) (λa ρ S'=>Dr p S S'/\∃es v,ρ=[some (.ref p),some (.int (1+(n:Int))),some (.int far),some (.ref L),some (.int (0+(c:Int))),v]/\S'[L]?=some (.lst es)/\RowsS p S' es (mid M (n+1) c a)) (λa ρ S5 ha ⟨d5,es,v,er,hL,hr⟩=>?_) (λρ S5 ⟨d5,es,v,er,hL,hr⟩=>?_) ⟨d4,es,v,rfl,hL,by rw[AO hm];exact hr⟩
   ·subst er;refine⟨_,rfl,?_⟩;k_is;refine⟨l1,?_⟩;rw[e1];have ml:=@EX M (n+1) c a;have mr:=AQ (c:=c) (a:=a) hm;have z0:∀x:Nat,((0:Int)+x).toNat=x:=λx=>by lia
    refine K5 (λb=>.int (if Dw.mg2 M a c+Dw.mg2 M c b < Dw.mg2 M a b then Dw.mg2 M a c+Dw.mg2 M c b else Dw.mg2 M a b)) (by lia) (λb hb=>⟨_,rfl,?_⟩) ?_
    ·k_is;obtain⟨x1,i1,j1⟩:=RowsS.at (n:=0) hr hL (i:=0+(a:Int)) (j:=0+(b:Int)) (by lia) (by lia) (by rw[z0,z0];exact td ml mr ha hb);obtain⟨x2,i2,j2⟩:=RowsS.at (n:=0) hr hL (i:=0+(a:Int)) (j:=0+(c:Int)) (by lia) (by lia) (by rw[z0,z0];exact td ml mr ha hc);obtain⟨x3,i3,j3⟩:=RowsS.at (n:=0) hr hL (i:=0+(c:Int)) (j:=0+(b:Int)) (by lia) (by lia) (by rw[z0,z0];exact td ml mr hc hb);rw[z0,z0,Oi ha] at j1 j2;rw[z0,z0,Oh hm hc hb] at j3;refine aa i1 (aa j1 (aa i2 (aa j2 (aa i3 (aa j3 ?_)))));k_is;exact⟨rfl,rfl⟩
    ·have ef:((Zl (n+1)).map λb=>D.int (if Dw.mg2 M a c+Dw.mg2 M c b < Dw.mg2 M a b then Dw.mg2 M a c+Dw.mg2 M c b else Dw.mg2 M a b))=(Dw.aQ M (n+1) c a).map D.int:=by unfold Dw.aQ;rw[Z7];rfl
     rw[ef];k_is;have lt5:=d5.pot.lt;have hL':=Sm.app S5 [Ob.lst ((Dw.aQ M (n+1) c a).map D.int)] _ _ hL;have lL:L < S5.length:=(Zb.mp hL).1;have le:es.length=n+1:=by rw[hr.len,ml]
     refine⟨_,uO hL' (by lia) (by lia),?_⟩;k_is;rw[z0];have hr':RowsS p (S5++[Ob.lst ((Dw.aQ M (n+1) c a).map D.int)]) es (mid M (n+1) c a):=hr.keep (Sm.app _ _).kp;have hr2:=RowsS.set (i:=a) (a:=S5.length) (r:=Dw.aQ M (n+1) c a) hr' hL' (by lia) (by lia) aI (by lia) (EY (n:=0) hr' hL' λr hh=>by rw[mr r hh];lia);rw[EW ha] at hr2;have kA:Ev.Kp p S ((S5++[Ob.lst ((Dw.aQ M (n+1) c a).map D.int)]).set L (.lst (es.set a (.ref S5.length)))):=(d5.kp.trans (Sm.app _ _).kp).setNew lS;refine⟨⟨kA,((Dr.sm d5.pot (Sm.app _ _)).pot).setNe ne3⟩,_,_,rfl,?_,hr2⟩;rw[dh (by rw[Zg];lia)]
   ·subst er;k_is;rw[EV] at hr;exact⟨d5,es,_,_,_,rfl,hL,hr,Dw.yj hm hc,Dw.yi hm hc tr (Dw.Cd hm hc)⟩
  ·subst er;have tail:=AR (k:=k) (p:=p) (Q:=Q) (pt:=.ref p) (u:=some (.int (1+(n:Int)))) (v:=some (.int far)) (w:=u) (x:=v) hL hr hm (by lia) λS' sm=>q (n+1) M S' (d4.thenSm sm) hm (by lia) (by lia) tr;dsimp only[dS,Yj] at tail;exact tail
theorem qS:∀ {H:List (Int × Int)} {lo x y:Int},Ris lo H->lo < x->(∀q ∈ H,q.2 < x)->x < y->Ris lo (H++[(x,y)])
 |[],lo,x,y,_,h1,_,h3=>⟨h1,h3,trivial⟩
 |q::H,lo,x,y,h,h1,h2,h3=>by
  rw[Ris] at h;exact⟨h.1,h.2.1,qS h.2.2 (h2 q Zh) (λr hr=>h2 r (Zf _ hr)) h3⟩
theorem jH:∀ {H:List (Int × Int)} {lo:Int} {q:Int × Int},Ris lo H->q ∈ H->lo < q.1/\q.1 < q.2
 |q'::H,lo,q,h,hq=>by
  rw[Ris] at h;rcases Zn.mp hq with rfl |hq
  ·exact⟨h.1,h.2.1⟩
  ·have:=jH h.2.2 hq
   lia
theorem qT:∀ {H:List (Int × Int)} {lo:Int},Ris lo H->∀ (i:Nat) q q',H[i]?=some q->H[i+1]?=some q'->q.2 < q'.1
 |q0::H,lo,h,0,q,q',e1,e2=>by
  rw[Ris] at h;cases e1;rw[Yw] at e2;exact(jH h.2.2 (Zi e2)).1
 |q0::H,lo,h,i+1,q,q',e1,e2=>by
  rw[Ris] at h;rw[Yw] at e1 e2;exact qT h.2.2 i q q' e1 e2
structure MeOk(r s:Int)(M:List (List Int))(H:List (Int × Int)):Prop where
 r0:0<=r
 r8:r<=8
 s0:0<=s
 s60:s<=60
 mat:Dw.Mat M.length M
 m1:1<=M.length
 m4:M.length<=4
 tri:Dw.pJ M.length M.length M
 ris:Ris (-1) H
 h4:H.length<=4
 hb:∀q ∈ H,q.2<=9999
theorem tf(h:Pot p S)(q:∀r s M H S',Dr p S S'->MeOk r s M H->Q (.tup [.int r,.int s,.tup (M.map aA),.tup (H.map ae)]) S'):Ok (evC ac (k+3) 44 [.ref p] S) Q:=by
 refine ax (d:=eA) (ρ:=[some (.ref p),none,none,none,none]) rfl rfl ?_;dsimp only[eA,ij];have lt:=h.lt;k_is;have d0:Dr p S (S++[Ob.lst []]):=Dr.sm h (Sm.app _ _);have a0:(S++[Ob.lst []])[Zj S]?=some (Ob.lst (([]:List (Int × Int)).map ae)):=aI;have nN:Zj S ≠ p:=by lia
 generalize S++[Ob.lst []]=S0 at *;refine⟨rfl,aJ d0.pot (by decide) (by decide) λi0 S1 i1 i2 d1=>?_⟩;k_is
 obtain⟨fr,at1,hf⟩:∃e:Int,atI [D.int 1,D.int 5] i0=some (D.int e)/\0 < e/\e<=5:=by
  have:i0=0\/i0=1:=by lia
  rcases this with rfl |rfl
  ·exact⟨1,rfl,by decide,by decide⟩
  ·exact⟨5,rfl,by decide,by decide⟩
 refine⟨_,at1,?_⟩;refine⟨rfl,aJ d1.pot hf.1 (by lia) λn0 S2 n1 n2 d2=>?_⟩;k_is;obtain⟨n,rfl⟩:∃n:Nat,n0=(n:Int):=⟨n0.toNat,by lia⟩;refine⟨gR (by lia) (by lia),?_⟩;rw[ZJ];have d02:=(d0.trans d1).trans d2;have a2:=(d1.trans d2).kp _ _ nN a0;refine jl (by lia) (λi ρ S'=>Dr p S S'/\∃ (H:List (Int × Int)) (b:Int) (u v:Option D),ρ=[some (.ref p),some (.ref (Zj S)),some (.int b),u,v]/\S'[Zj S]?=some (.lst (H.map ae))/\H.length=i/\Ris (-1) H/\(∀q ∈ H,q.2 < b)/\0<=b/\b<=60 * i) (λi ρ S3 hi ⟨d3,H,b,u,v,er,hn,hl,hr,hm,b0,b1⟩=>?_) (λρ S3 ⟨d3,H,b,u,v,er,hn,hl,hr,hm,b0,b1⟩=>?_) ⟨d02,[],0,none,none,rfl,a2,rfl,trivial,λq hq=>by simp at hq,by decide,by decide⟩
 ·subst er;refine⟨_,rfl,?_⟩;k_is;refine⟨rfl,aJ d3.pot (by decide) (by decide) λx S4 x1 x2 d4=>?_⟩;k_is;have hn4:=d4.kp _ _ nN hn;refine⟨cg hn4,?_⟩;refine⟨rfl,aJ d4.pot (by decide) (by decide) λy S5 y1 y2 d5=>?_⟩;k_is;have hn5:=d5.kp _ _ nN hn4;rw[iX hn5 (by rw[Za];lia)];k_is;have lt5:Zj S < S5.length:=(Zb.mp hn5).1;have f5:(S5.set (Zj S) (Ob.lst (H.map ae++[D.tup [D.int (b+x),D.int (b+x+1+y)]])))[Zj S]?=some (Ob.lst (H.map ae++[D.tup [D.int (b+x),D.int (b+x+1+y)]])):=dh lt5;refine aa (jE f5) (aa (show ixS (D.tup [D.int (b+x),D.int (b+x+1+y)]) (.int 1) (S5.set (Zj S) (Ob.lst (H.map ae++[D.tup [D.int (b+x),D.int (b+x+1+y)]])))=some (.int (b+x+1+y),_) from rfl) ?_);k_is;refine⟨⟨((d3.kp.trans d4.kp).trans d5.kp).setNew (Zd _),d5.pot.setNe nN⟩,H++[(b+x,b+x+1+y)],_,_,_,rfl,by rw[f5,ZD];rfl,by rw[Zg,Zm];lia,qS hr (by lia) (λq hq=>by have:=hm q hq;lia) (by lia),λq hq=>?_,by lia,by lia⟩;rcases ZO.mp hq with hq |hq
  ·have:=hm q hq;lia
  ·rw[Zy.mp hq];show b+x+1+y < b+x+1+y+1;lia
 ·subst er;k_is;refine⟨rfl,aJ d3.pot (by decide) (by decide) λi3 S4 j3 k3 d4=>?_⟩;k_is
  obtain⟨r,at3,h3⟩:∃e:Int,atI [D.int 8,D.int 1,D.int 2,D.int 3,D.int 0] i3=some (D.int e)/\0<=e/\e<=8:=by
   have:i3=0\/i3=1\/i3=2\/i3=3\/i3=4:=by lia
   rcases this with rfl |rfl |rfl |rfl |rfl
   ·exact⟨8,rfl,by decide,by decide⟩
   ·exact⟨1,rfl,by decide,by decide⟩
   ·exact⟨2,rfl,by decide,by decide⟩
   ·exact⟨3,rfl,by decide,by decide⟩
   ·exact⟨0,rfl,by decide,by decide⟩
  refine⟨_,at3,?_⟩;refine⟨rfl,aJ d4.pot (by decide) (by decide) λi5 S5 j5 k5 d5=>?_⟩;k_is
  obtain⟨s,at5,h5⟩:∃e:Int,atI [D.int 0,D.int 2,D.int 9,D.int 60] i5=some (D.int e)/\0<=e/\e<=60:=by
   have:i5=0\/i5=1\/i5=2\/i5=3:=by lia
   rcases this with rfl |rfl |rfl |rfl
   ·exact⟨0,rfl,by decide,by decide⟩
   ·exact⟨2,rfl,by decide,by decide⟩
   ·exact⟨9,rfl,by decide,by decide⟩
   ·exact⟨60,rfl,by decide,by decide⟩
  refine⟨_,at5,?_⟩;refine⟨rfl,AS d5.pot λm M S6 d6 hM m1 m4 tr=>?_⟩;have hn6:=((d4.trans d5).trans d6).kp _ _ nN hn;refine aa (show ai cX (.ref (Zj S)) S6=some (.tup (H.map ae),S6) by simp only[ai,ay,aM hn6,ZA,cX]) ?_;k_is;obtain rfl:=hM.len;exact q r s M H S6 (d3.trans ((d4.trans d5).trans d6)) ⟨h3.1,h3.2,h5.1,h5.2,hM,m1,m4,tr,hr,by lia,λq hq=>by have:=hm q hq;lia⟩
end Lw
namespace Lw
open PySem Ev Sn L2
variable {p:Nat} {S S':Sto} {k:Nat} {Q:D->Sto->Prop} {K:Sky}
structure Gs(p N hi:Nat)(S:Sto)(es:List D)(G:List (List Int)):Prop where
 pN:p < N
 at_:S[N]?=some (.lst es)
 len:es.length=G.length
 row:∀ (i:Nat) g,G[i]?=some g->∃a,es[i]?=some (D.ref a)/\N < a/\a < hi/\S[a]?=some (.lst (g.map D.int))
 inj:∀ (i j a:Nat),es[i]?=some (D.ref a)->es[j]?=some (D.ref a)->i=j
section
variable {N hi hi':Nat} {es:List D} {G:List (List Int)}
theorem Gs.keep(h:Gs p N hi S es G)(kp:Ev.Kp p S S'):Gs p N hi S' es G:=by
 have pN:=h.pN;refine⟨h.pN,kp _ _ (by lia) h.at_,h.len,λi g hg=>?_,h.inj⟩;obtain⟨a,e,n1,n2,z⟩:=h.row i g hg;exact⟨a,e,n1,n2,kp _ _ (by lia) z⟩
theorem Gs.up(h:Gs p N hi S es G)(hh:hi<=hi'):Gs p N hi' S es G:=by
 refine⟨h.pN,h.at_,h.len,λi g hg=>?_,h.inj⟩;obtain⟨a,e,n1,n2,z⟩:=h.row i g hg;exact⟨a,e,n1,by lia,z⟩
theorem Gs.other(h:Gs p N hi S es G){f:Nat}{o:Ob}(hf:hi<=f)(hN:N < hi):Gs p N hi (S.set f o) es G:=by
 refine⟨h.pN,by rw[Zp (by lia)];exact h.at_,h.len,λi g hg=>?_,h.inj⟩;obtain⟨a,e,n1,n2,z⟩:=h.row i g hg;exact⟨a,e,n1,n2,by rw[Zp (by lia)];exact z⟩
theorem Gs.snoc(h:Gs p N S.length S es G){g:List Int}:Gs p N (S.length+1) ((S++[Ob.lst (g.map D.int)]).set N (.lst (es++[D.ref S.length]))) (es++[D.ref S.length]) (G++[g]):=by
 have lN:N < S.length:=(Zb.mp h.at_).1
 have old:∀ (i a:Nat),es[i]?=some (D.ref a)->a < S.length:=λi a e=>by
  have hi:i < G.length:=by rw[<-h.len];exact(Zb.mp e).1
  obtain⟨b,e2,n1,n2,_⟩:=h.row i G[i] (gEG hi);rw[e] at e2;cases e2;exact n2
 refine⟨h.pN,by rw[dh (by rw[Zg];lia)],by rw[Zg,Zg,h.len];rfl,λi g' hg=>?_,λi j a e1 e2=>?_⟩
 ·by_cases hi:i < G.length
  ·rw[Zt hi] at hg;obtain⟨a,e,n1,n2,z⟩:=h.row i g' hg;exact⟨a,by rw[Zt (by rw[h.len];exact hi)];exact e,n1,by lia,by rw[Zp (by lia),Zt n2];exact z⟩
  ·have hl:=(Zb.mp hg).1;rw[Zg,Zm] at hl;obtain rfl:i=G.length:=by lia
   rw[Zo (Zd _),ZZ] at hg;cases hg;exact⟨S.length,by rw[Zo (by rw[h.len];lia),h.len,ZZ];rfl,lN,by lia,by rw[Zp (by lia),aI]⟩
 ·have key:∀ (i:Nat),(es++[D.ref S.length])[i]?=some (D.ref a)->(i < es.length/\es[i]?=some (D.ref a))\/(i=es.length/\a=S.length):=λi e=>by
   by_cases hi:i < es.length
   ·rw[Zt hi] at e;exact .inl ⟨hi,e⟩
   ·have hl:=(Zb.mp e).1;rw[Zg,Zm] at hl;obtain rfl:i=es.length:=by lia
    rw[Zo (Zd _),ZZ] at e;cases e;exact .inr ⟨rfl,rfl⟩
  rcases key i e1 with ⟨h1,z1⟩ |⟨h1,z1⟩ <;> rcases key j e2 with ⟨h2,z2⟩ |⟨h2,z2⟩
  ·exact h.inj i j a z1 z2
  ·have:=old i a z1;lia
  ·have:=old j a z2;lia
  ·lia
theorem Gs.setRow(h:Gs p N hi S es G){i a:Nat}{g:List Int}(hi':i < G.length)(ea:es[i]?=some (D.ref a)):Gs p N hi (S.set a (.lst (g.map D.int))) es (G.set i g):=by
 obtain⟨b,eb,n1,n2,zb⟩:=h.row i G[i] (gEG hi');rw[ea] at eb;cases eb;have la:=(Zb.mp zb).1;refine⟨h.pN,by rw[Zp (by lia)];exact h.at_,by rw[ZX];exact h.len,λj g' hg=>?_,h.inj⟩;by_cases hj:j=i
 ·subst hj;rw[ZS hi'] at hg;cases hg;exact⟨a,ea,n1,n2,dh la⟩
 ·rw[Zp (Ne.symm hj)] at hg;obtain⟨c,ec,m1,m2,zc⟩:=h.row j g' hg;have:c ≠ a:=λz=>hj (by rw[z] at ec;exact h.inj j i a ec ea);exact⟨c,ec,m1,m2,by rw[Zp (Ne.symm this)];exact zc⟩
end
def GX(x:Int)(n:Nat)(r s:Int)(g:List Int):Prop:=∃kd jo fi la du we ri:Int,g=[kd,jo,fi,la,du,we,ri]/\0<=kd/\kd < n/\0<=jo/\jo+s<=fi/\fi<=la/\la<=x/\0<=du/\du<=x/\0<=we/\we<=99/\0<=ri/\ri<=r
theorem GX.up{x y:Int}{n:Nat}{r s:Int}{g:List Int}(h:GX x n r s g)(hx:x<=y):GX y n r s g:=by
 obtain⟨kd,jo,fi,la,du,we,ri,e,z⟩:=h;exact⟨kd,jo,fi,la,du,we,ri,e,by omega⟩
def GB(n:Nat)(r s:Int)(g:List Int):Prop:=GX 530 n r s g
structure SkOk(K:Sky):Prop where
 me:MeOk K.r K.s K.M K.H
 g7:K.G.length<=7
 gb:∀g ∈ K.G,GX 9999 K.M.length K.r K.s g
 nd:K.F.Nodup
 bd:∀x ∈ K.F,0<=x/\x < K.G.length
 rg:∀ (j:Nat) g,K.G[j]?=some g->g.getD 6 0=0\/(j:Int) ∈ K.F
 ah:∀q,K.ah=some q->0<=q.1/\q.1 < K.M.length/\0<=q.2/\q.2<=9999
theorem SkOk.vd(h:SkOk K):Vd K:=by
 refine⟨h.me.r0,h.me.r8,h.me.s0,h.me.s60,h.me.m1,h.me.m4,h.me.mat.row,h.me.ris,h.me.h4,λq e=>⟨(h.ah q e).1,(h.ah q e).2.1⟩,h.g7,λg hg=>?_⟩;obtain⟨kd,jo,fi,la,du,we,ri,rfl,h1,h2,h3,h4,_⟩:=h.gb g hg;have:=h.me.s0;refine⟨rfl,h1,h2,?_⟩;show 0<=fi
 lia
theorem bA{α:Type}{l:List α}{E:α->D}{S:Sto}:ai cD (.tup (l.map E)) S=some (.int l.length,S):=by simp only[ai,ay,cD,Za]
theorem tj{α:Type}{l:List α}:l.all (λ_=>true)=true:=Yi.mpr λ_ _=>rfl
theorem tv{α:Type}{nx:Nxt}{tg:Tg}{c:XA}{ρ:Rho}(l:List α)(E:α->D)(hl:l.length<=1000)(hnx:∀i S',Sm S S'->nx i S'=some ((l[i]?).map E))
  (step:∀ (i:Nat) a S',l[i]?=some a->Sm S S'->∃ρ1,au tg (E a) ρ=some ρ1/\Ok (c ρ1 S') λes S1=>es=[.bl true]/\Sm S' S1) (q:∀S',Sm S S'->Q (.bl true) S') :
  Ok (bg nx tg c ρ LF 0 S) λes S2=>es.length<=100000/\Ok (jw false es S2) Q:=by
 refine bI l E (λ_=>[.bl true]) hl (λ_ _=>Zd _) hnx step λS' s'=>?_;rw[bL];refine aa (oE l (λ_=>true) S') ?_;rw[tj];exact q S' s'
theorem tw{i a b:Int}(h0:a<=i)(h1:i<=b)(q:Q (.bl true) S):Ok (evC ac (k+2) 1 [.int i,.int a,.int b] S) Q:=nc (p:=0) bu (by
 rw[show Dw.gu (.int i) a b=true by simp only[Dw.gu,decide_eq_true h0,decide_eq_true h1,XC]];exact q)
theorem EZ{i:Int}(h0:0<=i)(h1:i<=9999)(q:Q (.bl true) S):Ok (evC ac (k+3) 2 [.int i] S) Q:=wW (p:=0) bu (by
 rw[show Dw.gu (.int i) 0 9999=true by simp only[Dw.gu,decide_eq_true h0,decide_eq_true h1,XC]];exact q)
theorem l5{ts:List Dw.D}{ds:List D}{a b:Int}(h:TDs 0 S ts ds)(h0:a<=ts.length)(h1:(ts.length:Int)<=b)(q:Q (.bl true) S):Ok (evC ac (k+1) 3 [.tup ds,.int a,.int b] S) Q:=AB (bp h) (by
 rw[show Dw.isT (.tup ts) a b=true by simp only[Dw.isT,decide_eq_true h0,decide_eq_true h1,XC]];exact q)
theorem jI{M:List (List Int)}:(Dw.jr M).length=M.length:=by unfold Dw.jr;rw[Za]
theorem Oj{r:List Int}{n:Nat}(hl:r.length=n)(hn:n<=4)(hr:∀x ∈ r,1<=x/\x<=99)(q:∀S',Sm S S'->Q (.bl true) S'):Ok (evC ac (k+3) 8 [aA r,.int n] S) Q:=by
 refine ax (d:=dX) (ρ:=[some (aA r),some (.int n)]) rfl rfl ?_;dsimp only[dX,ia];rw[show aA r = .tup (r.map D.int) from rfl];k_is;refine⟨rfl,l5 (eG r) (by rw[Za];lia) (by rw[Za];lia) ?_⟩;k_is;refine tv r D.int (by lia) cp (λi x S' hx sm=>⟨_,rfl,?_⟩) q;k_is;have:=hr x (Zi hx);exact⟨rfl,tw this.1 this.2 ⟨rfl,Sm.refl _⟩⟩
theorem AU{es:List D}(h:∀e ∈ es,e = .bl true)(S:Sto):jw false es S=some (.bl true,S):=by
 have e:es.map (λ_=>D.bl true)=es:=by
  conv=>rhs;rw[<-List.map_id es]
  exact Y1 λx hx=>(h x hx).symm
 rw[<-e];exact(oE es (λ_=>true) S).trans (by rw[tj])
theorem Ol(sk:SkOk K)(q:∀S',Sm S S'->Q (.bl true) S'):Ok (evC ac (k+1) 9 [.tup (K.M.map aA)] S) Q:=by
 refine ax (d:=aZ) (ρ:=[some (.tup (K.M.map aA)),none]) rfl rfl ?_;dsimp only[aZ,bH];have V:=sk.vd;have m4:=sk.me.m4;k_is;refine aa bA ?_;refine⟨_,rfl,by lia,?_⟩;k_is;have hm:(S++[Ob.lst ((Zl K.M.length).map λj=>D.int (Int.ofNat j))])[S.length]?=some (.lst ((Zl K.M.length).map λj=>D.int (Int.ofNat j))):=aI;have sq:∀S',Sm (S++[Ob.lst ((Zl K.M.length).map λj=>D.int (Int.ofNat j))]) S'->(am S' S.length).isSome=true:=λS' sm=>by rw[aM (sm _ _ hm)];rfl
 refine⟨sq _ (Sm.refl _),?_⟩;refine(sQ hm (by lia) (λa=>(Zl K.M.length).flatMap λb=>(Zl K.M.length).flatMap λc=>[.bl true]) λa S1 ha sm1=>⟨_,rfl,?_⟩).mono λes S2 ⟨ee,sm⟩=>?_
 ·k_is;refine⟨sq _ sm1,?_⟩;refine sQ (sm1 _ _ hm) (by lia) _ λb S2 hb sm2=>⟨_,rfl,?_⟩;k_is;refine⟨sq _ (sm1.trans sm2),?_⟩;refine sQ (sm2 _ _ (sm1 _ _ hm)) (by lia) _ λc S3 hc sm3=>⟨_,rfl,?_⟩;k_is;obtain⟨r1,e1,e2⟩:=lh (S:=S3) V (a:=a) (b:=b) (by lia) (by lia) (by lia) (by lia);obtain⟨r2,e3,e4⟩:=lh (S:=S3) V (a:=a) (b:=c) (by lia) (by lia) (by lia) (by lia);obtain⟨r3,e5,e6⟩:=lh (S:=S3) V (a:=c) (b:=b) (by lia) (by lia) (by lia) (by lia);refine aa e1 (aa e2 (aa e3 (aa e4 (aa e5 (aa e6 ?_)))));k_is;refine⟨?_,Sm.refl _⟩;have t:=sk.me.tri a b c ha hb hc;rw[decide_eq_true (show gp K a b<=gp K a c+gp K c b from t)]
 ·subst ee
  have all:∀e ∈ (Zl K.M.length).flatMap λa=>(Zl K.M.length).flatMap λb=>(Zl K.M.length).flatMap λc=>[D.bl true],e = .bl true:=λe he=>by
   obtain⟨a,_,he⟩:=Yk.mp he;obtain⟨b,_,he⟩:=Yk.mp he;obtain⟨c,_,he⟩:=Yk.mp he;exact Zy.mp he
  refine⟨?_,aa (AU all _) (q _ ((Sm.app S _).trans sm))⟩;have f3:∀a b:Nat,((Zl K.M.length).flatMap λc=>[D.bl true]).length<=4:=λ_ _=>by rw[bL (Zl K.M.length) (λ_=>D.bl true),Za,ZC];exact m4
  have f2:∀a:Nat,((Zl K.M.length).flatMap λb=>(Zl K.M.length).flatMap λc=>[D.bl true]).length<=K.M.length * 4:=λa=>Dw.tV λb _=>f3 a b;have f1:=Dw.tV (n:=K.M.length) (m:=K.M.length * 4) (f:=λa=>(Zl K.M.length).flatMap λb=>(Zl K.M.length).flatMap λc=>[D.bl true]) λa _=>f2 a;have:K.M.length * (K.M.length * 4)<=4 * (4 * 4):=X9 m4 (X9 m4 (Zd _))
  lia
theorem K6(sk:SkOk K)(q:∀S',Sm S S'->Q (.bl true) S'):Ok (evC ac (k+4) 7 [.tup (K.M.map aA)] S) Q:=by
 refine ax (d:=gG) (ρ:=[some (.tup (K.M.map aA))]) rfl rfl ?_;dsimp only[gG,kT];have m1:=sk.me.m1;have m4:=sk.me.m4;k_is;refine⟨rfl,l5 (fJ K.M) (by rw[jI];lia) (by rw[jI];lia) ?_⟩;k_is;refine tv K.M aA (by lia) cp (λi r S' hr sm=>⟨_,rfl,?_⟩) λS' sm=>?_
 ·k_is;refine aa bA ?_;have hm:=Zi hr;exact⟨rfl,Oj (sk.me.mat.row r hm) m4 (sk.me.mat.ent r hm) λS2 s2=>⟨rfl,s2⟩⟩
 ·k_is;exact⟨rfl,Ol sk λS2 s2=>q S2 (sm.trans s2)⟩
theorem w6{z:Int × Int}(h0:0<=z.1)(h1:z.1 < z.2)(h2:z.2<=9999)(q:Q (.bl true) S):Ok (evC ac (k+4) 11 [ae z] S) Q:=by
 refine ax (d:=dY) (ρ:=[some (ae z)]) rfl rfl ?_;dsimp only[dY,ib];rw[show ae z = .tup [.int z.1,.int z.2] from rfl];have x0:ixS (.tup [D.int z.1,.int z.2]) (.int 0) S=some (.int z.1,S):=rfl;have x1:ixS (.tup [D.int z.1,.int z.2]) (.int 1) S=some (.int z.2,S):=rfl;k_is;refine⟨rfl,l5 (ak bu (ak bu bE)) (ZP _) (ZP _) ?_⟩;k_is;refine aa x0 ⟨rfl,EZ h0 (by lia) ?_⟩;k_is;refine aa x1 ⟨rfl,EZ (by lia) h2 ?_⟩;k_is;refine aa x0 (aa x1 ?_);k_is;rw[decide_eq_true h1];exact q
theorem E5(sk:SkOk K)(q:∀S',Sm S S'->Q (.bl true) S'):Ok (evC ac (k+5) 10 [.tup (K.H.map ae)] S) Q:=by
 refine ax (d:=fv) (ρ:=[some (.tup (K.H.map ae))]) rfl rfl ?_;dsimp only[fv,jd];have h4:=sk.me.h4;k_is;refine⟨rfl,l5 (fH K.H) (by rw[Za];lia) (by rw[Za];lia) ?_⟩;k_is;refine tv K.H ae (by lia) cp (λi z S' hz sm=>⟨_,rfl,?_⟩) λS' sm=>?_
 ·k_is;have a:=jH sk.me.ris (Zi hz);exact⟨rfl,w6 (by lia) a.2 (sk.me.hb z (Zi hz)) ⟨rfl,Sm.refl _⟩⟩
 ·k_is;refine aa bA ?_;k_is;refine⟨⟨by decide,gR (by lia) (by lia)⟩,?_⟩;refine Dt (by lia) (λ_=>true) (λi S2 hi sm2=>⟨_,rfl,?_⟩) λS2 sm2=>?_
  ·k_is;have hi1:i+1 < K.H.length:=by lia
   have z1:(1:Int)+i=((i+1:Nat):Int):=by lia
   have z2:((i+1:Nat):Int) - 1=((i:Nat):Int):=by lia
   rw[z1,z2];refine aa (qK (d:=ae K.H[i+1]) (by lia) (by rw[ZJ,Zs,gEG hi1];rfl)) (aa (show ixS (ae K.H[i+1]) (.int 0) S2=some (.int K.H[i+1].1,S2) from rfl) ?_);refine aa (qK (d:=ae K.H[i]) (by lia) (by rw[ZJ,Zs,gEG (by lia)];rfl)) (aa (show ixS (ae K.H[i]) (.int 1) S2=some (.int K.H[i].2,S2) from rfl) ?_);k_is;rw[decide_eq_true (qT sk.me.ris i _ _ (gEG (by lia)) (gEG hi1))];exact⟨rfl,Sm.refl _⟩
  ·refine aa (oE _ (λ_=>true) _) ?_;rw[tj];exact q S2 (sm.trans sm2)
theorem AV(sk:SkOk K)(q:∀S',Sm S S'->Q (.bl true) S'):Ok (evC ac (k+6) 6 [meE K] S) Q:=by
 refine ax (d:=fu) (ρ:=[some (meE K),none,none,none,none]) rfl rfl ?_;dsimp only[fu,jc];rw[show meE K = .tup [.int K.r,.int K.s,.tup (K.M.map aA),.tup (K.H.map ae)] from rfl];k_is;refine⟨rfl,l5 (ak bu (ak bu (ak (bp (fJ K.M)) (ak (bp (fH K.H)) bE)))) (ZP _) (ZP _) ?_⟩;k_is;refine⟨rfl,tw sk.me.r0 sk.me.r8 ?_⟩;k_is;refine⟨rfl,tw sk.me.s0 sk.me.s60 ?_⟩;k_is;refine⟨rfl,K6 sk λS1 s1=>?_⟩;k_is;exact⟨rfl,E5 sk λS2 s2=>q S2 (s1.trans s2)⟩
theorem AW{i:Int}(h0:0<=i)(h1:i < K.M.length)(q:Q (.bl true) S):Ok (evC ac (k+3) 12 [meE K,.int i] S) Q:=by
 refine ax (d:=iS) (ρ:=[some (meE K),some (.int i)]) rfl rfl ?_;dsimp only[iS,mX];k_is;refine aa me2 (aa bA ?_);k_is;exact⟨rfl,tw h0 (by lia) q⟩
theorem E6(sk:SkOk K)(q:Q (.bl true) S):Ok (evC ac (k+4) 15 [meE K,ahE K.ah] S) Q:=by
 refine ax (d:=gH) (ρ:=[some (meE K),some (ahE K.ah)]) rfl rfl ?_;dsimp only[gH,kU];cases h:K.ah with
 |none=>k_is;exact aa (show aj .is (ahE none) .non S=some (.bl true,S) from rfl) q
 |some z=>
  obtain⟨a0,a1,b0,b1⟩:=sk.ah z h;have x0:ixS (.tup [D.int z.1,.int z.2]) (.int 0) S=some (.int z.1,S):=rfl;have x1:ixS (.tup [D.int z.1,.int z.2]) (.int 1) S=some (.int z.2,S):=rfl;rw[show ahE (some z) = .tup [.int z.1,.int z.2] from rfl];k_is;refine aa (show aj .is (.tup [D.int z.1,.int z.2]) .non S=some (.bl false,S) from rfl) ?_;k_is;refine⟨rfl,l5 (ak bu (ak bu bE)) (ZP _) (ZP _) ?_⟩;k_is;refine aa x0 ⟨rfl,AW a0 a1 ?_⟩;k_is;exact aa x1 ⟨rfl,EZ b0 b1 q⟩
theorem AX(sk:SkOk K){g:List Int}(hg:g ∈ K.G)(q:∀S',Sm S S'->Q (.bl true) S'):Ok (evC ac (k+4) 17 [meE K,aA g] S) Q:=by
 obtain⟨kd,jo,fi,la,du,we,ri,rfl,a0,a1,b0,b1,b2,b3,c0,c1,d0,d1,e0,e1⟩:=sk.gb g hg;have s0:=sk.me.s0;refine ax (d:=fw) (ρ:=[some (meE K),some (aA [kd,jo,fi,la,du,we,ri]),none,none,none,none,none,none,none]) rfl rfl ?_;dsimp only[fw,je];rw[show aA [kd,jo,fi,la,du,we,ri] = .tup [.int kd,.int jo,.int fi,.int la,.int du,.int we,.int ri] from rfl];k_is;refine⟨rfl,l5 (eG [kd,jo,fi,la,du,we,ri]) (ZP _) (ZP _) ?_⟩;k_is;refine tv [jo,fi,la,du] D.int (by show 4<=1000;decide) (cp (l:=[jo,fi,la,du]) (E:=D.int)) (λi x S' hx sm=>⟨_,rfl,?_⟩) λS' sm=>?_
 ·k_is;have hm:=Zi hx;simp only[Zn,Xg,or_false] at hm;refine⟨rfl,EZ ?_ ?_ ⟨rfl,Sm.refl _⟩⟩
  ·rcases hm with rfl |rfl |rfl |rfl <;> lia
  ·rcases hm with rfl |rfl |rfl |rfl <;> lia
 ·k_is;refine aa me1 ?_;k_is;rw[decide_eq_true b1];k_is;rw[decide_eq_true b2];k_is;refine⟨rfl,AW a0 a1 ?_⟩;k_is;refine⟨rfl,tw d0 d1 ?_⟩;k_is;refine aa me0 ⟨rfl,tw e0 e1 (q S' sm)⟩
theorem w8(sk:SkOk K)(q:∀S',Sm S S'->Q (.bl true) S'):Ok (evC ac (k+5) 16 [meE K,.tup (K.G.map aA)] S) Q:=by
 refine ax (d:=cZ) (ρ:=[some (meE K),some (.tup (K.G.map aA))]) rfl rfl ?_;dsimp only[cZ,ga];have g7:=sk.g7;k_is;refine⟨rfl,l5 (fJ K.G) (by rw[jI];lia) (by rw[jI];lia) ?_⟩;k_is;refine tv K.G aA (by lia) cp (λi g S' hg sm=>⟨_,rfl,?_⟩) q;k_is;exact⟨rfl,AX sk (Zi hg) λS2 s2=>⟨rfl,s2⟩⟩
theorem AY(sk:SkOk K)(q:∀S',Sm S S'->Q (.bl true) S'):Ok (evC ac (k+3) 4 [.tup (K.F.map D.int),.int K.G.length] S) Q:=by
 refine ax (d:=dW) (ρ:=[some (.tup (K.F.map D.int)),some (.int K.G.length)]) rfl rfl ?_;dsimp only[dW,hZ];have g7:=sk.g7;have lF:=Dw.bj K.G.length K.F sk.nd sk.bd;k_is;refine⟨rfl,l5 (eG K.F) (by rw[Za];lia) (by rw[Za];lia) ?_⟩;k_is;refine tv K.F D.int (by lia) cp (λi x S' hx sm=>⟨_,rfl,?_⟩) λS' sm=>?_
 ·k_is;have:=sk.bd x (Zi hx);exact⟨rfl,tw this.1 (by lia) ⟨rfl,Sm.refl _⟩⟩
 ·k_is;refine tv K.F D.int (by lia) cp (λi x S2 hx sm2=>⟨_,rfl,?_⟩) λS2 sm2=>q S2 (sm.trans sm2);k_is;refine⟨rfl,aa (zZ K.F x S2) ?_⟩;k_is;rw[show((K.F.count x:Nat):Int)=1 by rw[List.Nodup.count sk.nd,if_pos (Zi hx)];rfl];exact⟨rfl,Sm.refl _⟩
theorem E7(sk:SkOk K)(q:∀S',Sm S S'->Q (.bl true) S'):Ok (evC ac (k+4) 18 [.tup (K.G.map aA),.tup (K.F.map D.int)] S) Q:=by
 refine ax (d:=fA) (ρ:=[some (.tup (K.G.map aA)),some (.tup (K.F.map D.int))]) rfl rfl ?_;dsimp only[fA,jf];have g7:=sk.g7;k_is;refine aa bA ?_;refine⟨rfl,AY sk λS1 s1=>?_⟩;k_is;refine oI K.G.length (λi=>.tup [.int i,((K.G.map aA)[i]?).getD .non]) (λi acc S'=>Sm S1 S'/\acc.length=i/\∀e ∈ acc,e = .bl true) (λi acc S' hi _=>?_) (by lia) (λi acc S' hi hq1=>?_) (λes S' hq2=>by obtain⟨s',la,ha⟩:=hq2;exact⟨by lia,aa (AU ha _) (q S' (s1.trans s'))⟩) ⟨Sm.refl _,rfl,λe he=>by cases he⟩
 ·show enm (K.G.map aA) i=_;unfold enm;rw[if_pos (by rw[Za];exact hi)];split
  ·rename_i hlt;rw[gEG (by rw[Za];exact hlt)];rfl
  ·rw[Zv (by rw[Za];lia)];rfl
 ·obtain⟨s',la,ha⟩:=hq1;obtain⟨kd,jo,fi,la',du,we,ri,eg,_⟩:=sk.gb K.G[i] (ZQ hi);have rg:=sk.rg i _ (gEG hi);have ez:((K.G.map aA)[i]?).getD .non = .tup [.int kd,.int jo,.int fi,.int la',.int du,.int we,.int ri]:=by rw[Zs,gEG hi,eg];rfl
  rw[eg] at rg;have rg:ri=0\/(i:Int) ∈ K.F:=rg;rw[ez];have fin:∀S',Sm S1 S'->Sm S1 S'/\(acc++[D.bl true]).length=i+1/\∀e ∈ acc++[D.bl true],e = .bl true:=λS' s'=>⟨s',by rw[Zg,Zm];lia,λe he=>(ZO.mp he).elim (ha e) λz=>Zy.mp z⟩;refine⟨_,dg (by simp) (by simp),?_⟩;k_is;refine aa (show ixS (.tup [D.int kd,.int jo,.int fi,.int la',.int du,.int we,.int ri]) (.int 6) S'=some (.int ri,S') from rfl) ?_;k_is;cases c:decide (ri=0) with
  |true=>k_is;exact fin S' s'
  |false=>
   k_is;refine aa (show aj .isin (.int (i:Int)) (.tup (K.F.map D.int)) S'=some (.bl (false != decide ((i:Int) ∈ K.F)),S') from oG false K.F i S') ?_;rw[decide_eq_true (rg.resolve_left (of_decide_eq_false c))];exact fin S' s'
theorem Om(sk:SkOk K)(q:∀S',Sm S S'->Q (.bl true) S'):Ok (evC ac (k+7) 14 [skE K] S) Q:=by
 refine ax (d:=k7) (ρ:=[some (skE K),none,none,none,none]) rfl rfl ?_;dsimp only[k7,qz];rw[show skE K = .tup [meE K,ahE K.ah,.tup (K.G.map aA),.tup (K.F.map D.int)] from rfl];k_is;refine⟨rfl,l5 (ts:=[.tup [.int K.r,.int K.s,.tup (Dw.jr K.M),.tup (K.H.map Dw.mD)],ahT K.ah,.tup (Dw.jr K.G),.tup (K.F.map Dw.D.int)]) (ak (bp (ak bu (ak bu (ak (bp (fJ K.M)) (ak (bp (fH K.H)) bE))))) (ak (Gf K.ah) (ak (bp (fJ K.G)) (ak (bp (eG K.F)) bE)))) (ZP _) (ZP _) ?_⟩;k_is;refine⟨rfl,AV sk λS1 s1=>?_⟩;k_is;refine⟨rfl,E6 sk ?_⟩;k_is;refine⟨rfl,w8 sk λS2 s2=>?_⟩;k_is;exact⟨rfl,E7 sk λS3 s3=>q S3 ((s1.trans s2).trans s3)⟩
theorem qU(sk:SkOk K)(q:∀S',Sm S S'->Q .non S'):Ok (evC ac (k+8) 20 [skE K] S) Q:=by
 refine ax (d:=fC) (ρ:=[some (skE K)]) rfl rfl ?_;dsimp only[fC,jh];k_is;refine⟨rfl,Om sk λS' sm=>?_⟩;k_is;exact q S' sm
end Lw
namespace Sn
open Ev PySem
abbrev cst(K:Sky)(g m:Int):Int:=gi K.G g 5 * (if m - gi K.G g 4 > 0 then m - gi K.G g 4 else 0)
abbrev jnd(K:Sky)(l:Bool)(g m x:Int):Int:=if l=true then (if x > m then x else m) else cst K g m+x
abbrev lp(ws:List (Int × List Int)):Option (Int × List Int):=ws[argBest (bz ws) (ws.length - 1)]?
abbrev rst(left:List Int)(g:Int):List Int:=left.filter λx=>!decide (x=g)
abbrev bb(K:Sky)(l:Bool):Nat->Option (Int × Int)->List Int->Option (Int × List Int)
 |0,_,_=>some (0,[])
 | n+1,ah,left=>lp (left.filterMap λg=>match step K ah g (K.G.length - (n+1)) with
  |none=>none
  | some m=>(bb K l n (some (gi K.G g 0,m)) (rst left g)).map λz=>(jnd K l g m z.1,g::z.2))
abbrev bw(K:Sky)(l:Bool)(n:Nat)(ah:Option (Int × Int))(left:List Int)(g:Int):Option (Int × List Int):=match step K ah g (K.G.length - (n+1)) with
 |none=>none
 |some m=>(bb K l n (some (gi K.G g 0,m)) (rst left g)).map λz=>(jnd K l g m z.1,g::z.2)
theorem jJ{K:Sky}{l:Bool}{n:Nat}{ah:Option (Int × Int)}{left:List Int}:bb K l (n+1) ah left=lp (left.filterMap (bw K l n ah left)):=rfl
theorem ni{ws:List (Int × List Int)}{z:Int × List Int}(h:lp ws=some z):z ∈ ws:=Zi h
theorem oU{K:Sky}{l:Bool}:∀ (n:Nat) (ah:Option (Int × Int)) (left:List Int) (z:Int × List Int),bb K l n ah left=some z->z.2.length=n
 |0,_,_,z,h=>by cases h;rfl
 |n+1,ah,left,z,h=>by
  rw[jJ] at h;obtain⟨g,_,e⟩:=Yl.mp (ni h);unfold bw at e;split at e
  ·cases e
  ·obtain⟨y,e1,rfl⟩:=ZK.mp e;rw[Zr,oU n _ _ y e1]
end Sn
namespace Lw
open PySem Ev Sn L2
variable {p:Nat} {S S':Sto} {k:Nat} {Q:D->Sto->Prop} {K:Sky}
abbrev bQ(l:Bool):D:=.str (if l=true then "last" else "cost")
abbrev aY:Option (Int × List Int)->D
 |none=>.non
 |some z=>.tup [.int z.1,.tup (z.2.map D.int)]
abbrev Oo:Option (Int × Int)->NK
 |none=>.non
 |some z=>.tup [.inl z.1,.inl z.2]
abbrev fZ(ah:Option (Int × Int))(left:List Int):List NK:=[Oo ah,.tup (left.map Sum.inl)]
theorem ls:∀ (xs:List Int),dq (xs.map D.int)=some (xs.map Sum.inl)
 |[]=>rfl
 |x::xs=>by rw[Zz,dq,ls xs];rfl
theorem dF{ah:Option (Int × Int)}{left:List Int}:lV (.tup [ahE ah,.tup (left.map D.int)])=some (fZ ah left):=by
 have e:yt (.tup (left.map D.int))=some (.tup (left.map Sum.inl)):=by show(dq _).map _=_;rw[ls];rfl
 have e2:yt (ahE ah)=some (Oo ah):=by cases ah <;> rfl
 show mF _=_;simp only[mF,e,e2,fZ]
theorem uQ:∀ {xs ys:List Int},xs.map (Sum.inl:Int->Key)=ys.map Sum.inl->xs=ys
 |[],[],_=>rfl
 |[],_::_,e=>by cases e
 |_::_,[],e=>by cases e
 |x::xs,y::ys,e=>by
  obtain⟨a,b⟩:=Wd.inj e;cases a;rw[uQ b]
theorem qV{a b:Option (Int × Int)}{xs ys:List Int}(h:fZ a xs=fZ b ys):a=b/\xs=ys:=by
 unfold fZ at h;obtain⟨h1,h2⟩:=Wd.inj h;obtain⟨h2,_⟩:=Wd.inj h2;refine⟨?_,uQ (NK.tup.inj h2)⟩;cases a with
 |none=>cases b with
  |none=>rfl
  |some z=>cases h1
 |some z=>cases b with
  |none=>cases h1
  |some w=>
   obtain⟨z1,z2⟩:=z;obtain⟨w1,w2⟩:=w;cases h1;rfl
def KI(K:Sky)(l:Bool)(kss:List (List NK))(ds:List D):Prop:=kss.length=ds.length/\∀ah left d,atD kss ds (fZ ah left)=some d->d=aY (bb K l left.length ah left)
structure Kn(K:Sky)(l:Bool)(p c:Nat)(S:Sto):Prop where
 ex:∃kss ds,S[p]?=some (.dic kss ds)/\KI K l kss ds/\kss.length<=c
abbrev cnt:Nat->Nat
 |0=>0
 |n+1=>(n+1) * cnt n+1
theorem qW:∀ {kss:List (List NK)} {ds:List D} {k:List NK} {v:D},(atD kss ds k).isSome=true->atD kss (e9 k v kss ds) k=some v
 |[],_,_,_,h=>by simp[atD] at h
 |_::_,[],_,_,h=>by simp[atD] at h
 |a::kss,d::ds,k,v,h=>by
  simp only[e9,atD] at h ⊢;split
  ·rfl
  ·rename_i e;rw[if_neg e] at h;exact qW h
theorem oV:∀ {kss:List (List NK)} {ds:List D} {k k':List NK} {v:D},kss.length=ds.length->atD (kss++[k]) (ds++[v]) k'=match atD kss ds k' with |some d=>some d |none=>if k=k' then some v else none
 |[],[],k,k',v,_=>rfl
 |[],_::_,_,_,_,h=>by simp at h
 |_::_,[],_,_,_,h=>by simp at h
 |a::kss,d::ds,k,k',v,h=>by
  simp only[XW,atD];split
  ·rfl
  ·exact oV (by simpa using h)
theorem uR:∀ {kss:List (List NK)} {ds:List D} {k k':List NK} {v d:D},atD kss (e9 k v kss ds) k'=some d->(k=k'/\d=v)\/(atD kss ds k'=some d)
 |[],_,_,_,_,_,h=>by simp[e9,atD] at h
 |_::_,[],_,_,_,_,h=>by simp[e9,atD] at h
 |a::kss,e::ds,k,k',v,d,h=>by
  simp only[e9,atD] at h ⊢;split at h
  ·rename_i ea;subst ea;cases h;split
   ·rename_i ek;exact .inl ⟨ek.symm,rfl⟩
   ·exact .inr (if_pos rfl)
  ·rename_i ea;rw[if_neg ea];exact uR h
theorem gl9(sk:SkOk K){g:Int}(h0:0<=g)(h1:g < K.G.length):∃a b c d e f h,K.G[g.toNat]?=some [a,b,c,d,e,f,h]/\gi K.G g 0=a/\gi K.G g 4=e/\gi K.G g 5=f/\0<=f/\f<=99/\0<=a/\a < K.M.length:=by
 have hi:g.toNat < K.G.length:=by lia
 obtain⟨a,b,c,d,e,f,h,eg,hb⟩:=sk.gb K.G[g.toNat] (ZQ hi);have eq:K.G[g.toNat]?=some [a,b,c,d,e,f,h]:=by rw[gEG hi,eg]
 refine⟨a,b,c,d,e,f,h,eq,?_,?_,?_,by lia,by lia,by lia,by lia⟩ <;> (unfold gi;rw[eq];rfl)
theorem AZ{g m a b c d e f h:Int}(e4:gi K.G g 4=e)(e5:gi K.G g 5=f)(f0:0<=f)(f1:f<=99)(q:Q (.int (cst K g m)) S):Ok (evC ac (k+1) 21 [aA [a,b,c,d,e,f,h],.int m] S) Q:=by
 refine ax (d:=c6) (ρ:=[some (aA [a,b,c,d,e,f,h]),some (.int m),none,none,none,none,none,none,none]) rfl rfl ?_;dsimp only[c6,gf];unfold cst at q;rw[e4,e5] at q;rw[show aA [a,b,c,d,e,f,h] = .tup [.int a,.int b,.int c,.int d,.int e,.int f,.int h] from rfl];k_is;refine⟨?_,q⟩;unfold fb;rw[decide_eq_true (show -(2 ^ 64) < f by lia),decide_eq_true (show f < 2 ^ 64 by lia)];rfl
theorem nj(l:Bool){g m x a b c d e f h:Int}(e4:gi K.G g 4=e)(e5:gi K.G g 5=f)(f0:0<=f)(f1:f<=99)(q:Q (.int (jnd K l g m x)) S):Ok (evC ac (k+2) 37 [bQ l,aA [a,b,c,d,e,f,h],.int m,.int x] S) Q:=by
 refine ax (d:=k8) (ρ:=[some (bQ l),some (aA [a,b,c,d,e,f,h]),some (.int m),some (.int x)]) rfl rfl ?_;dsimp only[k8,qA];unfold jnd at q;cases l with
 |true=>
  rw[if_pos rfl] at q;k_is;refine aa (show aj .eq (bQ true) (.str "last") S=some (.bl true,S) from rfl) ?_;k_is;exact q
 |false=>
  rw[if_neg (by decide)] at q;k_is;refine aa (show aj .eq (bQ false) (.str "last") S=some (.bl false,S) from rfl) ?_;k_is;refine aa (show aj .eq (bQ false) (.str "cost") S=some (.bl true,S) from rfl) ?_;k_is;refine⟨rfl,AZ e4 e5 f0 f1 ?_⟩;k_is;exact q
theorem tz{left:List Int}{g:Int}(hl:left.length<=100)(q:∀S',Sm S S'->Q (.tup ((rst left g).map D.int)) S'):Ok (evC ac (k+1) 5 [.tup (left.map D.int),.int g] S) Q:=by
 refine ax (d:=iR) (ρ:=[some (.tup (left.map D.int)),some (.int g)]) rfl rfl ?_;dsimp only[iR,mW];k_is;refine bI left D.int (λx=>if (!decide (x=g))=true then [D.int x] else []) (by lia) (λa _=>by split <;> simp) cp (λi x S' hx sm=>⟨_,rfl,?_⟩) λS1 s1=>?_
 ·k_is;cases c:!decide (x=g) with
  |true=>exact⟨rfl,Sm.refl _⟩
  |false=>exact⟨rfl,Sm.refl _⟩
 ·rw[bP];exact aa (show cX false (((rst left g)).map D.int) S1=some (.tup ((rst left g).map D.int),S1) from rfl) (q S1 s1)
structure Lf(K:Sky)(n:Nat)(ah:Option (Int × Int))(left:List Int):Prop where
 nd:left.Nodup
 bd:∀g ∈ left,0<=g/\g < K.G.length
 ln:left.length=n
 le:n<=K.G.length
 ah:∀q,ah=some q->0<=q.1/\q.1 < K.M.length
theorem oW:∀ {left:List Int} {g:Int},left.Nodup->g ∈ left->(rst left g).length+1=left.length
 |[],_,_,h=>by cases h
 |a::l,g,nd,h=>by
  rw[Yn] at nd;unfold rst;by_cases e:a=g
  ·subst e;rw[List.filter_cons_of_neg (by simp)]
   rw[Xz.mpr λx hx=>by
    have:¬ x=a:=λz=>nd.1 (z ▸ hx);simp[this]]
   rw[Zr]
  ·rw[List.filter_cons_of_pos (by simp[e]),Zr,Zr];have:=oW nd.2 ((Zn.mp h).resolve_left λz=>e z.symm);unfold rst at this
   lia
theorem Lf.rst{n:Nat}{ah:Option (Int × Int)}{left:List Int}{g m:Int}(h:Lf K (n+1) ah left)(hg:g ∈ left)(a0:0<=gi K.G g 0)(a1:gi K.G g 0 < K.M.length):Lf K n (some (gi K.G g 0,m)) (Sn.rst left g):=by
 have l:=oW h.nd hg;have:=h.ln;have:=h.le;exact⟨h.nd.filter _,λx hx=>h.bd x (ZW.mp hx).1,by lia,by lia,λq e=>by cases e;exact⟨a0,a1⟩⟩
def BB(K:Sky)(l:Bool)(p n k:Nat):Prop:=∀ (ah:Option (Int × Int)) (left:List Int) (S:Sto) (c:Nat) (Q:D->Sto->Prop),Lf K n ah left->Kn K l p c S->c+cnt n<=99999->(∀S',Kp p S S'->Kn K l p (c+cnt n) S'->Q (aY (bb K l n ah left)) S')->Ok (evC ac k 38 [skE K,bQ l,ahE ah,.tup (left.map D.int),.ref p] S) Q
theorem Kn.kp{l:Bool}{c:Nat}(h:Kn K l p c S)(s:Sm S S'):Kn K l p c S':=let ⟨kss,ds,e,k⟩:=h.ex;⟨kss,ds,s _ _ e,k⟩
theorem Kn.up{l:Bool}{c c':Nat}(h:Kn K l p c S)(hc:c<=c'):Kn K l p c' S:=let ⟨kss,ds,e,k,z⟩:=h.ex;⟨kss,ds,e,k,ZI z hc⟩
theorem E8(sk:SkOk K){l:Bool}{n k:Nat}(ih:BB K l p n (k+5)){ah:Option (Int × Int)}{left:List Int}{g:Int}(lf:Lf K (n+1) ah left)(hg:g ∈ left){cc:Nat}(kn:Kn K l p cc S)(hcc:cc+cnt n<=99999)(q:∀S',Kp p S S'->Kn K l p (cc+cnt n) S'->Q (aY (bw K l n ah left g)) S'):Ok (evC ac (k+6) 39 [skE K,bQ l,ahE ah,.tup (left.map D.int),.int g,.ref p] S) Q:=by
 refine ax (d:=fD) (ρ:=[some (skE K),some (bQ l),some (ahE ah),some (.tup (left.map D.int)),some (.int g),some (.ref p),none,none,none]) rfl rfl ?_;dsimp only[fD,ji];have V:=sk.vd;have g7:=sk.g7;have hb:=lf.bd g hg;have ln:=lf.ln;have le:=lf.le;obtain⟨a,b,c,d,e,f,h,eg,e0,e4,e5,f0,f1,a0,a1⟩:=gl9 sk hb.1 hb.2;k_is;refine aa sk2 (aa bA (aa bA ?_));k_is;rw[show((K.G.length:Int) - left.length)=((K.G.length - (n+1):Nat):Int) by lia];refine⟨rfl,nh (k:=k+2) V lf.ah hb.1 hb.2 λS1 s1=>?_⟩;unfold bw at q;cases hs:step K ah g (K.G.length - (n+1)) with
 |none=>
  rw[hs] at q;rw[show ip none = .non from rfl];k_is;refine aa (show aj .is .non .non S1=some (.bl true,S1) from rfl) ?_;k_is;exact q S1 s1.kp ((kn.kp s1).up (XX _ _))
 |some m=>
  rw[hs] at q;rw[show ip (some m) = .int m from rfl];k_is;refine aa (show aj .is (.int m) .non S1=some (.bl false,S1) from rfl) ?_;k_is;refine aa sk2 (aa (cJ hb.1 eg) ?_);k_is;refine aa (show ixS (aA [a,b,c,d,e,f,h]) (.int 0) S1=some (.int a,S1) from rfl) ?_;k_is;refine⟨rfl,tz (k:=k+4) (by lia) λS2 s2=>?_⟩
  have lr:Lf K n (some (a,m)) (Sn.rst left g):=by
   have:=lf.rst (m:=m) hg (by rw[e0];exact a0) (by rw[e0];exact a1)
   rwa [e0] at this
  have s12:=s1.trans s2;refine⟨rfl,ih (some (a,m)) (Sn.rst left g) S2 cc _ lr (kn.kp s12) hcc λS3 k3 kn3=>?_⟩;rw[e0] at q;cases hb':bb K l n (some (a,m)) (Sn.rst left g) with
  |none=>
   dsimp only at q;rw[hb'] at q;rw[show aY none = .non from rfl];k_is;refine aa (show aj .is .non .non S3=some (.bl true,S3) from rfl) ?_;k_is;exact q S3 (s12.kp.trans k3) kn3
  |some z=>
   dsimp only at q;rw[hb'] at q;rw[show aY (some z) = .tup [.int z.1,.tup (z.2.map D.int)] from rfl];k_is;refine aa (show aj .is (.tup [.int z.1,.tup (z.2.map D.int)]) .non S3=some (.bl false,S3) from rfl) ?_;k_is;refine aa (show ixS (.tup [.int z.1,.tup (z.2.map D.int)]) (.int 0) S3=some (.int z.1,S3) from rfl) ?_;refine⟨rfl,nj (k:=k+3) l e4 e5 f0 f1 ?_⟩;k_is;refine aa (show ixS (.tup [.int z.1,.tup (z.2.map D.int)]) (.int 1) S3=some (.tup (z.2.map D.int),S3) from rfl) ?_;k_is;have lz:=oU n _ _ z hb';exact⟨by rw[Za,Zm];lia,q S3 (s12.kp.trans k3) kn3⟩
theorem A0{l:Bool}{k:Nat}:BB K l p 0 (k+1):=λah left S c Q lf kn hc q=>by
 refine ax (d:=bK) (ρ:=[some (skE K),some (bQ l),some (ahE ah),some (.tup (left.map D.int)),some (.ref p),none,none]) rfl rfl ?_;dsimp only[bK,cY];have e:=Z3.mp lf.ln;subst e;k_is;exact q S (Kp.refl p S) kn
theorem K7{l:Bool}{kss:List (List NK)}{ds:List D}{ah:Option (Int × Int)}{left:List Int}(hp:S[p]?=some (.dic kss ds)):aj .notin (.tup [ahE ah,.tup (left.map D.int)]) (.ref p) S=some (.bl (!(atD kss ds (fZ ah left)).isSome),S):=by
 have e:aj .notin (.tup [ahE ah,.tup (left.map D.int)]) (.ref p) S=inK true (.tup [ahE ah,.tup (left.map D.int)]) (.ref p) S:=by
  simp only[aj,inS,ay,am,hp,Option.map_none]
 rw[e];simp only[inK,dF,hp];simp
theorem tB{kss:List (List NK)}{ds:List D}{ah:Option (Int × Int)}{left:List Int}{d:D}(hp:S[p]?=some (.dic kss ds))(h:atD kss ds (fZ ah left)=some d):ixS (.ref p) (.tup [ahE ah,.tup (left.map D.int)]) S=some (d,S):=by
 show ixK _ _ _=_;simp only[ixK,dF,hp,h,ZA]
theorem uS:∀ (ws:List (Int × List Int)),mM (ws.map λz=>aY (some z))=some ws
 |[]=>rfl
 |z::ws=>by
  have e:zg (aY (some z))=some z:=by
   show(eK (z.2.map D.int)).map _=_;rw[eF];rfl
  rw[Zz];simp only[mM,e,uS ws]
theorem K8(ws:List (Int × List Int)):lZ false (ws.map λz=>aY (some z)) S=some (aY (lp ws),S):=by
 unfold lZ;rw[uS];dsimp only;rw[Za,ZF,Zs];unfold lp;cases ws[argBest (bz ws) (ws.length - 1)]? <;> rfl
theorem K9{l:Bool}{ah:Option (Int × Int)}{left:List Int}{c:Nat}(kn:Kn K l p c S)(hc:c < 99999):∃S',iM (.ref p) (.tup [ahE ah,.tup (left.map D.int)]) (aY (bb K l left.length ah left)) S=some S'/\Kp p S S'/\Kn K l p (c+1) S'/\ixS (.ref p) (.tup [ahE ah,.tup (left.map D.int)]) S'=some (aY (bb K l left.length ah left),S'):=by
 obtain⟨kss,ds,hp,⟨hkl,ki⟩,hcl⟩:=kn.ex;have lt:p < S.length:=(Zb.mp hp).1;have e:iM (.ref p) (.tup [ahE ah,.tup (left.map D.int)]) (aY (bb K l left.length ah left)) S=yv (.ref p) (.tup [ahE ah,.tup (left.map D.int)]) (aY (bb K l left.length ah left)) S:=rfl;rw[e];simp only[yv,dF,hp];rw[if_pos (by lia)];have kp:∀o,Kp p S (S.set p o):=λo i u hi h=>by rw[Zp (Ne.symm hi)];exact h
 by_cases cd:(atD kss ds (fZ ah left)).isSome=true
 ·rw[if_pos cd];have at':(S.set p (Ob.dic kss (e9 (fZ ah left) (aY (bb K l left.length ah left)) kss ds)))[p]?=some (.dic kss (e9 (fZ ah left) (aY (bb K l left.length ah left)) kss ds)):=ZS lt;refine⟨_,rfl,kp _,⟨_,_,at',⟨nW hkl,λah' left' d h=>?_⟩,by lia⟩,tB at' ?_⟩
  ·rcases uR h with ⟨h1,rfl⟩ |h1
   ·obtain⟨rfl,rfl⟩:=qV h1;rfl
   ·exact ki ah' left' d h1
  ·exact qW cd
 ·rw[if_neg cd]
  have cn:atD kss ds (fZ ah left)=none:=by
   cases h:atD kss ds (fZ ah left) with
   |none=>rfl
   |some d=>rw[h] at cd;exact absurd rfl cd
  have at':(S.set p (Ob.dic (kss++[fZ ah left]) (ds++[aY (bb K l left.length ah left)])))[p]?=some (.dic (kss++[fZ ah left]) (ds++[aY (bb K l left.length ah left)])):=ZS lt;refine⟨_,rfl,kp _,⟨_,_,at',⟨by rw[Zg,Zg,hkl];rfl,λah' left' d h=>?_⟩,by rw[Zg,Zm];lia⟩,tB at' ?_⟩
  ·rw[oV hkl] at h;split at h
   ·rename_i d' hd;cases h;exact ki ah' left' d hd
   ·split at h
    ·rename_i hk';cases h;obtain⟨rfl,rfl⟩:=qV hk';rfl
    ·cases h
  ·rw[oV hkl,cn];dsimp only;rw[if_pos rfl]
abbrev La{α:Type}(w:α->D):Option α->List D
 |none=>[]
 |some z=>[w z]
theorem qX{α β:Type}(f:α->Option β)(w:β->D):∀ (l:List α),(l.flatMap λa=>La w (f a))=(l.filterMap f).map w
 |[]=>rfl
 |a::l=>by
  rw[YK,qX f w l,Yg];cases f a <;> rfl
theorem A6(sk:SkOk K){l:Bool}{n k:Nat}(ih:BB K l p n (k+5)):BB K l p (n+1) (k+7):=λah left S cc Q lf kn hcc q=>by
 refine ax (d:=bK) (ρ:=[some (skE K),some (bQ l),some (ahE ah),some (.tup (left.map D.int)),some (.ref p),none,none]) rfl rfl ?_;dsimp only[bK,cY];have g7:=sk.g7;have ln:=lf.ln;have le:=lf.le;obtain⟨kss,ds,hp,ki,hcl⟩:=kn.ex;have hcn:cnt (n+1)=(n+1) * cnt n+1:=rfl
 have ne:(left.map D.int).isEmpty=false:=by
  cases left with
  |nil=>simp at ln
  |cons _ _=>rfl
 k_is;rw[ne];k_is;refine aa (K7 (l:=l) hp) ?_;cases ha:atD kss ds (fZ ah left) with
 |some d=>
  k_is;refine aa (tB hp ha) ?_;have e:=ki.2 ah left d ha;rw[ln] at e;subst e;exact q S (Kp.refl p S) (kn.up (XX _ _))
 |none=>
  k_is;refine oI left.length (λi=>D.int (left.getD i 0)) (λi acc S'=>Kp p S S'/\Kn K l p (cc+i * cnt n) S'/\acc=(left.take i).map λg=>aY (bw K l n ah left g)) (λi acc S' hi _=>?_) (by lia) (λi acc S' hi hq1=>?_) (λes S' hq2=>?_) ⟨Kp.refl p S,by rw[Wf];exact kn,rfl⟩
  ·show some (left.map D.int)[i]?=_;rw[Zs];split
   ·rename_i h;rw[gEG h,ZF,gEG h];rfl
   ·rename_i h;rw[Zv (by lia)];rfl
  ·obtain⟨kp,kn',rfl⟩:=hq1;have eg:left.getD i 0=left[i]:=by rw[ZF,gEG hi];rfl
   rw[eg];refine⟨_,rfl,?_⟩;k_is;have hi2:(i+1) * cnt n<=(n+1) * cnt n:=YY _ (by lia);have hi3:(i+1) * cnt n=i * cnt n+cnt n:=Y3 _ _;refine⟨rfl,E8 (k:=k) sk ih lf (ZQ hi) kn' (by lia) λS1 k1 kn1=>⟨kp.trans k1,by rw[hi3,<-YG];exact kn1,?_⟩⟩;rw[ZT hi,ZD];rfl
  ·obtain⟨kp,kn',rfl⟩:=hq2;rw[YV];refine⟨by rw[Za];lia,?_⟩;have aN:(S'++[Ob.lst (left.map λg=>aY (bw K l n ah left g))])[S'.length]?=some (.lst (left.map λg=>aY (bw K l n ah left g))):=aI;have s1:Sm S' (S'++[Ob.lst (left.map λg=>aY (bw K l n ah left g))]):=Sm.app _ _;generalize S'++[Ob.lst (left.map λg=>aY (bw K l n ah left g))]=S1 at *;generalize S'.length=N at *;k_is;refine⟨by rw[aM aN];rfl,?_⟩;refine bI left (λg=>aY (bw K l n ah left g)) (λg=>La (λz=>aY (some z)) (bw K l n ah left g)) (by lia) (λg _=>by cases bw K l n ah left g <;> simp[La]) (eD aN) (λi g S2 hg sm=>⟨_,rfl,?_⟩) λS2 s2=>?_
   ·k_is;cases hb:bw K l n ah left g with
    |none=>
     refine aa (show aj .isnot (aY none) .non S2=some (.bl false,S2) from rfl) ?_;k_is;exact⟨rfl,Sm.refl _⟩
    |some z=>
     refine aa (show aj .isnot (aY (some z)) .non S2=some (.bl true,S2) from rfl) ?_;k_is;exact⟨rfl,Sm.refl _⟩
   ·rw[qX];refine aa (K8 _) ?_;rw[<-jJ]
    have k2:Kn K l p (cc+(n+1) * cnt n) S2:=by
     have:=(kn'.kp s1).kp s2
     rwa [ln] at this
    obtain⟨S4,e4,kp4,kn4,ix4⟩:=K9 (ah:=ah) (left:=left) k2 (by lia);rw[ln] at e4 ix4;refine⟨S4,e4,?_⟩;k_is;refine aa ix4 (q S4 ((kp.trans (s1.trans s2).kp).trans kp4) ?_);rw[hcn,<-YG];exact kn4
theorem nk(sk:SkOk K){l:Bool}{j:Nat}:∀n,BB K l p n (2 * n+5+j)
 |0=>by rw[show 2 * 0+5+j=(4+j)+1 by lia];exact A0
 |n+1=>by
  have ih:=nk sk (l:=l) (j:=j) n;rw[show 2 * (n+1)+5+j=(2 * n+j)+7 by lia];exact A6 sk (by rw[show 2 * n+j+5=2 * n+5+j by lia];exact ih)
theorem Lb{n:Nat}:∀i S',Sm S S'->nxR 0 n i S'=some (((Zl n)[i]?).map λ(j:Nat)=>D.int (0+(j:Int))):=λi S' _=>by
 show some (if i < n then some (D.int (0+(i:Int))) else none)=_;split
 ·rename_i h;rw[Yr h];rfl
 ·rename_i h;rw[Zv (by rw[ZC];lia)];rfl
abbrev bZ(K:Sky):List Int:=((Zl K.G.length).filter λ(j:Nat)=>!decide ((j:Int) ∈ K.F)).map λ(j:Nat)=>(j:Int)
theorem E9(V:Vd K)(q:∀S',Sm S S'->Q (.tup ((bZ K).map D.int)) S'):Ok (evC ac (k+1) 19 [skE K] S) Q:=by
 refine ax (d:=fB) (ρ:=[some (skE K)]) rfl rfl ?_;dsimp only[fB,jg];have g7:=V.g7;k_is;refine aa sk2 (aa bA ?_);k_is;refine⟨gR (by lia) (by lia),?_⟩;rw[ZJ];refine bI (Zl K.G.length) (λ(j:Nat)=>D.int (0+(j:Int))) (λ(j:Nat)=>if (!decide ((j:Int) ∈ K.F))=true then [D.int (j:Int)] else []) (by rw[ZC];lia) (λa _=>by split <;> simp) Lb (λi j S' hj sm=>⟨_,rfl,?_⟩) λS1 s1=>?_
 ·k_is;refine aa sk3 ?_;rw[Wg];k_is;refine aa (show aj .notin (.int (j:Int)) (.tup (K.F.map D.int)) S'=some (.bl (true != decide ((j:Int) ∈ K.F)),S') from oG true K.F j S') ?_;rw[show(true != decide ((j:Int) ∈ K.F)) = !decide ((j:Int) ∈ K.F) by cases decide ((j:Int) ∈ K.F) <;> rfl];k_is;cases c:!decide ((j:Int) ∈ K.F) with
  |true=>exact⟨rfl,Sm.refl _⟩
  |false=>exact⟨rfl,Sm.refl _⟩
 ·rw[bP];refine aa (show cX false _ S1=some (.tup _,S1) from rfl) ?_;have:=q S1 s1;unfold bZ at this
  rwa [Z7] at this
theorem A7(V:Vd K)(bd:∀g ∈ K.F,0<=g/\g < K.G.length)(lF:K.F.length<=7)(q1:∀j,rn K K.F K.ah [] = .inl j->∀S',Sm S S'->Q .non S')(q2:∀R,rn K K.F K.ah [] = .inr R->∀n S',Sm S S'->S'[n]?=some (.lst (R.map ae))->S.length<=n->Q (.ref n) S'):Ok (evC ac (k+6) 30 [skE K] S) Q:=by
 refine ax (d:=b7) (ρ:=[some (skE K),none]) rfl rfl ?_;dsimp only[b7,dB];k_is;refine aa sk3 ?_;refine⟨rfl,qP (k:=k) V bd lF λn L S3 s3 hn hN he=>?_⟩;k_is;refine aa (fT hn) (aa sk3 (aa bA ?_));k_is;rw[Za];cases hr:rn K K.F K.ah [] with
 |inl j=>
  have e1:=he.stuck j hr;have e2:=iK K.F _ _ j hr;rw[Z1,Y5] at e2;rw[decide_eq_false (show ¬ (L.length:Int)=K.F.length by lia)];k_is;exact q1 j hr S3 s3
 |inr R=>
  have e1:=he.lands R hr;have e2:=jG K.F _ _ R hr;rw[Z1,Y5] at e2;rw[decide_eq_true (show(L.length:Int)=K.F.length by rw[e1,e2])];k_is;exact q2 R hr n S3 s3 (by rw[<-e1];exact hn) hN
abbrev cT(K:Sky)(l:Bool):Option (Int × List Int):=match rn K K.F K.ah [] with
 |.inl _=>none
 |.inr R=>(bb K l (bZ K).length (aG K R) (bZ K)).map λz=>(R.foldr (λy x=>jnd K l y.1 y.2 x) z.1,K.F++z.2)
theorem Gh:∀ (os:List Int) (a:Option (Int × Int)) (L R:List (Int × Int)),(∀g ∈ os,0<=g/\g < K.G.length)->InG K L->rn K os a L = .inr R->InG K R
 |[],_,L,R,_,hL,e=>by cases e;exact hL
 |g::os,a,L,R,ho,hL,e=>by
  rw[rn] at e;split at e
  ·cases e
  ·rename_i m _;split at e
   ·cases e
   ·exact Gh os _ _ R (λx hx=>ho x (Zf _ hx)) (λz hz=>(ZO.mp hz).elim (hL z) λz'=>by rw[Zy.mp z'];exact ho g Zh) e
theorem Lc:∀n,n < 8->cnt n<=99999:=by decide
theorem uT(sk:SkOk K){ah:Option (Int × Int)}(ha:∀q,ah=some q->0<=q.1/\q.1 < K.M.length):Lf K (bZ K).length ah (bZ K):=by
 refine⟨?_,λg hg=>?_,rfl,?_,ha⟩
 ·unfold bZ;exact YM.mpr ((XY.filter _).imp λh z=>h (Int.ofNat.inj z))
 ·unfold bZ at hg;obtain⟨j,hj,rfl⟩:=ZL.mp hg;have:=ZV.mp (ZW.mp hj).1
  lia
 ·unfold bZ;rw[Za];have:=YR (λ(j:Nat)=>!decide ((j:Int) ∈ K.F)) (Zl K.G.length);rw[ZC] at this;exact this
theorem Kp.new{o:Ob}(h:Ev.Kp S.length (S++[o]) S'):Sm S S':=λi u e=>by
 have hi:=(Zb.mp e).1;exact h i u (by lia) (Sm.app _ _ _ _ e)
theorem Op{n:Nat}{ds:List D}{tg:Tg}{b:XS}{ρ:Rho}{Q:Fl->Rho->Sto->Prop}(hl:ds.length<=100000)(I:Nat->Rho->Sto->Prop)(hI:∀i ρ S',I i ρ S'->S'[n]?=some (.lst ds))
  (step:∀ (i:Nat) d ρ S',ds[i]?=some d->I i ρ S'->∃ρ1,au tg d ρ=some ρ1/\OkS (b ρ1 S') λfl ρ2 S2=>match fl with |.nx=>I (i+1) ρ2 S2 |.ct=>I (i+1) ρ2 S2 |.bk=>Q .nx ρ2 S2 |.rt d=>Q (.rt d) ρ2 S2)
  (q:∀ρ S',I ds.length ρ S'->Q .nx ρ S') (h0:I 0 ρ S):OkS (dI (nxS n) tg b LF 0 ρ S) Q:=by
 refine il ds.length I (by unfold LF;lia) (λi ρ S' hi iv=>?_) (λρ S' iv=>⟨?_,q ρ S' iv⟩) h0
 ·obtain⟨ρ1,e2,z⟩:=step i ds[i] ρ S' (gEG hi) iv;refine⟨ds[i],ρ1,?_,e2,z⟩;show(am S' n).map (λds=>ds[i]?)=_;rw[aM (hI i ρ S' iv),ZA,gEG hi]
 ·show(am S' n).map (λds'=>ds'[ds.length]?)=_;rw[aM (hI _ ρ S' iv),ZA,Zv (Zd _)]
theorem A8(sk:SkOk K){l:Bool}(q:∀S',Sm S S'->Q (aY (cT K l)) S'):Ok (evC ac (k+20) 36 [skE K,bQ l] S) Q:=by
 refine ax (d:=eu) (ρ:=[some (skE K),some (bQ l),none,none,none,none,none,none]) rfl rfl ?_;dsimp only[eu,ig];have V:=sk.vd;have g7:=sk.g7;have lF:=Dw.bj K.G.length K.F sk.nd sk.bd;k_is;unfold cT at q;refine⟨rfl,A7 (k:=k+13) V sk.bd (by lia) (λj hr S1 s1=>?_) (λR hr n S1 s1 hn hN=>?_)⟩
 ·rw[hr] at q;k_is;refine aa (show aj .is .non .non S1=some (.bl true,S1) from rfl) ?_;k_is;exact q S1 s1
 ·rw[hr] at q;k_is;refine aa (show aj .is (.ref n) .non S1=some (.bl false,S1) from rfl) ?_;k_is;have inR:InG K R:=Gh K.F _ [] R sk.bd (λz hz=>by cases hz) hr;refine⟨rfl,qM (k:=k+18) V hn inR ?_⟩;refine⟨rfl,E9 (k:=k+18) V λS2 s2=>?_⟩;k_is;have fl:=uT sk (iq V inR);have fle:=fl.le;have hc:=Lc (bZ K).length (by lia);have kn:Kn K l S2.length 0 (S2++[Ob.dic [] []]):=⟨[],[],aI,⟨rfl,λ_ _ _ h=>by cases h⟩,Zd _⟩;have bo:=nk (p:=S2.length) sk (l:=l) (j:=k+14 - 2 * (bZ K).length) (bZ K).length;rw[show 2 * (bZ K).length+5+(k+14 - 2 * (bZ K).length)=k+19 by lia] at bo;refine⟨rfl,bo _ _ _ 0 _ fl kn (by lia) λS3 k3 kn3=>?_⟩;have s3:=(s1.trans s2).trans (Kp.new k3);have hn3:=(Kp.new k3) _ _ (s2 _ _ hn);dsimp only at q;cases hb:bb K l (bZ K).length (aG K R) (bZ K) with
  |none=>
   rw[hb] at q;rw[show aY none = .non from rfl];k_is;refine aa (show aj .is .non .non S3=some (.bl true,S3) from rfl) ?_;k_is;exact q S3 s3
  |some z=>
   rw[hb] at q;rw[show aY (some z) = .tup [.int z.1,.tup (z.2.map D.int)] from rfl];k_is;refine aa (show aj .is (.tup [.int z.1,.tup (z.2.map D.int)]) .non S3=some (.bl false,S3) from rfl) ?_;k_is;refine aa (show pZ (.ref n) S3=some (.ref S3.length,S3++[Ob.lst (R.map ae).reverse]) by simp only[pZ,aM hn3]) ?_;have a4:(S3++[Ob.lst (R.map ae).reverse])[S3.length]?=some (.lst (R.map ae).reverse):=aI;have s4:=s3.trans (Sm.app S3 [Ob.lst (R.map ae).reverse]);generalize S3++[Ob.lst (R.map ae).reverse]=S4 at *;generalize S3.length=N at *;have lR:=jG K.F _ _ R hr;rw[Z1,Y5] at lR;k_is;refine⟨by rw[aM a4];rfl,?_⟩;refine Op (ds:=(R.map ae).reverse) (by rw[ZU,Za];lia) (λi ρ S'=>S'=S4/\∃u v,ρ=[some (skE K),some (bQ l),some (.ref n),some (.tup [.int z.1,.tup (z.2.map D.int)]),some (.int ((R.reverse.take i).foldl (λx y=>jnd K l y.1 y.2 x) z.1)),some (.tup (z.2.map D.int)),u,v]) (λi ρ S' iv=>by rw[iv.1];exact a4) (λi d ρ S' hd iv=>?_) (λρ S' iv=>?_) ⟨rfl,_,_,rfl⟩
   ·obtain⟨rfl,u,v,rfl⟩:=iv;rw[<-XZ] at hd;obtain⟨y,hy,rfl⟩:=lj hd;have hyR:=inR y (X0.mp (Zi hy));obtain⟨a,b,c,d,e,f,h,eg,e0,e4,e5,f0,f1,a0,a1⟩:=gl9 sk hyR.1 hyR.2;refine⟨_,show au (.tup [.name 6,.name 7]) (.tup [.int y.1,.int y.2]) _=_ from dg (by simp) (by simp),?_⟩;k_is;refine aa sk2 (aa (cJ hyR.1 eg) ?_);refine⟨rfl,nj (k:=k+17) l e4 e5 f0 f1 ?_⟩;k_is
    have e:(R.reverse.take (i+1)).foldl (λx y=>jnd K l y.1 y.2 x) z.1=jnd K l y.1 y.2 ((R.reverse.take i).foldl (λx y=>jnd K l y.1 y.2 x) z.1):=by
     rw[List.take_succ,hy,YN];rfl
    rw[e];exact⟨rfl,_,_,rfl⟩
   ·obtain⟨rfl,u,v,rfl⟩:=iv;rw[ZU,Za,<-ZU (as:=R),YV,List.foldl_reverse];k_is;refine aa sk3 ?_;k_is;have lz:=oU _ _ _ z hb;refine⟨by rw[Za,Za];lia,?_⟩;have:=q _ s4;dsimp only[ZA,aY] at this
    rwa [ZD] at this
theorem Lg(q:Q (match (o:Option (Int × List Int)) with |none=>D.non |some z=>.tup [.str "order", .int z.1,.tup (z.2.map D.int)]) S):Ok (evC ac (k+1) 35 [aY o] S) Q:=by
 refine ax (d:=sP) (ρ:=[some (aY o),none,none]) rfl rfl ?_;dsimp only[sP,zT];cases o with
 |none=>
  rw[show aY none = .non from rfl];k_is;refine aa (show aj .is .non .non S=some (.bl true,S) from rfl) ?_;k_is;exact q
 |some z=>
  rw[show aY (some z) = .tup [.int z.1,.tup (z.2.map D.int)] from rfl];k_is;refine aa (show aj .is (.tup [.int z.1,.tup (z.2.map D.int)]) .non S=some (.bl false,S) from rfl) ?_;k_is;exact q
abbrev A9:Option (Int × List Int)->D
 |none=>.non
 |some z=>.tup [.str "order", .int z.1,.tup (z.2.map D.int)]
theorem qY(sk:SkOk K)(l:Bool)(q:∀S',Sm S S'->Q (A9 (cT K l)) S'):Ok (evC ac (k+21) (if l=true then 33 else 34) [skE K] S) Q:=by
 have fin:∀S1,Sm S S1->Ok (evC ac (k+20) 36 [skE K,bQ l] S1) λd S2=>Ok (evC ac (k+20) 35 [d] S2) Q:=λS1 s1=>A8 (k:=k) sk λS2 s2=>Lg (k:=k+19) (by
  have:=q S2 (s1.trans s2);cases h:cT K l with
  |none=>rw[h] at this;exact this
  | some z=>rw[h] at this;exact this)
 cases l with
 |true=>
  rw[if_pos rfl];refine ax (d:=dZ) (ρ:=[some (skE K)]) rfl rfl ?_;dsimp only[dZ,ic];k_is;refine⟨rfl,qU (k:=k+12) sk λS1 s1=>?_⟩;k_is;refine⟨rfl,(fin S1 s1).mono λd S2 h=>⟨rfl,h⟩⟩
 |false=>
  rw[if_neg (by decide)];refine ax (d:=ei) (ρ:=[some (skE K)]) rfl rfl ?_;dsimp only[ei,ie];k_is;refine⟨rfl,qU (k:=k+12) sk λS1 s1=>?_⟩;k_is;refine⟨rfl,(fin S1 s1).mono λd S2 h=>⟨rfl,h⟩⟩
end Lw
namespace Sn
open Ev PySem Lw
abbrev eT(f:Option (Int × List Int))(z:Int × List Int):Option (Int × List Int):=match f with
 |none=>some z
 |some y=>if z.1 < y.1 then some z else some y
abbrev qZ(ws:List (Int × List Int)):Option (Int × List Int):=ws.foldl (λf z=>eT f z) none
theorem iY{ws:List (Int × List Int)}{x:Int × List Int}:qZ (ws++[x])=eT (qZ ws) x:=by
 unfold qZ;rw[YN];rfl
def Asc(ws:List (Int × List Int)):Prop:=∀ (i j:Nat) x y,i < j->ws[i]?=some x->ws[j]?=some y->HT.bX y.2 x.2=false
theorem w9(ws:List (Int × List Int))(h:Asc ws):lp ws=qZ ws:=by
 have main:∀ (m:Nat),m < ws.length->ws[argBest (bz ws) m]?=qZ (ws.take (m+1))/\argBest (bz ws) m<=m:=by
  intro m
  induction m with
  |zero=>
   intro hm;refine⟨?_,Zd _⟩;show ws[0]?=_;rw[ZT hm,X8,Xk,gEG hm];rfl
  |succ m ih=>
   intro hm;obtain⟨i1,i2⟩:=ih (by lia);have hb:argBest (bz ws) m < ws.length:=by lia
   have eb:=gEG hb;rw[eb] at i1;rw[ZT hm,iY,<-i1]
   have key:bz ws (m+1) (argBest (bz ws) m)=decide ((ws[m+1]).1 < (ws[argBest (bz ws) m]).1):=by
    rw[show ∀i j,bz ws i j=fj (ws.getD i (0,[])) (ws.getD j (0,[])) fromλ_ _=>rfl];rw[ZF,ZF,gEG hm,eb];show fj _ _=_;unfold fj;split
    ·rename_i e;have:=h _ _ _ _ (show argBest (bz ws) m < m+1 by lia) eb (gEG hm);show HT.bX (ws[m+1]).2 (ws[argBest (bz ws) m]).2=_;rw[this,decide_eq_false (by have e:(ws[m+1]).1=(ws[argBest (bz ws) m]).1:=e;lia)]
    ·rfl
   show ws[if bz ws (m+1) (argBest (bz ws) m)=true then m+1 else argBest (bz ws) m]?=_/\(if bz ws (m+1) (argBest (bz ws) m)=true then m+1 else argBest (bz ws) m)<=m+1;rw[key];unfold eT;dsimp only;by_cases c:(ws[m+1]).1 < (ws[argBest (bz ws) m]).1
   ·rw[if_pos (decide_eq_true c),if_pos c];exact⟨gEG hm,Zd _⟩
   ·rw[if_neg (by rw[decide_eq_false c];decide),if_neg c];exact⟨eb,by lia⟩
 unfold lp;cases hz:ws with
 |nil=>rfl
 |cons a l=>
  rw[<-hz];have hl:0 < ws.length:=by rw[hz];simp
  have:=(main (ws.length - 1) (by lia)).1;rw[show ws.length - 1+1=ws.length by lia,YV] at this;exact this
theorem oX{α:Type}{P:List α->Prop}(h0:P [])(h1:∀l x,P l->P (l++[x]))(l:List α):P l:=by
 rw[<-List.reverse_reverse l]
 induction l.reverse with
 |nil=>exact h0
 |cons a l ih=>rw[Z5];exact h1 _ _ ih
theorem Ba:∀ (ws:List (Int × List Int)) (z:Int × List Int),qZ ws=some z->z ∈ ws:=by
 refine oX (λz e=>by cases e) λws y ih2 z e=>?_;rw[iY] at e;unfold eT at e;split at e
 ·cases e;simp
 ·rename_i y' hy;split at e
  ·cases e;simp
  ·cases e;exact ZR _ (ih2 _ hy)
theorem xa{w:Int->Int}{os:List Int}(f:Option (Int × List Int)):∀ (ws:List (Int × List Int)),(∀x ∈ ws,∀y ∈ ws,w x.1 < w y.1 ↔ x.1 < y.1) ->
  ws.foldl (λf z=>eT f (w z.1,os++z.2)) f=match qZ ws with |none=>f |some z=>eT f (w z.1,os++z.2):=by
 refine oX (λ_=>rfl) λws x ih h=>?_
 ·have mem:=Ba ws;rw[YN,ih (λa ha b hb=>h a (ZR _ ha) b (ZR _ hb)),iY];show eT _ _=_;cases hp:qZ ws with
  |none=>rfl
  |some b=>
   have hb:=mem b hp;have hx:x ∈ ws++[x]:=by simp
   have hb':b ∈ ws++[x]:=ZR _ hb;have i1:=h x hx b hb';have i2:=h b hb' x hx;unfold eT;dsimp only;cases f with
   |none=>
    dsimp only;by_cases c:x.1 < b.1
    ·rw[if_pos c,if_pos (i1.mpr c)]
    ·rw[if_neg c,if_neg (λz=>c (i1.mp z))]
   |some y=>
    dsimp only;by_cases c:x.1 < b.1
    ·rw[if_pos c];have:=i1.mpr c;dsimp only;by_cases d:w b.1 < y.1
     ·rw[if_pos d];dsimp only;rw[if_pos this,if_pos (by lia)]
     ·rw[if_neg d]
    ·rw[if_neg c];have nn:¬ w x.1 < w b.1:=λz=>c (i1.mp z);dsimp only;by_cases d:w b.1 < y.1
     ·rw[if_pos d];dsimp only;rw[if_neg nn]
     ·rw[if_neg d];dsimp only;rw[if_neg (by lia)]
abbrev lft(K:Sky)(os:List Int):List Int:=((Zl K.G.length).map λ(j:Nat)=>(j:Int)).filter λg=>!decide (g ∈ os)
abbrev W(K:Sky)(l:Bool)(L:List (Int × Int))(x:Int):Int:=L.foldr (λy x=>jnd K l y.1 y.2 x) x
abbrev vis(K:Sky)(l:Bool):Nat->List Int->List (Int × Int)->Option (Int × List Int)->Option (Int × List Int)
 |0,os,L,f=>eT f (W K l L 0,os)
 | n+1,os,L,f=>(lft K os).foldl (λf g=>match step K (aG K L) g os.length with
  |none=>f
  | some m=>vis K l n (os++[g]) (L++[(g,m)]) f) f
structure Nd(K:Sky)(os:List Int)(L:List (Int × Int)):Prop where
 fs:L.map (·.1)=os
 nd:os.Nodup
 bd:∀g ∈ os,0<=g/\g < K.G.length
 nn:∀y ∈ L,0<=y.2
 up:∀y ∈ L,∀z,L.getLast?=some z->y.2<=z.2
theorem uU(K:Sky)(os:List Int):(lft K os).Pairwise (· < ·):=by
 refine List.Pairwise.filter _ (YM.mpr ((List.pairwise_lt_range (n:=K.G.length)).imp λh=>?_))
 lia
theorem OA{K:Sky}{os:List Int}{g:Int}:g ∈ lft K os ↔ (0<=g/\g < K.G.length)/\g ∉ os:=by
 unfold lft;rw[ZW,ZL];constructor
 ·rintro⟨⟨j,hj,rfl⟩,h2⟩;have:=ZV.mp hj;exact⟨by lia,by simpa using h2⟩
 ·rintro⟨h1,h2⟩;exact⟨⟨g.toNat,ZV.mpr (by lia),by lia⟩,by simpa using h2⟩
theorem q8(K:Sky)(os:List Int)(g:Int):lft K (os++[g])=rst (lft K os) g:=by
 unfold lft rst;rw[List.filter_filter];refine List.filter_congr λx _=>?_;simp[Bool.and_comm]
theorem Lh{K:Sky}{l:Bool}{L:List (Int × Int)}{y:Int × Int}{x:Int}:W K l (L++[y]) x=W K l L (jnd K l y.1 y.2 x):=by unfold W;rw[List.foldr_append];rfl
theorem tD{K:Sky}:∀ (L:List (Int × Int)) (x:Int),W K false L x=W K false L 0+x
 |[],x=>by show x=0+x;lia
 |y::L,x=>by
  have:=tD (K:=K) L x;show cst K y.1 y.2+W K false L x=cst K y.1 y.2+W K false L 0+x
  lia
theorem Bb{K:Sky}{x:Int}:∀ (L:List (Int × Int)),(∀y ∈ L,y.2<=x)->W K true L x=x
 |[],_=>rfl
 |y::L,h=>by
  have ih:=Bb (K:=K) L λz hz=>h z (Zf _ hz);have:=h y Zh;show(if W K true L x > y.2 then W K true L x else y.2)=x;rw[ih];split <;> lia
theorem Li{K:Sky}{g m x:Int}:m<=jnd K true g m x:=by
 show m<=if x > m then x else m
 split <;> lia
theorem tF:∀ (H:List (Int × Int)) (m:Int),m<=opm H m
 |[],m=>ZP _
 |q::H,m=>by
  rw[opm];refine Xi ?_ (tF H _);split
  ·rename_i h;lia
  ·exact ZP _
theorem Oq{K:Sky}(sk:SkOk K)(a b:Int):0<=gp K a b:=by
 unfold gp Dw.mg2;cases h1:K.M[a.toNat]? with
 |none=>simp
 |some r=>
  cases h2:r[b.toNat]? with
  |none=>simp[h2]
  |some x=>
   have:=sk.me.mat.ent r (Zi h1) x (Zi h2);simp[h2]
   lia
theorem uV{K:Sky}(sk:SkOk K){os:List Int}{L:List (Int × Int)}{g m:Int}{pl:Nat}(nd:Nd K os L)(g0:0<=g)(g1:g < K.G.length)(h:step K (aG K L) g pl=some m):0<=m/\∀y ∈ L,y.2<=m:=by
 have V:=sk.vd;obtain⟨a,b,c,d,e,f,r,eg,e0,e1,e2,e3,e6,a0,a1,c0⟩:=gl7 V g0 g1
 have hm:m=opm K.H (bc K (aG K L) g):=by
  unfold step at h;split at h
  ·cases h
  ·cases h;rfl
 have ge:=tF K.H (bc K (aG K L) g)
 have f0:gi K.G g 2<=bc K (aG K L) g:=by
  unfold bc;split
  ·exact ZP _
  ·split
   ·lia
   ·exact ZP _
 refine⟨by lia,λy hy=>?_⟩;cases hl:L.getLast? with
 |none=>rw[List.getLast?_eq_none_iff.mp hl] at hy;cases hy
 |some z=>
  have h1:=nd.up y hy z hl
  have h2:z.2<=bc K (aG K L) g:=by
   have e:aG K L=some (gi K.G z.1 0,z.2):=by unfold aG;rw[hl]
   rw[e];have:=Oq sk (gi K.G z.1 0) (gi K.G g 0);show z.2<=if z.2+gp K (gi K.G z.1 0) (gi K.G g 0) > gi K.G g 2 then z.2+gp K (gi K.G z.1 0) (gi K.G g 0) else gi K.G g 2
   split <;> lia
  lia
theorem Nd.snoc{K:Sky}(sk:SkOk K){os:List Int}{L:List (Int × Int)}{g m:Int}{pl:Nat}(nd:Nd K os L)(hg:g ∈ lft K os)(h:step K (aG K L) g pl=some m):Nd K (os++[g]) (L++[(g,m)]):=by
 obtain⟨hb,hn⟩:=OA.mp hg;obtain⟨m0,mu⟩:=uV sk nd hb.1 hb.2 h;refine⟨by rw[ZD,nd.fs];rfl,YB.mpr ⟨nd.nd,by simp,λx hx y hy z=>by rw[Zy.mp hy] at z;exact hn (z ▸ hx)⟩,λx hx=>?_,λy hy=>?_,λy hy z hz=>?_⟩
 ·rcases ZO.mp hx with hx |hx
  ·exact nd.bd x hx
  ·rw[Zy.mp hx];exact hb
 ·rcases ZO.mp hy with hy |hy
  ·exact nd.nn y hy
  ·rw[Zy.mp hy];exact m0
 ·rw[YX] at hz;have:z=(g,m):=by simpa using hz.symm
  subst this;rcases ZO.mp hy with hy |hy
  ·exact mu y hy
  ·rw[Zy.mp hy];exact ZP _
theorem uW{α:Type}{F:Option (Int × List Int)->α->Option (Int × List Int)}{G:Option (Int × List Int)->(Int × List Int)->Option (Int × List Int)}{w:α->Option (Int × List Int)}:∀ (l:List α) (f:Option (Int × List Int)),(∀g ∈ l,∀f,F f g=match w g with |none=>f |some z=>G f z)->l.foldl F f=(l.filterMap w).foldl G f
 |[],_,_=>rfl
 |a::l,f,h=>by
  rw[Y0,h a Zh f,uW l _ λg hg=>h g (Zf _ hg),Yg];cases w a <;> rfl
theorem Bc{K:Sky}{l:Bool}{n:Nat}{ah:Option (Int × Int)}{left:List Int}:∀ (m:List Int),m.Pairwise (· < ·)->Asc (m.filterMap (bw K l n ah left)):=by
 intro m hm i j x y hij hx hy
 have pw:(m.filterMap (bw K l n ah left)).Pairwise λx y=>HT.bX y.2 x.2=false:=by
  refine List.pairwise_filterMap.mpr (hm.imp λ{a b} hab x hx y hy=>?_)
  have hd:∀ (g:Int) (z:Int × List Int),bw K l n ah left g=some z->∃r,z.2=g::r:=λg z e=>by
   unfold bw at e;split at e
   ·cases e
   ·obtain⟨u,_,rfl⟩:=ZK.mp e;exact⟨_,rfl⟩
  obtain⟨r1,e1⟩:=hd a x hx;obtain⟨r2,e2⟩:=hd b y hy;rw[e1,e2,HT.gm,if_neg (by lia),decide_eq_false (by lia)]
 have hi:=(Zb.mp hx);have hj:=(Zb.mp hy);have:=List.pairwise_iff_getElem.mp pw i j hi.1 hj.1 hij
 rwa [hi.2,hj.2] at this
theorem Be{K:Sky}(sk:SkOk K){l:Bool}:∀ (n:Nat) (os:List Int) (L:List (Int × Int)) (f:Option (Int × List Int)),Nd K os L->os.length+n=K.G.length->vis K l n os L f=match bb K l n (aG K L) (lft K os) with |none=>f |some z=>eT f (W K l L z.1,os++z.2)
 |0,os,L,f,nd,hn=>by
  show eT f (W K l L 0,os)=eT f (W K l L 0,os++[]);rw[Z9]
 |n+1,os,L,f,nd,hn=>by
  have pl:K.G.length - (n+1)=os.length:=by lia
  rw[vis,uW (w:=bw K l n (aG K L) (lft K os)) (G:=λf z=>eT f (W K l L z.1,os++z.2)),xa,jJ,w9 _ (Bc _ (uU K os))]
  ·intro x hx y hy;cases l with
   |false=>rw[tD L x.1,tD L y.1];lia
   |true=>
    have ge:∀z ∈ (lft K os).filterMap (bw K true n (aG K L) (lft K os)),W K true L z.1=z.1:=λz hz=>by
     obtain⟨g,hg,e⟩:=Yl.mp hz;obtain⟨hb,_⟩:=OA.mp hg;unfold bw at e;split at e
     ·cases e
     ·rename_i m hs;obtain⟨u,_,rfl⟩:=ZK.mp e;have mu:=(uV sk nd hb.1 hb.2 hs).2;exact Bb L λy hy=>Xi (mu y hy) (Li (K:=K) (g:=g))
    rw[ge x hx,ge y hy]
  ·intro g hg f;unfold bw;rw[pl];cases hs:step K (aG K L) g os.length with
   |none=>rfl
   |some m=>
    dsimp only;rw[Be sk n (os++[g]) (L++[(g,m)]) f (nd.snoc sk hg hs) (by rw[Zg,Zm];lia),cK,q8];cases bb K l n (some (gi K.G g 0,m)) (rst (lft K os) g) with
    |none=>rfl
    |some z=>
     show eT f (W K l (L++[(g,m)]) z.1,os++[g]++z.2)=eT f (W K l L (jnd K l g m z.1),os++g::z.2);rw[Lh,Z4];rfl
abbrev chl(K:Sky)(os:List Int)(L:List (Int × Int))(gs:List Int):List (List Int × List (Int × Int)):=gs.filterMap λg=>if decide (g ∈ os)=true then none else (step K (aG K L) g os.length).map λm=>(os++[g],L++[(g,m)])
abbrev run(K:Sky)(l:Bool)(T:List (List Int × List (Int × Int)))(f:Option (Int × List Int)):Option (Int × List Int):=T.foldl (λf z=>vis K l (K.G.length - z.1.length) z.1 z.2 f) f
abbrev cM(K:Sky):List Int:=(Zl K.G.length).map λ(j:Nat)=>(j:Int)
theorem lu{K:Sky}{os:List Int}{L:List (Int × Int)}{g:Int}{gs:List Int}:chl K os L (g::gs)=(if decide (g ∈ os)=true then [] else match step K (aG K L) g os.length with |none=>[] |some m=>[(os++[g],L++[(g,m)])])++chl K os L gs:=by
 unfold chl;rw[Yg];cases decide (g ∈ os) with
 |true=>rfl
 |false=>cases step K (aG K L) g os.length <;> rfl
theorem lv{K:Sky}{l:Bool}{os:List Int}{L:List (Int × Int)}{n:Nat}(h:K.G.length - (os.length+1)=n):∀ (gs:List Int) (f:Option (Int × List Int)),run K l (chl K os L gs) f=(gs.filter λg=>!decide (g ∈ os)).foldl (λf g=>match step K (aG K L) g os.length with
  |none=>f
  | some m=>vis K l n (os++[g]) (L++[(g,m)]) f) f
 |[],_=>rfl
 |g::gs,f=>by
  rw[lu,YD];cases decide (g ∈ os) with
  |true=>exact lv h gs f
  |false=>
   have ih:=lv (L:=L) (l:=l) h gs;rw[if_neg (by decide),if_pos (by decide),Y0];cases step K (aG K L) g os.length with
   |none=>exact ih f
   |some m=>
    dsimp only;rw[<-ih,<-h];show run K l _ (vis K l (K.G.length - (os++[g]).length) (os++[g]) (L++[(g,m)]) f)=_;rw[Zg,Zm];rfl
theorem eI{K:Sky}:∀ (os:List Int),os.Nodup->(∀g ∈ os,0<=g/\g < K.G.length)->(lft K os).length+os.length=K.G.length:=by
 refine oX (λ_ _=>?_) λos g ih nd bd=>?_
 ·unfold lft;rw[Xz.mpr (λx _=>by simp),Za,ZC];rfl
 ·obtain⟨n1,n2,n3⟩:=YB.mp nd;have h:=ih n1 λx hx=>bd x (ZR _ hx);have hg:g ∈ lft K os:=OA.mpr ⟨bd g (by simp),λhx=>n3 g hx g (by simp) rfl⟩;have nl:(lft K os).Nodup:=(uU K os).imp λ{a b} h=>by lia
  have:=oW nl hg;rw[q8,Zg,Zm]
  lia
theorem uX{K:Sky}{os:List Int}{L:List (Int × Int)}(nd:Nd K os L)(h:os.length=K.G.length):chl K os L (cM K)=[]:=by
 have hl:=eI os nd.nd nd.bd;have e:lft K os=[]:=List.eq_nil_of_length_eq_zero (by lia);unfold chl;rw[List.filterMap_eq_nil_iff];intro g hg
 have:g ∈ os:=by
  refine Classical.byContradiction λz=>?_;obtain⟨j,hj,rfl⟩:=ZL.mp hg;have hj:=ZV.mp hj;have:(j:Int) ∈ lft K os:=OA.mpr ⟨by lia,z⟩;rw[e] at this;cases this
 rw[if_pos (decide_eq_true this)]
theorem Fa{K:Sky}{l:Bool}{os:List Int}{L:List (Int × Int)}{f:Option (Int × List Int)}(nd:Nd K os L):vis K l (K.G.length - os.length) os L f=run K l (chl K os L (cM K)) (if os.length=K.G.length then eT f (W K l L 0,os) else f):=by
 have hl:=eI os nd.nd nd.bd;by_cases h:os.length=K.G.length
 ·rw[if_pos h,uX nd h,h,ZZ];rfl
 ·rw[if_neg h];obtain⟨n,hn⟩:∃n,K.G.length - os.length=n+1:=⟨K.G.length - os.length - 1,by lia⟩;rw[lv (n:=n) (by lia),hn];rfl
theorem Fb{K:Sky}(sk:SkOk K){os:List Int}{L:List (Int × Int)}(nd:Nd K os L):∀z ∈ chl K os L (cM K),Nd K z.1 z.2/\z.1.length=os.length+1:=λz hz=>by
 obtain⟨g,hg,e⟩:=Yl.mp hz;split at e
 ·cases e
 ·rename_i c;obtain⟨m,hs,rfl⟩:=ZK.mp e;obtain⟨j,hj,rfl⟩:=ZL.mp hg;have hj:=ZV.mp hj;exact⟨nd.snoc sk (OA.mpr ⟨by lia,λz=>c (decide_eq_true z)⟩) hs,by rw[Zg,Zm]⟩
abbrev sz:Nat->Nat
 |0=>1
 |n+1=>1+(n+1) * sz n
abbrev mu(K:Sky):List (List Int × List (Int × Int))->Nat
 |[]=>0
 |z::T=>sz (K.G.length - z.1.length)+mu K T
theorem Bf{K:Sky}:∀ (A B:List (List Int × List (Int × Int))),mu K (A++B)=mu K A+mu K B
 |[],B=>by show mu K B=0+mu K B;lia
 |z::A,B=>by
  have:=Bf (K:=K) A B;show sz _+mu K (A++B)=sz _+mu K A+mu K B
  lia
theorem uY{K:Sky}{n:Nat}:∀ (T:List (List Int × List (Int × Int))),(∀z ∈ T,K.G.length - z.1.length=n)->mu K T=T.length * sz n
 |[],_=>(Wf _).symm
 |z::T,h=>by
  have:=uY T λy hy=>h y (Zf _ hy);rw[mu,h z Zh,this,Zr,Y3];lia
theorem oY{K:Sky}{os:List Int}{L:List (Int × Int)}:∀ (gs:List Int),(chl K os L gs).length<=(gs.filter λg=>!decide (g ∈ os)).length
 |[]=>Zd _
 |g::gs=>by
  have ih:=oY (K:=K) (os:=os) (L:=L) gs;rw[lu,YD];cases decide (g ∈ os) with
  |true=>exact ih
  |false=>
   rw[if_neg (by decide),if_pos (by decide),Zg,Zr];split
   ·show 0+_<=_;lia
   ·show 1+_<=_;lia
theorem Lj{K:Sky}(sk:SkOk K){os:List Int}{L:List (Int × Int)}(nd:Nd K os L):mu K (chl K os L (cM K)) < sz (K.G.length - os.length):=by
 have hl:=eI os nd.nd nd.bd;by_cases h:os.length=K.G.length
 ·rw[uX nd h,h,ZZ];exact Nat.zero_lt_one
 ·obtain⟨n,hn⟩:∃n,K.G.length - os.length=n+1:=⟨K.G.length - os.length - 1,by lia⟩;rw[uY (n:=n) _ λz hz=>by have:=(Fb sk nd z hz).2;lia,hn,sz];have h1:(chl K os L (cM K)).length<=(lft K os).length:=oY (K:=K) (os:=os) (L:=L) (cM K);have:(chl K os L (cM K)).length * sz n<=(n+1) * sz n:=YY _ (by lia)
  lia
theorem Gi{K:Sky}(sk:SkOk K):∀ (bs:List Int) (a:Option (Int × Int)) (os:List Int) (L R:List (Int × Int)),Nd K os L->(os++bs).Nodup->(∀g ∈ bs,0<=g/\g < K.G.length)->a=aG K L->rn K bs a L = .inr R->Nd K (os++bs) R
 |[],_,os,L,R,nd,_,_,_,e=>by cases e;rw[Z9];exact nd
 |g::bs,a,os,L,R,nd,n2,bd,ea,e=>by
  rw[rn] at e;split at e
  ·cases e
  ·rename_i m hs;split at e
   ·cases e
   ·rw[ea] at hs;have hg:g ∈ lft K os:=OA.mpr ⟨bd g Zh,λz=>(YB.mp n2).2.2 g z g Zh rfl⟩;have:=Gi sk bs _ (os++[g]) _ R (nd.snoc sk hg hs) (by rw[Z4];exact n2) (λx hx=>bd x (Zf _ hx)) cK.symm e
    rwa [Z4] at this
theorem Lk{K:Sky}:Nd K [] []:=⟨rfl,Xr,λ_ h=>(by cases h),λ_ h=>(by cases h),λ_ h=>(by cases h)⟩
theorem Bg{K:Sky}(sk:SkOk K){R:List (Int × Int)}(h:rn K K.F K.ah [] = .inr R):Nd K K.F R:=Gi sk K.F K.ah [] [] R Lk sk.nd sk.bd rfl h
theorem Bh(K:Sky):bZ K=lft K K.F:=by
 unfold bZ lft;rw[List.filter_map];rfl
theorem Bi{K:Sky}(sk:SkOk K)(l:Bool):cT K l=match rn K K.F K.ah [] with |.inl _=>none |.inr R=>run K l [(K.F,R)] none:=by
 unfold cT;cases hr:rn K K.F K.ah [] with
 |inl j=>rfl
 |inr R=>
  have nd:=Bg sk hr;have hl:=eI K.F sk.nd sk.bd;dsimp only;show _=vis K l (K.G.length - K.F.length) K.F R none;rw[Be sk _ _ _ _ nd (by lia),Bh,show(lft K K.F).length=K.G.length - K.F.length by lia];cases bb K l (K.G.length - K.F.length) (aG K R) (lft K K.F) <;> rfl
theorem Gj{K:Sky}:∀ (L:List (Int × Int)),(∀y ∈ L,0<=y.2)->0<=W K true L 0/\(∀y ∈ L,y.2<=W K true L 0)/\(L=[]\/W K true L 0 ∈ L.map (·.2))
 |[],_=>⟨ZP _,λ_ h=>(by cases h),.inl rfl⟩
 |y::L,h=>by
  obtain⟨i1,i2,i3⟩:=Gj (K:=K) L λz hz=>h z (Zf _ hz);have h0:=h y Zh;have e:W K true (y::L) 0=if W K true L 0 > y.2 then W K true L 0 else y.2:=rfl
  rw[e];refine⟨by split <;> lia,λz hz=>?_,.inr ?_⟩
  ·rcases Zn.mp hz with rfl |hz
   ·split <;> lia
   ·have:=i2 z hz;split <;> lia
  ·rw[Zz];split
   ·rename_i c;rcases i3 with rfl |i3
    ·have c:(0:Int) > y.2:=c;lia
    ·exact Zf _ i3
   ·exact Zh
theorem Ll{K:Sky}(L:List (Int × Int))(h:∀y ∈ L,0<=y.2):qc 0 (L.map (·.2))=W K true L 0:=by
 obtain⟨i1,i2,i3⟩:=Gj (K:=K) L h;cases L with
 |nil=>rfl
 |cons y L=>
  have ne:(y::L).map (·.2) ≠ []:=by simp
  rw[qJ ne];rcases i3 with i3 |i3
  ·cases i3
  ·refine X5 ?_ (AC i3);obtain⟨z,hz,e⟩:=ZL.mp (uL ne);rw[<-e];exact i2 z hz
theorem Gk{K:Sky}:∀ (L:List (Int × Int)),(L.map λy=>cst K y.1 y.2).sum=W K false L 0
 |[]=>rfl
 |y::L=>by
  rw[Zz,List.sum_cons,Gk L];rfl
end Sn
namespace Ev
open PySem L2
theorem ra{c:XT}{b:XS}{Q:Fl->Rho->Sto->Prop}(I:Nat->Rho->Sto->Prop)(step:∀n ρ S,I n ρ S->Ok (c ρ S) λt S1=>if t=true then OkS (b ρ S1) λfl ρ2 S2=>(match fl with |.nx=>∃m,m < n/\I m ρ2 S2 |.ct=>∃m,m < n/\I m ρ2 S2 |.bk=>Q .nx ρ2 S2 |.rt d=>Q (.rt d) ρ2 S2) else Q .nx ρ S1) :
  ∀ (k n:Nat) (ρ:Rho) (S:Sto),n < k->I n ρ S->OkS (bB c b k ρ S) Q
 |0,n,ρ,S,h,_=>absurd h (X6 _)
 |k+1,n,ρ,S,h,i=>by
  obtain⟨t,S1,e,q⟩:=step n ρ S i;cases t with
  |false=>rw[if_neg Ze] at q;exact⟨.nx,ρ,S1,by simp only[bB,e],q⟩
  |true=>
   rw[if_pos rfl] at q;obtain⟨fl,ρ2,S2,e2,q⟩:=q;have go:(∃m,m < n/\I m ρ2 S2)->OkS (bB c b k ρ2 S2) Q:=λ⟨m,hm,i2⟩=>ra I step k m ρ2 S2 (by lia) i2;cases fl with
   |nx=>
    obtain⟨fl,ρ3,S3,e3,q3⟩:=go q;exact⟨fl,ρ3,S3,by simp only[bB,e,e2];exact e3,q3⟩
   |ct=>
    obtain⟨fl,ρ3,S3,e3,q3⟩:=go q;exact⟨fl,ρ3,S3,by simp only[bB,e,e2];exact e3,q3⟩
   |bk=>exact⟨.nx,ρ2,S2,by simp only[bB,e,e2],q⟩
   |rt d=>exact⟨.rt d,ρ2,S2,by simp only[bB,e,e2],q⟩
end Ev
namespace Lw
open PySem Ev Sn L2
variable {p:Nat} {S S':Sto} {k:Nat} {Q:D->Sto->Prop} {K:Sky}
theorem Bj{xs:List Int}:lX false (xs.map D.int) S=some (.int xs.sum,S):=by unfold lX;rw[eF]
theorem xc{c:Int}{xs:List Int}:eM c false (xs.map D.int) S=some (.int (qc c xs),S):=by unfold eM;rw[eF]
theorem Bk{os:List Int}{L:List (Int × Int)}(nd:Nd K os L):InG K L:=λz hz=>nd.bd z.1 (nd.fs ▸ ZL.mpr ⟨z,hz,rfl⟩)
theorem Bl(sk:SkOk K){os:List Int}{L:List (Int × Int)}{n:Nat}{l:Bool}(nd:Nd K os L)(lo:os.length<=7)(hn:S[n]?=some (.lst (L.map ae)))(q:∀S',Sm S S'->Q (.int (W K l L 0)) S'):Ok (evC ac (k+1) 51 [skE K,.ref n,bQ l] S) Q:=by
 refine ax (d:=fF) (ρ:=[some (skE K),some (.ref n),some (bQ l)]) rfl rfl ?_;dsimp only[fF,jk];have lL:L.length<=1000:=by have:=congrArg Zj nd.fs;rw[Za] at this;lia
 cases l with
 |true=>
  k_is;refine aa (show aj .eq (bQ true) (.str "last") S=some (.bl true,S) from rfl) ?_;k_is;refine⟨by rw[aM hn];rfl,?_⟩;refine bI L ae (λz=>[.int z.2]) lL (λ_ _=>Zd _) (eD hn) (λi z S' hz sm=>⟨_,show au (.tup [.name 3,.name 4]) (.tup [.int z.1,.int z.2]) _=_ from dg (by simp) (by simp),?_⟩) λS2 s2=>?_
  ·k_is;exact⟨rfl,Sm.refl _⟩
  ·rw[bL];have:=xc (c:=0) (xs:=L.map (·.2)) (S:=S2);rw[Z7,Ll (K:=K) L nd.nn] at this;refine aa this ?_;k_is;exact q S2 s2
 |false=>
  k_is;refine aa (show aj .eq (bQ false) (.str "last") S=some (.bl false,S) from rfl) ?_;k_is;refine⟨by rw[aM hn];rfl,?_⟩;refine bI L ae (λz=>[.int (cst K z.1 z.2)]) lL (λ_ _=>Zd _) (eD hn) (λi z S' hz sm=>⟨_,show au (.tup [.name 3,.name 4]) (.tup [.int z.1,.int z.2]) _=_ from dg (by simp) (by simp),?_⟩) λS2 s2=>?_
  ·have hz:=Bk nd z (Zi hz);obtain⟨a,b,c,d,e,f,h,eg,e0,e4,e5,f0,f1,a0,a1⟩:=gl9 sk hz.1 hz.2;k_is;refine aa sk2 (aa (cJ hz.1 eg) (aa (show ixS (aA [a,b,c,d,e,f,h]) (.int 5) S'=some (.int f,S') from rfl) ?_));refine aa sk2 (aa (cJ hz.1 eg) (aa (show ixS (aA [a,b,c,d,e,f,h]) (.int 4) S'=some (.int e,S') from rfl) ?_));k_is;refine⟨?_,?_⟩
   ·unfold fb;rw[decide_eq_true (show -(2 ^ 64) < f by lia),decide_eq_true (show f < 2 ^ 64 by lia)];rfl
   ·unfold cst;rw[e4,e5];exact⟨rfl,Sm.refl _⟩
  ·rw[bL];have:=Bj (xs:=L.map λy=>cst K y.1 y.2) (S:=S2);rw[Z7,Gk] at this;refine aa this ?_;k_is;exact q S2 s2
theorem Ot{n:Nat}{hi:Int}{tg:Tg}{b:XS}{ρ:Rho}{Q:Fl->Rho->Sto->Prop}(hl:n<=100000)(I:Nat->Rho->Sto->Prop)
  (step:∀ (i:Nat) ρ S,i < n->I i ρ S->∃ρ1,au tg (.int (hi - i)) ρ=some ρ1/\OkS (b ρ1 S) λfl ρ2 S2=>match fl with |.nx=>I (i+1) ρ2 S2 |.ct=>I (i+1) ρ2 S2 |.bk=>Q .nx ρ2 S2 |.rt d=>Q (.rt d) ρ2 S2)
  (q:∀ρ S',I n ρ S'->Q .nx ρ S') (h0:I 0 ρ S):OkS (dI (nxD hi n) tg b LF 0 ρ S) Q:=by
 refine il n I (by unfold LF;lia) (λi ρ S' h iv=>?_) (λρ S' iv=>⟨?_,q ρ S' iv⟩) h0
 ·obtain⟨ρ1,e2,z⟩:=step i ρ S' h iv;exact⟨_,ρ1,by show some (if i < n then some (D.int (hi - i)) else none)=_;rw[if_pos h],e2,z⟩
 ·show some (if n < n then some (D.int (hi - n)) else none)=_;rw[if_neg (ZM _)]
abbrev ndE(z:List Int × List (Int × Int) × Nat):D:=.tup [.tup (z.1.map D.int),.ref z.2.2]
abbrev prs(T:List (List Int × List (Int × Int) × Nat)):List (List Int × List (Int × Int)):=T.map λz=>(z.1,z.2.1)
structure Stk(K:Sky)(q:Nat)(S:Sto)(T:List (List Int × List (Int × Int) × Nat)):Prop where
 at_:S[q]?=some (.lst (T.reverse.map ndE))
 ok:∀z ∈ T,z.2.2 ≠ q/\S[z.2.2]?=some (.lst (z.2.1.map ae))/\Nd K z.1 z.2.1
theorem Fc{n:Nat}{ds:List D}{d:D}(h:S[n]?=some (.lst (ds++[d]))):sv (.ref n) [] S=some (d,S.set n (.lst ds)):=by
 simp only[sv,chg,h];rw[Zg,Zm,Nat.add_sub_cancel,Zo (Zd _),ZZ];show some (d,S.set n (.lst (ds++[d]).dropLast))=_;rw[List.dropLast_concat]
abbrev Fd:List CS:=match ba with
 |[_,_,.while_ _ b,_]=>b.drop 3
 |_=>[]
theorem Fe{i:Nat}(h:i < K.G.length):(cM K).drop (K.G.length - (i+1))=((K.G.length:Int) - 1 - i)::(cM K).drop (K.G.length - i):=by
 have hl:K.G.length - (i+1) < (cM K).length:=by unfold cM;rw[Za,ZC];lia
 rw[YF hl,show K.G.length - (i+1)+1=K.G.length - i by lia]
 congr 1
 rw[show(cM K)[K.G.length - (i+1)]=((K.G.length - (i+1):Nat):Int) by simp[cM]]
 lia
theorem Stk.keep{q:Nat}{T:List (List Int × List (Int × Int) × Nat)}(h:Stk K q S T)(s:Sm S S'):Stk K q S' T:=⟨s _ _ h.at_,λz hz=>let ⟨a,b,c⟩:=h.ok z hz;⟨a,s _ _ b,c⟩⟩
theorem Stk.put{q:Nat}{T:List (List Int × List (Int × Int) × Nat)}{ds:List D}(h:∀z ∈ T,z.2.2 ≠ q/\S[z.2.2]?=some (.lst (z.2.1.map ae))/\Nd K z.1 z.2.1)(hq:q < S.length)(e:ds=T.reverse.map ndE):Stk K q (S.set q (.lst ds)) T:=by
 subst e;exact⟨dh hq,λz hz=>let ⟨a,b,c⟩:=h z hz;⟨a,by rw[Zp λe=>a e.symm];exact b,c⟩⟩
theorem Kp.set{q:Nat}{o:Ob}(h:Ev.Kp q S S'):Ev.Kp q S (S'.set q o):=λi u n e=>by rw[Zp (λz=>n z.symm)];exact h i u n e
theorem Lm{i:Int}(h:-1<=i/\i < 9):lim i=true:=by unfold lim;simp;lia
theorem Bm(sk:SkOk K){q n:Nat}{os:List Int}{L:List (Int × Int)}{T:List (List Int × List (Int × Int) × Nat)}{ad d2 fd:D}{u8 u9 u10:Option D}{Qf:Fl->Rho->Sto->Prop}(st:Stk K q S T)(nd:Nd K os L)(hL:S[n]?=some (.lst (L.map ae)))(hn:n ≠ q)(hT:T.length<=20000)
  (qf:∀C S' u v,Ev.Kp q S S'->Stk K q S' (C++T)->prs C=chl K os L (cM K)->Qf .nx [some (skE K),some ad,some d2,some fd,some (.ref q),some (.tup (os.map D.int)),some (.ref n),some (ahE (aG K L)),u8,u,v] S') :
  rW (wSs (evC ac (k+3)) (eS ac) 53 Fd) [some (skE K),some ad,some d2,some fd,some (.ref q),some (.tup (os.map D.int)),some (.ref n),some (ahE (aG K L)),u8,u9,u10] S Qf:=by
 dsimp only[Fd,ba,Yj];have V:=sk.vd;have g7:=sk.g7;have lo:=eI os nd.nd nd.bd;k_is;refine aa sk2 (aa bA ?_);k_is;refine⟨Lm (by lia),?_⟩;rw[show((K.G.length:Int) - 1+1).toNat=K.G.length by lia];refine Ot (by lia) (λi ρ S'=>∃C u v,ρ=[some (skE K),some ad,some d2,some fd,some (.ref q),some (.tup (os.map D.int)),some (.ref n),some (ahE (aG K L)),u8,u,v]/\Ev.Kp q S S'/\Stk K q S' (C++T)/\prs C=chl K os L ((cM K).drop (K.G.length - i))) (λi ρ S1 hi iv=>?_) (λρ S1 iv=>?_) ⟨[],u9,u10,rfl,Ev.Kp.refl _ _,st,by rw[Nat.sub_zero,YL (by unfold cM;rw[Za,ZC];exact Zd _)];rfl⟩
 ·obtain⟨C,u,v,rfl,k1,st1,ec⟩:=iv;rw[Fe hi,lu,<-ec];have g0:0<=(K.G.length:Int) - 1 - i:=by lia
  have g1:(K.G.length:Int) - 1 - i < K.G.length:=by lia
  have hL1:=k1 _ _ hn hL;generalize (K.G.length:Int) - 1 - i=g at *;refine⟨_,rfl,?_⟩;k_is;refine aa (show aj .notin (.int g) (.tup (os.map D.int)) S1=some (.bl (true != decide (g ∈ os)),S1) from oG true os g S1) ?_;k_is;cases c:decide (g ∈ os) with
  |true=>
   rw[show(true != true)=false from rfl];k_is;exact⟨C,_,_,rfl,k1,st1,rfl⟩
  |false=>
   rw[show(true != false)=true from rfl,if_neg (by decide)];k_is;refine aa bA ?_;refine⟨rfl,qQ (k:=k+1) V (iq V (Bk nd)) g0 g1 λS2 s2=>?_⟩;k_is;cases hs:Sn.step K (aG K L) g os.length with
   |none=>
    refine aa (show aj .isnot (ip none) .non S2=some (.bl false,S2) from rfl) ?_;k_is;exact⟨C,_,_,rfl,k1.trans s2.kp,st1.keep s2,rfl⟩
   |some m=>
    refine aa (show aj .isnot (ip (some m)) .non S2=some (.bl true,S2) from rfl) ?_;rw[show ip (some m) = .int m from rfl];k_is;have st2:=st1.keep s2;have hL2:=s2 _ _ hL1;refine⟨cg st2.at_,?_⟩;refine⟨by rw[Za];show os.length+1<=1000;lia,?_⟩
    have cl:C.length<=7:=by
     have e1:=congrArg Zj ec;have e2:=oY (K:=K) (os:=os) (L:=L) ((cM K).drop (K.G.length - i));have e3:=YR (λg=>!decide (g ∈ os)) ((cM K).drop (K.G.length - i));have e4:(cM K).length=K.G.length:=by unfold cM;rw[Za,ZC]
     rw[YT,e4] at e3;rw[prs,Za] at e1
     lia
    have s3:=Sm.app S2 [Ob.lst [D.tup [D.int g,D.int m]]];refine aa (oT (s3 _ _ hL2) aI (by have e1:=congrArg Zj nd.fs;rw[Za] at e1 ⊢;show L.length+1<=100000;lia)) ?_;have lq:q < S2.length:=(Zb.mp st2.at_).1;have lN:(S2++[Ob.lst [D.tup [D.int g,D.int m]]]).length ≠ q:=by rw[Zg];lia
    generalize S2++[Ob.lst [D.tup [D.int g,D.int m]]]=S3 at *;have s4:=Sm.app S3 [Ob.lst (L.map ae++[D.tup [D.int g,D.int m]])];have a4:(S3++[Ob.lst (L.map ae++[D.tup [D.int g,D.int m]])])[S3.length]?=some (.lst ((L++[(g,m)]).map ae)):=by rw[aI,ZD];rfl
    have st4:=(st2.keep s3).keep s4;have lq4:q < (S3++[Ob.lst (L.map ae++[D.tup [D.int g,D.int m]])]).length:=(Zb.mp st4.at_).1;rw[iX st4.at_ (by rw[Za,ZU,Zg];lia)];generalize S3++[Ob.lst (L.map ae++[D.tup [D.int g,D.int m]])]=S4 at *;generalize S3.length=N4 at *;k_is;have nz:=nd.snoc sk (OA.mpr ⟨⟨g0,g1⟩,λz=>by rw[decide_eq_true z] at c;cases c⟩) hs;refine⟨(os++[g],L++[(g,m)],N4)::C,_,_,rfl,Kp.set (((k1.trans s2.kp).trans s3.kp).trans s4.kp),Stk.put (λz hz=>?_) lq4 ?_,rfl⟩
    ·rcases Zn.mp hz with rfl |hz
     ·exact⟨lN,a4,nz⟩
     ·exact st4.ok z hz
    ·rw[XW,Z5,ZD];show _++[D.tup [D.tup (os.map D.int++[D.int g]),D.ref N4]]=_++[D.tup [D.tup ((os++[g]).map D.int),D.ref N4]];rw[ZD];rfl
 ·obtain⟨C,u,v,rfl,k1,st1,ec⟩:=iv;rw[ZZ] at ec;exact qf C S1 u v k1 st1 ec
theorem Bn{ds:List D}{e:D}:ixS (.tup (ds++[e])) (.int (-1)) S=some (e,S):=by
 have:atI (ds++[e]) (-1:Int)=some e:=by
  unfold atI ixN;rw[if_neg (by decide),if_pos (by rw[Zg,Zm];lia)];show(ds++[e])[((-1:Int)+((ds++[e]).length:Int)).toNat]?=some e;rw[Zg,Zm,show((-1:Int)+((ds.length+1:Nat):Int)).toNat=ds.length by lia,Zo (Zd _),ZZ];rfl
 simp only[ixS,ay,ZA,this]
theorem Ln:∀n,1<=sz n
 |0=>Zd _
 |n+1=>by rw[sz];lia
theorem Ou:∀n,n < 8->sz n<=13700:=by decide
theorem Bo:∀ (T:List (List Int × List (Int × Int))),T.length<=mu K T
 |[]=>Zd _
 |z::T=>by
  have:=Bo T;have:=Ln (K.G.length - z.1.length);rw[mu,Zr];lia
abbrev bIf:List CS:=match ba with
 |[_,_,.while_ _ b,_]=>b.drop 2
 |_=>[]
abbrev fnd(K:Sky)(l:Bool)(os:List Int)(L:List (Int × Int))(f:Option (Int × List Int)):Option (Int × List Int):=if os.length=K.G.length then eT f (W K l L 0,os) else f
theorem Ff(sk:SkOk K){q n:Nat}{l:Bool}{os:List Int}{L:List (Int × Int)}{T:List (List Int × List (Int × Int) × Nat)}{d2:D}{f:Option (Int × List Int)}{u8 u9 u10:Option D}{Qf:Fl->Rho->Sto->Prop}(st:Stk K q S T)(nd:Nd K os L)(hL:S[n]?=some (.lst (L.map ae)))(hn:n ≠ q)(hT:T.length<=20000)
  (qf:∀C S' u8 u v,Ev.Kp q S S'->Stk K q S' (C++T)->prs C=chl K os L (cM K)->Qf .nx [some (skE K),some (bQ l),some d2,some (aY (fnd K l os L f)),some (.ref q),some (.tup (os.map D.int)),some (.ref n),some (ahE (aG K L)),u8,u,v] S') :
  rW (wSs (evC ac (k+3)) (eS ac) 54 bIf) [some (skE K),some (bQ l),some d2,some (aY f),some (.ref q),some (.tup (os.map D.int)),some (.ref n),some (ahE (aG K L)),u8,u9,u10] S Qf:=by
 have g7:=sk.g7;have lo:=eI os nd.nd nd.bd;have fin:∀S1 u8,Sm S S1->rW (wSs (evC ac (k+3)) (eS ac) 53 Fd) [some (skE K),some (bQ l),some d2,some (aY (fnd K l os L f)),some (.ref q),some (.tup (os.map D.int)),some (.ref n),some (ahE (aG K L)),u8,u9,u10] S1 Qf:=λS1 u8 s1=>Bm sk (st.keep s1) nd (s1 _ _ hL) hn hT λC S' u v k' st' e=>qf C S' u8 u v (s1.kp.trans k') st' e;unfold fnd at fin;dsimp only[Fd,ba,Yj] at fin;dsimp only[bIf,ba,Yj];k_is;refine aa bA (aa sk2 (aa bA ?_));k_is;by_cases c:os.length=K.G.length
 ·rw[if_pos c] at fin;rw[decide_eq_true (show(os.length:Int)=K.G.length by lia)];k_is;refine⟨rfl,Bl (k:=k+2) (l:=l) sk nd (by lia) hL λS1 s1=>?_⟩;k_is;cases f with
  |none=>
   refine aa (show aj .is (aY none) .non S1=some (.bl true,S1) from rfl) ?_;k_is;exact fin S1 _ s1
  |some y=>
   rw[show aY (some y) = .tup [.int y.1,.tup (y.2.map D.int)] from rfl];refine aa (show aj .is (.tup [.int y.1,.tup (y.2.map D.int)]) .non S1=some (.bl false,S1) from rfl) ?_;k_is;refine aa (show ixS (.tup [.int y.1,.tup (y.2.map D.int)]) (.int 0) S1=some (.int y.1,S1) from rfl) ?_;k_is;unfold eT at fin;dsimp only at fin;by_cases c2:W K l L 0 < y.1
   ·rw[if_pos c2] at fin;rw[decide_eq_true c2];k_is;exact fin S1 _ s1
   ·rw[if_neg c2] at fin;rw[decide_eq_false c2];k_is;exact fin S1 _ s1
 ·rw[if_neg c] at fin;rw[decide_eq_false (show ¬ (os.length:Int)=K.G.length by lia)];k_is;exact fin S _ (Sm.refl S)
theorem tG(sk:SkOk K){q:Nat}{l:Bool}{T:List (List Int × List (Int × Int) × Nat)}{d2:D}{r f:Option (Int × List Int)}(st:Stk K q S T)(hr:run K l (prs T) f=r)(hm:mu K (prs T)<=13700)(qf:∀S',Ev.Kp q S S'->Q (aY r) S') :
  rW (wSs (evC ac (k+3)) (eS ac) 58 (ba.drop 2)) [some (skE K),some (bQ l),some d2,some (aY f),some (.ref q),none,none,none,none,none,none] S (out Q):=by
 dsimp only[ba,Yj];have V:=sk.vd;have g7:=sk.g7;k_is;refine ra (λn ρ S'=>∃T f u5 u6 u7 u8 u9 u10,ρ=[some (skE K),some (bQ l),some d2,some (aY f),some (.ref q),u5,u6,u7,u8,u9,u10]/\Stk K q S' T/\Ev.Kp q S S'/\run K l (prs T) f=r/\n=mu K (prs T)/\n<=13700) (λn ρ S1 iv=>?_) LF (mu K (prs T)) _ S ?_ ⟨T,f,_,_,_,_,_,_,rfl,st,Ev.Kp.refl _ _,hr,rfl,hm⟩
 ·obtain⟨T,f,u5,u6,u7,u8,u9,u10,rfl,st,k1,hr,rfl,hm⟩:=iv;refine(m9 _).t _ _ _ ?_;k_is;have lq:q < S1.length:=(Zb.mp st.at_).1;have s2:=Sm.app S1 [Ob.lst []];refine aa (z4 (s2 _ _ st.at_) aI (by lia)) ?_;have st2:=st.keep s2;have k2:=k1.trans s2.kp;generalize S1++[Ob.lst []]=S2 at *;k_is;cases T with
  |nil=>
   rw[show(!(([]:List (List Int × List (Int × Int) × Nat)).reverse.map ndE).isEmpty)=false from rfl,if_neg (by decide)];k_is;rw[show f=r from hr];exact qf S2 k2
  |cons z T=>
   obtain⟨os,L,n⟩:=z;have at2:=st2.at_;rw[Z5,ZD] at at2;rw[Z5,ZD,show(!((T.reverse.map ndE)++[(os,L,n)].map ndE).isEmpty)=true by simp,if_pos rfl];obtain⟨n1,n2,nd⟩:=st2.ok _ Zh;dsimp only at n1 n2 nd;have lo:=eI os nd.nd nd.bd;k_is;refine⟨cg at2,?_⟩;refine aa (Fc at2) ?_;have lq2:q < S2.length:=(Zb.mp at2).1;have st3:Stk K q (S2.set q (.lst (T.reverse.map ndE))) T:=Stk.put (λz hz=>st2.ok z (Zf _ hz)) lq2 rfl;have k3:Ev.Kp q S (S2.set q (.lst (T.reverse.map ndE))):=Kp.set k2;have n3:(S2.set q (.lst (T.reverse.map ndE)))[n]?=some (.lst (L.map ae)):=by rw[Zp λe=>n1 e.symm];exact n2
   generalize S2.set q (.lst (T.reverse.map ndE))=S3 at *;rw[show ndE (os,L,n) = .tup [.tup (os.map D.int),.ref n] from rfl];k_is
   have tl:T.length<=20000:=by
    have h1:=Bo (K:=K) (prs ((os,L,n)::T));have h2:(prs ((os,L,n)::T)).length=T.length+1:=Za ..
    lia
   have iff0:rW (wSs (evC ac (k+3)) (eS ac) 54 bIf) [some (skE K),some (bQ l),some d2,some (aY f),some (.ref q),some (.tup (os.map D.int)),some (.ref n),some (ahE (aG K L)),u8,u9,u10] S3 λfl ρ2 S2=>match fl with
     |.nx=>∃m,m < mu K (prs ((os,L,n)::T))/\∃T f u5 u6 u7 u8 u9 u10,ρ2=[some (skE K),some (bQ l),some d2,some (aY f),some (D.ref q),u5,u6,u7,u8,u9,u10]/\Stk K q S2 T/\Ev.Kp q S S2/\Sn.run K l (prs T) f=r/\m=mu K (prs T)/\m<=13700
     |.ct=>∃m,m < mu K (prs ((os,L,n)::T))/\∃T f u5 u6 u7 u8 u9 u10,ρ2=[some (skE K),some (bQ l),some d2,some (aY f),some (D.ref q),u5,u6,u7,u8,u9,u10]/\Stk K q S2 T/\Ev.Kp q S S2/\Sn.run K l (prs T) f=r/\m=mu K (prs T)/\m<=13700
     |.bk=>rW (wSs (evC ac (k+3)) (eS ac) 57 [CS.ret (CE.var 3)]) ρ2 S2 (out Q)
     |.rt d=>Q d S2:=Ff sk st3 nd n3 n1 tl λC S' u8 u v k' st' ec=>by
    have e1:prs (C++T)=chl K os L (cM K)++prs T:=by rw[<-ec];exact ZD
    have e2:=Lj sk nd;have e3:mu K (prs ((os,L,n)::T))=sz (K.G.length - os.length)+mu K (prs T):=rfl;have e4:mu K (prs (C++T)) < mu K (prs ((os,L,n)::T)):=by rw[e1,Bf,e3];lia
    refine⟨_,e4,C++T,_,_,_,_,_,_,_,rfl,st',k3.trans k',?_,rfl,by lia⟩;rw[e1,<-hr];show _=Sn.run K l (prs T) (vis K l (K.G.length - os.length) os L f);rw[Fa nd];exact YN
   dsimp only[bIf,ba,Yj] at iff0;rcases Xo L with eL |⟨L',y,eL⟩
   ·have hc:os=[]:=by have:=nd.fs;rw[eL] at this;exact this.symm
    rw[hc,eL] at iff0;rw[hc];exact aa sk1 iff0
   ·rw[Xp] at eL;have hc:os=L'.map (·.1)++[y.1]:=by have:=nd.fs;rw[eL,ZD] at this;exact this.symm
    have hy:=nd.bd y.1 (by rw[hc];simp);obtain⟨a,b,c,d,e,f',h,eg,e0,_⟩:=gl7 V hy.1 hy.2;have em:os.map D.int=(L'.map (·.1)).map D.int++[.int y.1]:=by rw[hc,ZD];rfl
    rw[eL,cK,e0] at iff0;rw[eL,ZD] at n3;rw[show(os.map D.int).isEmpty=false by rw[em];simp];refine aa sk2 (aa (show ixS (.tup (os.map D.int)) (.int (-1)) S3=some (.int y.1,S3) by rw[em];exact Bn) (aa (cJ hy.1 eg) (aa (show ixS (aA [a,b,c,d,e,f',h]) (.int 0) S3=some (.int a,S3) from rfl) (aa (jE n3) (aa (show ixS (ae y) (.int 1) S3=some (.int y.2,S3) from rfl) ?_)))));exact iff0
 ·have:13700 < LF:=by decide
  lia
theorem Bp(sk:SkOk K){l:Bool}(q:∀S',Sm S S'->Q (aY (cT K l)) S'):Ok (evC ac (k+4) 52 [skE K,bQ l] S) Q:=by
 refine ax (d:=gO) (ρ:=[some (skE K),some (bQ l),none,none,none,none,none,none,none,none,none]) rfl rfl ?_;have w:=λS=>@tG S k Q K sk;dsimp only[ba,Yj] at w;dsimp only[gO,ba];have V:=sk.vd;have g7:=sk.g7;have lF:=Dw.bj K.G.length K.F sk.nd sk.bd;k_is;refine aa sk3 ?_;refine⟨rfl,qR (k:=k) V sk.bd (by lia) λd S1 s1 res=>?_⟩;k_is;rw[Bi sk] at q;unfold Res at res;cases hr:rn K K.F K.ah [] with
 |inl j=>
  rw[hr] at res q;dsimp only at res;subst res;refine aa (show ixS (.tup [.str "stuck", .int (j:Int)]) (.int 0) S1=some (.str "stuck", S1) from rfl) ?_;refine aa (show aj .eq (.str "stuck") (.str "lands") S1=some (.bl false,S1) from rfl) ?_;k_is;exact w _ (T:=[]) (f:=none) ⟨aI,λz hz=>by cases hz⟩ rfl (Xa _) λS' k'=>q S' (s1.trans (Kp.new k'))
 |inr R=>
  rw[hr] at res q;dsimp only at res q;obtain⟨n,rfl,hn,hb⟩:=res;refine aa (show ixS (.tup [.str "lands", .ref n]) (.int 0) S1=some (.str "lands", S1) from rfl) ?_;refine aa (show aj .eq (.str "lands") (.str "lands") S1=some (.bl true,S1) from rfl) ?_;k_is;refine aa sk3 (aa (show ixS (.tup [.str "lands", .ref n]) (.int 1) S1=some (.ref n,S1) from rfl) ?_);have hl:n < S1.length:=(Zb.mp hn).1;refine w _ (T:=[(K.F,R,n)]) (f:=none) ⟨aI,λz hz=>?_⟩ rfl (Ou _ (by lia)) λS' k'=>q S' (s1.trans (Kp.new k'));rw[Zy.mp hz];exact⟨by dsimp only;lia,Sm.app _ _ _ _ hn,Bg sk hr⟩
end Lw
namespace Lw
open PySem Ev L2
variable {p:Nat} {S:Sto} {k:Nat} {Q:D->Sto->Prop}
theorem Bq{c:Nat}:∀ {ts:List Dw.D},(∀t ∈ ts,Dw.sz t<=c)->Dw.szL ts<=ts.length * (c+2)
 |[],_=>by simp[Dw.szL]
 |t::ts,h=>by
  have h1:=h t Zh;have h2:=Bq (ts:=ts) λt' ht'=>h t' (Zf _ ht');rw[Dw.szL,Zr,Y3]
  lia
structure Shw(t:Dw.D):Prop where
 sh:Dw.Shn t
 de:Dw.dep t<=50
 wi:Dw.wid t<=1000
theorem Lp{n m B s:Nat}{t:Dw.D}(f:Dw.Fit n m t)(b:Dw.Bd B s t)(hn:n<=50)(hm:m<=1000)(hB:B<=10 ^ 50)(hs:s<=16000000):Shw t:=
 ⟨b.shn hB (by rw[V4];lia) (ZI f.de (by lia)),ZI f.de hn,ZI f.wi hm⟩
mutual
theorem uZ{S:Sto}:∀ (n:Nat) {t:Dw.D} {d:D},Dw.dep t < n->TD p S t d->cL n S d=some t
 |n+1,.non,_,_,h=>by rw[h.non];simp only[cL]
 |n+1,.bl _,_,_,h=>by rw[h.bl];simp only[cL]
 |n+1,.int _,_,_,h=>by rw[h.int];simp only[cL]
 |n+1,.str _,_,_,h=>by rw[h.str];simp only[cL]
 |n+1,.tup ts,_,hd,h=>by
  obtain⟨ds,rfl,q⟩:=h.tup;rw[Dw.dep] at hd;simp only[cL,lx n (by lia) q,ZA]
 |n+1,.lst ts,_,hd,h=>by
  rw[TD] at h;obtain⟨m,ds,rfl,_,e,q⟩:=h;rw[Dw.dep] at hd;simp only[cL,e,lx n (by lia) q,ZA]
 |n+1,.dic ks ts,_,hd,h=>by rw[TD] at h;exact h.elim
theorem lx{S:Sto}:∀ (n:Nat) {ts:List Dw.D} {ds:List D},Dw.jq ts < n->TDs p S ts ds->eN (cL n S) ds=some ts
 |n,[],_,_,h=>by rw[h.nil];simp only[eN]
 |n,t::ts,_,hd,h=>by
  obtain⟨d,r,rfl,a,q⟩:=h.cons;rw[Dw.jq] at hd;simp only[eN,uZ n (by lia) a,lx n (by lia) q]
end
theorem u0{t:Dw.D}{d:D}(h:TD p S t d)(s:Shw t):ku d S=some (.str (Dw.aX t).shown,S):=by
 unfold ku;rw[uZ 100 (by have:=s.de;lia) h];dsimp only;rw[if_pos s.sh]
theorem jK(x y:Str)(S:Sto):aj .ne (.str x) (.str y) S=some (.bl (!(x == y)),S):=l8 rfl
end Lw
namespace Lw
open PySem Ev Sn L2
variable {p:Nat} {S S':Sto} {k:Nat} {Q:D->Sto->Prop} {K:Sky}
abbrev meL(r s:Int)(M:List (List Int))(H:List (Int × Int)):D:=.tup [.int r,.int s,.tup (M.map aA),.tup (H.map ae)]
theorem Fg{r s:Int}{M G:List (List Int)}{H:List (Int × Int)}{F:List Int}{es:List D}{N Nf hi:Nat}{u4 u5 u6 u7 u8 u9 u10 u11 u13:Option D}(h:Pot p S)(gs:Gs p N hi S es G)(hf:S[Nf]?=some (.lst (F.map D.int)))(nf:Nf ≠ p)(me:MeOk r s M H)(g7:G.length<=7)
  (q:∀a S',Dr p S S'->(∀z:Int × Int,a=some z->0<=z.1/\z.1 < M.length/\0<=z.2/\z.2<=9999)->Q (skE ⟨r,s,M,H,a,G,F⟩) S') :
  rW (wSs (evC ac (k+3)) (eS ac) 55 (fS.drop 5)) [some (.ref p),some (.int 5),some (meL r s M H),some (.ref N),u4,u5,u6,u7,u8,u9,u10,u11,some (.ref Nf),u13,none] S (out Q):=by
 dsimp only[fS,Yj];have m1:=me.m1;have m4:=me.m4;k_is;refine aa (show ixS (meL r s M H) (.int 2) S=some (.tup (M.map aA),S) from rfl) ?_;refine aa (show ai cD (.tup (M.map aA)) S=some (.int M.length,S) by simp only[ai,ay,cD,Za]) ?_;refine⟨rfl,aJ h (by lia) (by lia) λx S1 x1 x2 d1=>?_⟩;refine⟨rfl,aJ d1.pot (by decide) (by decide) λy S2 y1 y2 d2=>?_⟩;refine⟨rfl,aJ d2.pot (by decide) (by decide) λz S3 z1 z2 d3=>?_⟩;k_is;have d:=(d1.trans d2).trans d3
 obtain⟨a,ea,ha⟩:∃a:Option (Int × Int),atI [D.non,D.tup [D.int x,D.int y]] z=some (ahE a)/\∀q,a=some q->0<=q.1/\q.1 < M.length/\0<=q.2/\q.2<=9999:=by
  have:z=0\/z=1:=by lia
  rcases this with rfl |rfl
  ·exact⟨none,rfl,λq e=>by cases e⟩
  ·exact⟨some (x,y),rfl,λq e=>by cases e;exact⟨x1,x2,y1,by lia⟩⟩
 refine⟨_,ea,?_⟩;k_is;have gs3:=gs.keep d.kp;have hf3:=d.kp _ _ nf hf;refine⟨by rw[aM gs3.at_];rfl,?_⟩;have le:=gs3.len;refine oI es.length (λi=>(es[i]?).getD .non) (λi acc S'=>S'=S3/\acc=(G.take i).map aA) (λi acc S' hi ⟨e,_⟩=>by subst e;exact z6 gs3.at_ _ Gg) (by lia) (λi acc S4 hi ⟨e4,ea'⟩=>?_) (λes' S4 ⟨e4,ea'⟩=>⟨by rw[ea',Za,Ys];lia,?_⟩) ⟨rfl,rfl⟩
 ·subst e4;have li:i < G.length:=by lia
  obtain⟨b,eb,_,_,zb⟩:=gs3.row i G[i] (gEG li);simp only[eb,ZY];refine⟨_,rfl,?_⟩;k_is;refine aa (show ai cX (.ref b) S4=some (.tup (G[i].map D.int),S4) by simp only[ai,ay,aM zb,ZA,cX]) ?_;refine⟨rfl,?_⟩;rw[ea',ZT li,ZD];rfl
 ·subst e4;rw[Z6 (by lia)] at ea';subst ea';refine aa (show cX false (G.map aA) S4=some (.tup (G.map aA),S4) from rfl) ?_;refine aa (show ai cX (.ref Nf) S4=some (.tup (F.map D.int),S4) by simp only[ai,ay,aM hf3,ZA,cX]) ?_;k_is;exact q a S4 d ha
theorem tH{l:List Int}{j:Nat}(h:j < l.length):(l[j]::l.eraseIdx j).Perm l:=by
 induction l generalizing j with
 |nil=>simp at h
 |cons a l ih=>
  cases j with
  |zero=>exact List.Perm.refl _
  |succ j=>
   rw[Zr] at h;have:=ih (j:=j) (by lia);rw[List.getElem_cons_succ,Yu];exact(List.Perm.swap _ _ _).trans (this.cons a)
theorem np:∀ (l:List Int) (j:Nat),(l.map D.int).eraseIdx j=(l.eraseIdx j).map D.int
 |[],_=>rfl
 |a::l,0=>rfl
 |a::l,j+1=>by rw[Zz,Yu,Yu,Zz,np l j]
theorem Bs{n:Nat}{l:List Int}{j:Nat}(hn:S[n]?=some (.lst (l.map D.int)))(hj:j < l.length):gy (.ref n) [.int (j:Int)] S=some (.int l[j],S.set n (.lst ((l.eraseIdx j).map D.int))):=by
 have hix:ixN (l.map D.int).length (j:Int)=some j:=by
  unfold ixN;rw[if_pos (by lia),if_pos (by rw[Za];lia),ZJ]
 have hg:(l.map D.int)[j]?=some (.int l[j]):=by rw[Zs,gEG hj];rfl
 have he:(l.map D.int).eraseIdx j=(l.eraseIdx j).map D.int:=np l j;simp only[gy,chg,hn,hix,hg,ZA,he]
theorem lA{n:Nat}{l:List Int}(h:l.Perm ((Zl n).map λi=>Int.ofNat i)):l.Nodup/\(∀x ∈ l,0<=x/\x < n)/\l.length=n:=by
 refine⟨h.nodup_iff.mpr (YM.mpr (XY.imp λh z=>h (Int.ofNat.inj z))),λx hx=>?_,by rw[h.length_eq,Za,ZC]⟩;obtain⟨i,hi,rfl⟩:=ZL.mp (h.mem_iff.mp hx);have:=ZV.mp hi;show 0<=(i:Int)/\(i:Int) < n
 lia
structure Fxs(p N Nl Nf:Nat)(S:Sto)(es:List D)(G:List (List Int))(l F:List Int):Prop where
 gs:Gs p N Nl S es G
 al:S[Nl]?=some (.lst (l.map D.int))
 af:S[Nf]?=some (.lst (F.map D.int))
 nn:Nl < Nf
 pm:(F++l).Perm ((Zl G.length).map λi=>Int.ofNat i)
 rg:∀ (j:Nat) g,G[j]?=some g->g.getD 6 0=0\/(j:Int) ∈ F
theorem Fxs.keep{N Nl Nf:Nat}{es:List D}{G:List (List Int)}{l F:List Int}(h:Fxs p N Nl Nf S es G l F)(kp:Ev.Kp p S S')(hN:N < Nl):Fxs p N Nl Nf S' es G l F:=by
 have:=h.gs.pN;have:=h.nn;exact⟨h.gs.keep kp,kp _ _ (by lia) h.al,kp _ _ (by lia) h.af,h.nn,h.pm,h.rg⟩
theorem Fh{r s:Int}{M G:List (List Int)}{H:List (Int × Int)}{es:List D}{N hi:Nat}{S0:Sto}{u4 u5 u6 u7 u8 u9 u10:Option D}(h:Dr p S0 S)(l0:S0.length<=N)(gs:Gs p N S.length S es G)(me:MeOk r s M H)(g7:G.length<=7)(gb:∀g ∈ G,GB M.length r s g)(g0:∀g ∈ G,g.getD 6 0=0)
  (q:∀K S',Dr p S0 S'->SkOk K->(∀g ∈ K.G,GB K.M.length K.r K.s g)->Q (skE K) S') :
  rW (wSs (evC ac (k+3)) (eS ac) 57 (fS.drop 3)) [some (.ref p),some (.int 5),some (meL r s M H),some (.ref N),u4,u5,u6,u7,u8,u9,u10,none,none,none,none] S (out Q):=by
 have tail:=λ(u11 u13:Option D) (G':List (List Int)) (es':List D) (F:List Int) (Nf hi:Nat) (S1:Sto) (d:Dr p S0 S1) (gs':Gs p N hi S1 es' G') (hf:S1[Nf]?=some (.lst (F.map D.int))) (nf:Nf ≠ p) (g7':G'.length<=7) (gb':∀g ∈ G',GB M.length r s g) (nd:F.Nodup) (bd:∀x ∈ F,0<=x/\x < G'.length) (rg:∀ (j:Nat) g,G'[j]?=some g->g.getD 6 0=0\/(j:Int) ∈ F)=>
  Fg (k:=k) (Q:=Q) (u4:=u4) (u5:=u5) (u6:=u6) (u7:=u7) (u8:=u8) (u9:=u9) (u10:=u10) (u11:=u11) (u13:=u13) d.pot gs' hf nf me g7' λa S2 d2 ha=>q _ S2 (d.trans d2) ⟨me,g7',λg hg=>(gb' g hg).up (by decide),nd,bd,rg,ha⟩ gb'
 dsimp only[fS,Yj] at tail ⊢;have pN:=gs.pN;have le:=gs.len;have lN:N < S.length:=(Zb.mp gs.at_).1;k_is;refine aa (fT gs.at_) ?_;refine⟨es.length,rfl,by lia,?_⟩;k_is;rw[le]
 have al:(S++[Ob.lst ((Zl G.length).map λj=>D.int (Int.ofNat j))]++[Ob.lst []])[S.length]?=some (.lst (((Zl G.length).map λj=>Int.ofNat j).map D.int)):=by
  rw[Zt (by simp),aI,Z7];rfl
 have af:(S++[Ob.lst ((Zl G.length).map λj=>D.int (Int.ofNat j))]++[Ob.lst []])[Zj (S++[Ob.lst ((Zl G.length).map λj=>D.int (Int.ofNat j))])]?=some (.lst (([]:List Int).map D.int)):=aI;have sm1:Sm S (S++[Ob.lst ((Zl G.length).map λj=>D.int (Int.ofNat j))]++[Ob.lst []]):=(Sm.app _ _).trans (Sm.app _ _);have nn:S.length < Zj (S++[Ob.lst ((Zl G.length).map λj=>D.int (Int.ofNat j))]):=by simp
 generalize Zj (S++[Ob.lst ((Zl G.length).map λj=>D.int (Int.ofNat j))])=Nf at *;generalize S++[Ob.lst ((Zl G.length).map λj=>D.int (Int.ofNat j))]++[Ob.lst []]=S1 at *;have d1:Dr p S0 S1:=h.thenSm sm1;have fx1:Fxs p N S.length Nf S1 es G ((Zl G.length).map λj=>Int.ofNat j) []:=⟨gs.keep sm1.kp,al,af,nn,List.Perm.refl _,λj g e=>.inl (g0 g (Zi e))⟩;have sl:S0.length<=S.length:=by lia
 generalize S.length=Nl at *;refine aa (fT (sm1 _ _ gs.at_)) ?_;k_is;rw[le];refine⟨rfl,aJ d1.pot (by lia) (by lia) λt S2 t1 t2 d2=>?_⟩;refine⟨rfl,aJ d2.pot (by decide) (by decide) λz S3 z1 z2 d3=>?_⟩;k_is
 obtain⟨c,ec,hc⟩:∃c:Nat,atI [D.int 0,D.int t] z=some (D.int c)/\c<=G.length:=by
  have:z=0\/z=1:=by lia
  rcases this with rfl |rfl
  ·exact⟨0,rfl,Xa _⟩
  ·obtain⟨m,rfl⟩:∃m:Nat,t=(m:Int):=⟨t.toNat,by lia⟩;exact⟨m,rfl,by lia⟩
 refine⟨_,ec,?_⟩;k_is;refine⟨gR (by lia) (by lia),?_⟩;rw[ZJ];refine jl (by lia) (λi ρ S'=>Dr p S0 S'/\∃G' l F u13,ρ=[some (.ref p),some (.int 5),some (meL r s M H),some (.ref N),u4,u5,u6,u7,u8,u9,u10,some (.ref Nl),some (.ref Nf),u13,none]/\Fxs p N Nl Nf S' es G' l F/\F.length=i/\G'.length=G.length/\∀g ∈ G',GB M.length r s g) (λi ρ S4 hi ⟨d4,G',l,F,u13,er,fx,lF,lG,gb'⟩=>?_) (λρ S4 ⟨d4,G',l,F,u13,er,fx,lF,lG,gb'⟩=>?_) ⟨(d1.trans d2).trans d3,G,_,[],none,rfl,fx1.keep (d2.trans d3).kp lN,rfl,rfl,gb⟩
 ·subst er;refine⟨_,rfl,?_⟩;k_is;have pl:F.length+l.length=G'.length:=by have:=fx.pm.length_eq;rw[Zg,Za,ZC] at this;exact this
  refine⟨cg fx.af,?_⟩;refine⟨cg fx.al,?_⟩;refine aa (fT fx.al) ?_;rw[Za];refine⟨rfl,aJ d4.pot (by lia) (by lia) λj0 S5 j1 j2 d5=>?_⟩;obtain⟨j,rfl⟩:∃j:Nat,j0=(j:Int):=⟨j0.toNat,by lia⟩;have hj:j < l.length:=by lia
  have fx5:=fx.keep d5.kp lN;refine aa (Bs fx5.al hj) ?_;have nnf:=fx5.nn;have lt5:Nl < S5.length:=(Zb.mp fx5.al).1;have ltf:Nf < S5.length:=(Zb.mp fx5.af).1;have af6:(S5.set Nl (.lst ((l.eraseIdx j).map D.int)))[Nf]?=some (.lst (F.map D.int)):=by rw[Zp (by lia)];exact fx5.af
  rw[iX af6 (by rw[Za];lia)];k_is;have ef:F.map D.int++[D.int l[j]]=(F++[l[j]]).map D.int:=by rw[ZD];rfl
  rw[ef]
  have pm7:((F++[l[j]])++l.eraseIdx j).Perm ((Zl G'.length).map λi=>Int.ofNat i):=by
   rw[Z4];exact((tH hj).append_left F).trans fx.pm
  have fx7:Fxs p N Nl Nf ((S5.set Nl (.lst ((l.eraseIdx j).map D.int))).set Nf (.lst ((F++[l[j]]).map D.int))) es G' (l.eraseIdx j) (F++[l[j]]):=by
   refine⟨(fx5.gs.other (Zd _) lN).other (by lia) lN,?_,dh (by rw[ZX];exact ltf),nnf,pm7,λj' g e=>?_⟩
   ·rw[Zp (by lia),dh lt5]
   ·rcases fx.rg j' g e with z |z
    ·exact .inl z
    ·exact .inr (ZR _ z)
  have d7:Dr p S0 ((S5.set Nl (.lst ((l.eraseIdx j).map D.int))).set Nf (.lst ((F++[l[j]]).map D.int))):=⟨((d4.kp.trans d5.kp).setNew (by lia)).setNew (by lia),(d5.pot.setNe (by lia)).setNe (by lia)⟩;generalize (S5.set Nl (.lst ((l.eraseIdx j).map D.int))).set Nf (.lst ((F++[l[j]]).map D.int))=S7 at *;have xb:=(lA fx.pm).2.1 l[j] (ZG _ (ZQ hj));generalize l[j]=x at *;refine aa (show ixS (meL r s M H) (.int 0) S7=some (.int r,S7) from rfl) ?_;k_is;refine cz (λh1=>?_) λh1=>?_
  ·k_is;have r0:=of_decide_eq_true h1;have r8:=me.r8;refine⟨rfl,aJ d7.pot (by decide) (by decide) λy S8 y1 y2 d8=>?_⟩;k_is;have fx8:=fx7.keep d8.kp lN;refine cz (λh2=>?_) λh2=>?_
   ·k_is;refine aa (show ixS (meL r s M H) (.int 0) S8=some (.int r,S8) from rfl) ?_;refine⟨rfl,aJ d8.pot r0 (by lia) λw S9 w1 w2 d9=>?_⟩;k_is;have fx9:=fx8.keep d9.kp lN;refine aa (jE (ds:=F.map D.int) (e:=.int x) (by rw[fx9.af,ZD];rfl)) ?_;have hx:x.toNat < G'.length:=by lia
    obtain⟨a,ea,n1,n2,za⟩:=fx9.gs.row x.toNat G'[x.toNat] (gEG hx);refine aa (gQ fx9.gs.at_ xb.1 ea) ?_;k_is;obtain⟨kd,jo,fi,la,du,we,ri,eg,hb⟩:=gb' G'[x.toNat] (ZQ hx);rw[eg] at za;refine⟨_,uO (i:=6) za (by decide) (by show 6 < 7;decide),?_⟩;k_is;have es9:(([kd,jo,fi,la,du,we,ri]:List Int).map D.int).set (6:Int).toNat (.int (1+w))=([kd,jo,fi,la,du,we,1+w]:List Int).map D.int:=rfl;rw[es9];refine⟨⟨((d7.kp.trans d8.kp).trans d9.kp).setNew (by lia),d9.pot.setNe (by lia)⟩,G'.set x.toNat [kd,jo,fi,la,du,we,1+w],_,_,_,rfl,⟨fx9.gs.setRow hx ea,?_,?_,nnf,by rw[ZX];exact fx9.pm,λj' g e=>?_⟩,by rw[Zg,Zm];lia,by rw[ZX];exact lG,λg hg=>?_⟩
    ·rw[Zp (by lia)];exact fx9.al
    ·rw[Zp (by lia)];exact fx9.af
    ·by_cases hjj:j'=x.toNat
     ·subst hjj;right;have:((x.toNat:Nat):Int)=x:=by lia
      rw[this];exact ZG _ (Zy.mpr rfl)
     ·rw[Zp (Ne.symm hjj)] at e;exact fx9.rg j' g e
    ·rcases List.mem_or_eq_of_mem_set hg with hg |rfl
     ·exact gb' g hg
     ·exact⟨kd,jo,fi,la,du,we,1+w,rfl,by omega⟩
   ·k_is;exact⟨d7.trans d8,G',_,_,_,rfl,fx8,by rw[Zg,Zm];lia,lG,gb'⟩
  ·k_is;exact⟨d7,G',_,_,_,rfl,fx7,by rw[Zg,Zm];lia,lG,gb'⟩
 ·subst er;k_is;have pr:=lA fx.pm;have nnf:=fx.nn;exact tail _ _ G' es F Nf Nl S4 d4 fx.gs fx.af (by lia) (by lia) gb' (List.Nodup.sublist (List.sublist_append_left F l) pr.1) (λy hy=>pr.2.1 y (ZR _ hy)) fx.rg
theorem Fi(h:Pot p S)(q:∀K S',Dr p S S'->SkOk K->(∀g ∈ K.G,GB K.M.length K.r K.s g)->Q (skE K) S'):Ok (evC ac (k+4) 45 [.ref p,.int 5] S) Q:=by
 refine ax (d:=iV) (ρ:=[some (.ref p),some (.int 5),none,none,none,none,none,none,none,none,none,none,none,none,none]) rfl rfl ?_;have fix:=@Fh p;dsimp only[iV];dsimp only[fS,Yj] at fix ⊢;k_is;refine⟨rfl,tf h λr s M H S1 d1 me=>?_⟩;rw[show(D.tup [.int r,.int s,.tup (M.map aA),.tup (H.map ae)])=meL r s M H from rfl];k_is;have lt1:=d1.pot.lt;have m1:=me.m1;have m4:=me.m4;have s0:=me.s0;have s60:=me.s60;have sl:S.length<=S1.length:=Kp.len d1.kp lt1;have d2:Dr p S (S1++[Ob.lst []]):=d1.thenSm (Sm.app _ _);have g2:Gs p S1.length (Zj (S1++[Ob.lst []])) (S1++[Ob.lst []]) [] []:=⟨lt1,aI,rfl,λi g e=>by simp at e,λi j a e=>by simp at e⟩;generalize S1++[Ob.lst []]=S2 at *;generalize S1.length=N at *;refine⟨rfl,aJ d2.pot (by decide) (by decide) λi3 S3 j3 k3 d3=>?_⟩;k_is
 obtain⟨wd,at3,h3⟩:∃e:Int,atI [D.int 5,D.int 20,D.int 60] i3=some (D.int e)/\0 < e/\e<=60:=by
  have:i3=0\/i3=1\/i3=2:=by lia
  rcases this with rfl |rfl |rfl
  ·exact⟨5,rfl,by decide,by decide⟩
  ·exact⟨20,rfl,by decide,by decide⟩
  ·exact⟨60,rfl,by decide,by decide⟩
 refine⟨_,at3,?_⟩;refine⟨rfl,aJ d3.pot (by decide) (by decide) λi4 S4 j4 k4 d4=>?_⟩;k_is
 obtain⟨lg,at4,h4⟩:∃e:Int,atI [D.int 4,D.int 30,D.int 90,D.int 400] i4=some (D.int e)/\0 < e/\e<=400:=by
  have:i4=0\/i4=1\/i4=2\/i4=3:=by lia
  rcases this with rfl |rfl |rfl |rfl
  ·exact⟨4,rfl,by decide,by decide⟩
  ·exact⟨30,rfl,by decide,by decide⟩
  ·exact⟨90,rfl,by decide,by decide⟩
  ·exact⟨400,rfl,by decide,by decide⟩
 refine⟨_,at4,?_⟩;k_is;refine⟨rfl,aJ d4.pot (by decide) (by decide) λn0 S5 n1 n2 d5=>?_⟩;k_is;obtain⟨n,rfl⟩:∃n:Nat,n0=(n:Int):=⟨n0.toNat,by lia⟩;refine⟨gR (by lia) (by lia),?_⟩;rw[ZJ];have d25:=(d3.trans d4).trans d5;refine jl (by lia) (λi ρ S'=>Dr p S S'/\∃es G u6 u7 u8 u9 u10,ρ=[some (.ref p),some (.int 5),some (meL r s M H),some (.ref N),some (.int wd),some (.int lg),u6,u7,u8,u9,u10,none,none,none,none]/\Gs p N S'.length S' es G/\G.length=i/\∀g ∈ G,GB M.length r s g/\g.getD 6 0=0) (λi ρ S6 hi ⟨d6,es,G,u6,u7,u8,u9,u10,er,gs,lG,gb⟩=>?_) (λρ S6 ⟨d6,es,G,u6,u7,u8,u9,u10,er,gs,lG,gb⟩=>?_) ⟨d2.trans d25,[],[],none,none,none,none,none,rfl,(g2.keep d25.kp).up (Kp.len d25.kp d25.pot.lt),rfl,λg hg=>by simp at hg⟩
 ·subst er;refine⟨_,rfl,?_⟩;k_is;refine⟨rfl,aJ d6.pot h3.1 (by lia) λjo S7 o1 o2 d7=>?_⟩;k_is;refine aa (show ixS (meL r s M H) (.int 1) S7=some (.int s,S7) from rfl) ?_;k_is;refine⟨rfl,aJ d7.pot (by decide) (by decide) λx S8 x1 x2 d8=>?_⟩;refine⟨rfl,aJ d8.pot (by decide) (by decide) λz S9 z1 z2 d9=>?_⟩;k_is
  obtain⟨e,ate,he⟩:∃e:Int,atI [D.int 0,D.int x] z=some (D.int e)/\0<=e/\e<=9:=by
   have:z=0\/z=1:=by lia
   rcases this with rfl |rfl
   ·exact⟨0,rfl,by decide,by decide⟩
   ·exact⟨x,rfl,by lia,by lia⟩
  refine⟨_,ate,?_⟩;k_is;refine⟨rfl,aJ d9.pot h4.1 (by lia) λa Sa a1 a2 da=>?_⟩;k_is;refine⟨rfl,aJ da.pot h4.1 (by lia) λb Sb b1 b2 db=>?_⟩;k_is;have dAll:=(((d7.trans d8).trans d9).trans da).trans db;have gsb:=gs.keep dAll.kp;refine⟨cg gsb.at_,?_⟩;refine aa (show ixS (meL r s M H) (.int 2) Sb=some (.tup (M.map aA),Sb) from rfl) ?_;refine aa (show ai cD (.tup (M.map aA)) Sb=some (.int M.length,Sb) by simp only[ai,ay,cD,Za]) ?_;refine⟨rfl,aJ db.pot (by lia) (by lia) λkd Sc c1 c2 dc=>?_⟩;refine⟨rfl,aJ dc.pot (by decide) (by decide) λw Sd w1 w2 dd=>?_⟩;k_is
  obtain⟨we,atw,hw⟩:∃e:Int,atI [D.int 0,D.int 1,D.int 7,D.int 99] w=some (D.int e)/\0<=e/\e<=99:=by
   have:w=0\/w=1\/w=2\/w=3:=by lia
   rcases this with rfl |rfl |rfl |rfl
   ·exact⟨0,rfl,by decide,by decide⟩
   ·exact⟨1,rfl,by decide,by decide⟩
   ·exact⟨7,rfl,by decide,by decide⟩
   ·exact⟨99,rfl,by decide,by decide⟩
  refine⟨_,atw,?_⟩;k_is;have dAll2:=dAll.trans (dc.trans dd);have gsd:=(gs.keep dAll2.kp).up (Kp.len dAll2.kp dAll2.pot.lt);have atN:=Sm.app Sd [Ob.lst [D.int kd,D.int jo,D.int (jo+s+e),D.int (jo+s+e+a),D.int (jo+b),D.int we,D.int 0]] _ _ gsd.at_;rw[iX atN (by rw[gsd.len];lia)];k_is;have sn:=gsd.snoc (g:=[kd,jo,jo+s+e,jo+s+e+a,jo+b,we,0]);have d6d:=d6.trans dAll2;refine⟨⟨(d6d.kp.trans (Sm.app _ _).kp).setNew (by lia),((Dr.sm d6d.pot (Sm.app _ _)).pot).setNe (by have:=gsd.pN;lia)⟩,es++[D.ref (Zj Sd)],G++[[kd,jo,jo+s+e,jo+s+e+a,jo+b,we,0]],_,_,_,_,_,rfl,?_,by rw[Zg,Zm];lia,λg hg=>?_⟩
  ·rw[ZX,Zg,Zm];exact sn
  ·rcases ZO.mp hg with hg |hg
   ·exact gb g hg
   ·rw[Zy.mp hg];exact⟨⟨kd,jo,jo+s+e,jo+s+e+a,jo+b,we,0,rfl,by have:=me.r0;omega⟩,rfl⟩
 ·subst er;exact fix (hi:=0) d6 (by lia) gs me (by lia) (λg hg=>(gb g hg).1) (λg hg=>(gb g hg).2) q
theorem ve(sk:SkOk K){a:Option (Int × Int)}{g m:Int}{pl:Nat}(hg:0<=g/\g < K.G.length)(hs:Sn.step K a g pl=some m):0<=m/\m<=9999:=by
 have hi:g.toNat < K.G.length:=by lia
 obtain⟨kd,jo,fi,la,du,we,ri,eg,hb⟩:=sk.gb K.G[g.toNat] (ZQ hi);have e2:gi K.G g 2=fi:=by unfold gi;rw[gEG hi,eg];rfl
 have e3:gi K.G g 3=la:=by unfold gi;rw[gEG hi,eg];rfl
 unfold Sn.step at hs;split at hs
 ·cases hs
 ·rename_i hc;cases hs;rw[YH,decide_eq_true_eq,e3] at hc;have ge:=tF K.H (bc K a g)
  have f0:gi K.G g 2<=bc K a g:=by
   unfold bc;split
   ·exact ZP _
   ·split
    ·lia
    ·exact ZP _
  have s0:=sk.me.s0;rw[e2] at f0;have hc':¬ la < opm K.H (bc K a g):=λz=>hc (.inl z)
  lia
theorem Bt(sk:SkOk K){l:Bool}{g m x:Int}{n:Nat}(hg:0<=g/\g < K.G.length)(hm:0<=m/\m<=9999)(hx:0<=x/\x<=990000 * n):0<=jnd K l g m x/\jnd K l g m x<=990000 * (n+1:Nat):=by
 cases l with
 |true=>
  show 0<=(if x > m then x else m)/\(if x > m then x else m)<=_;split <;> lia
 |false=>
  have hi:g.toNat < K.G.length:=by lia
  obtain⟨kd,jo,fi,la,du,we,ri,eg,hb⟩:=sk.gb K.G[g.toNat] (ZQ hi);have e4:gi K.G g 4=du:=by unfold gi;rw[gEG hi,eg];rfl
  have e5:gi K.G g 5=we:=by unfold gi;rw[gEG hi,eg];rfl
  show 0<=cst K g m+x/\cst K g m+x<=_;unfold cst;rw[e4,e5];have t0:0<=(if m - du > 0 then m - du else 0)/\(if m - du > 0 then m - du else 0)<=9999:=by split <;> lia
  have p0:0<=we * (if m - du > 0 then m - du else 0):=Int.mul_nonneg (by lia) t0.1;have p1:we * (if m - du > 0 then m - du else 0)<=99 * 9999:=Int.mul_le_mul (by lia) t0.2 t0.1 (by decide);generalize we * (if m - du > 0 then m - du else 0)=w at *
  lia
theorem Gm(sk:SkOk K){l:Bool}:∀ (n:Nat) (ah:Option (Int × Int)) (left:List Int) (z:Int × List Int),(∀g ∈ left,0<=g/\g < K.G.length)->bb K l n ah left=some z->(0<=z.1/\z.1<=990000 * n)/\∀x ∈ z.2,0<=x/\x < K.G.length
 |0,_,_,z,_,h=>by cases h;exact⟨⟨ZP _,by decide⟩,λ_ h=>by cases h⟩
 |n+1,ah,left,z,hl,h=>by
  rw[jJ] at h;obtain⟨g,hg,e⟩:=Yl.mp (ni h);unfold bw at e;split at e
  ·cases e
  ·rename_i m hs;obtain⟨y,e1,rfl⟩:=ZK.mp e;obtain⟨i1,i2⟩:=Gm sk n _ _ y (λx hx=>hl x (ZW.mp hx).1) e1;refine⟨Bt sk (hl g hg) (ve sk (hl g hg) hs) i1,λx hx=>?_⟩;rcases Zn.mp hx with rfl |hx
   ·exact hl _ hg
   ·exact i2 x hx
theorem Gn(sk:SkOk K):∀ (os:List Int) (a:Option (Int × Int)) (L R:List (Int × Int)),(∀g ∈ os,0<=g/\g < K.G.length)->(∀y ∈ L,(0<=y.1/\y.1 < K.G.length)/\0<=y.2/\y.2<=9999)->rn K os a L = .inr R->∀y ∈ R,(0<=y.1/\y.1 < K.G.length)/\0<=y.2/\y.2<=9999
 |[],_,L,R,_,hL,e=>by cases e;exact hL
 |g::os,a,L,R,ho,hL,e=>by
  rw[rn] at e;split at e
  ·cases e
  ·rename_i m hs;split at e
   ·cases e
   ·refine Gn sk os _ _ R (λx hx=>ho x (Zf _ hx)) (λz hz=>?_) e;rcases ZO.mp hz with hz |hz
    ·exact hL z hz
    ·rw[Zy.mp hz];exact⟨ho g Zh,ve sk (ho g Zh) hs⟩
theorem Ov(sk:SkOk K){l:Bool}{x:Int}{n:Nat}(hx:0<=x/\x<=990000 * n):∀ (R:List (Int × Int)),(∀y ∈ R,(0<=y.1/\y.1 < K.G.length)/\0<=y.2/\y.2<=9999)->0<=W K l R x/\W K l R x<=990000 * (n+R.length:Nat)
 |[],_=>hx
 |y::R,h=>by
  have ih:=Ov sk (l:=l) hx R λz hz=>h z (Zf _ hz);have h0:=h y Zh;exact Bt sk h0.1 h0.2 ih
theorem Bu(sk:SkOk K){l:Bool}{z:Int × List Int}(h:cT K l=some z):(0<=z.1/\z.1<=990000 * 14)/\z.2.length<=14/\∀x ∈ z.2,0<=x/\x < 7:=by
 unfold cT at h;have g7:=sk.g7;have lF:=Dw.bj K.G.length K.F sk.nd sk.bd;cases hr:rn K K.F K.ah [] with
 |inl j=>rw[hr] at h;cases h
 |inr R=>
  rw[hr] at h;obtain⟨y,e,rfl⟩:=ZK.mp h;have fl:=uT (ah:=none) sk (λ_ h=>by cases h);have fle:=fl.le;obtain⟨b1,b2⟩:=Gm sk _ _ _ y fl.bd e;have lR:=jG K.F _ _ R hr;have ly:=oU _ _ _ y e;rw[Z1,Y5] at lR;have:=Ov sk (l:=l) b1 R (Gn sk K.F _ [] R sk.bd (λ_ h=>by cases h) hr);refine⟨⟨this.1,Xi this.2 (by lia)⟩,by rw[Zg,ly];lia,λx hx=>?_⟩;rcases ZO.mp hx with hx |hx
  ·have:=sk.bd x hx;lia
  ·have:=b2 x hx;lia
abbrev cC:Nat->Nat
 |0=>100
 |n+1=>14 * (cC n+2)+100
structure PB(n:Nat)(t:Dw.D):Prop where
 ft:Dw.Fit n 14 t
 bd:Dw.Bd (10 ^ 31) (cC n) t
theorem Ow{n:Nat}:cC n<=cC (n+1):=by rw[cC];lia
theorem PB.up{n:Nat}{t:Dw.D}(h:PB n t):PB (n+1) t:=⟨h.ft.up (Yp _) (Zd _),h.bd.bn,ZI h.bd.sz Ow⟩
theorem PB.tup{n:Nat}{ts:List Dw.D}(hl:ts.length<=14)(h:∀t ∈ ts,PB n t):PB (n+1) (.tup ts):=by
 refine⟨Dw.Fit.tup hl λt ht=>(h t ht).ft,Dw.Hf (λt ht=>(h t ht).bd.bn) ?_⟩;have:=Bq (c:=cC n) λt ht=>(h t ht).bd.sz;have h2:ts.length * (cC n+2)<=14 * (cC n+2):=YY _ hl;rw[cC]
 lia
theorem oZ{t:Dw.D}(hd:Dw.dep t=0)(hw:Dw.wid t=0)(hb:Dw.bnd (10 ^ 31) t)(hs:Dw.sz t<=100):PB 0 t:=⟨⟨by lia,by lia⟩,hb,hs⟩
theorem o0{i:Int}(h:0<=i/\i<=99999999):PB 0 (.int i):=oZ (by simp only[Dw.dep]) (by simp only[Dw.wid]) (by simp only[Dw.bnd];lia) (by simp only[Dw.sz];decide)
theorem Pk:PB 0 .non:=oZ (by simp only[Dw.dep]) (by simp only[Dw.wid]) (by simp only[Dw.bnd]) (by simp only[Dw.sz];decide)
theorem PB.shw{t:Dw.D}(h:PB 4 t):Shw t:=Lp h.ft h.bd (by decide) (by decide) (by decide) (by decide)
theorem jL{l:List Int}(h:∀x ∈ l,0<=x/\x<=9999)(hl:l.length<=14):PB 1 (.tup (l.map Dw.D.int)):=PB.tup (by rw[Za];exact hl) λt ht=>by
 obtain⟨x,hx,rfl⟩:=ZL.mp ht;exact o0 (by have:=h x hx;lia)
theorem Bv{M:List (List Int)}(hl:M.length<=14)(h:∀r ∈ M,r.length<=14/\∀x ∈ r,0<=x/\x<=9999):PB 2 (.tup (Dw.jr M)):=PB.tup (by unfold Dw.jr;rw[Za];exact hl) λt ht=>by
 unfold Dw.jr at ht;obtain⟨r,hr,rfl⟩:=ZL.mp ht;exact jL (h r hr).2 (h r hr).1
theorem Bw{a b:Int}(h1:0<=a/\a<=9999)(h2:0<=b/\b<=9999):PB 1 (.tup [.int a,.int b]):=jL (l:=[a,b]) (λx hx=>by
 rcases Zn.mp hx with rfl |hx
 ·exact h1
 ·rw[Zy.mp hx];exact h2) (by show 2<=14;decide)
theorem bV{n:Nat}{t:Dw.D}{ts:List Dw.D}(h:PB n t)(q:∀t ∈ ts,PB n t):∀u ∈ t::ts,PB n u:=λu hu=>by
 rcases Zn.mp hu with rfl |hu
 ·exact h
 ·exact q u hu
theorem tI{n:Nat}:∀u ∈ ([]:List Dw.D),PB n u:=λu hu=>by cases hu
theorem Fj(h:SkOk K):Shw (skT K):=by
 have g7:=h.g7;have m4:=h.me.m4;have h4:=h.me.h4;have r8:=h.me.r8;have r0:=h.me.r0;have s60:=h.me.s60;have s0:=h.me.s0;have lF:=Dw.bj K.G.length K.F h.nd h.bd;have rowM:PB 2 (.tup (Dw.jr K.M)):=Bv (by lia) λr hr=>⟨by rw[h.me.mat.row r hr];lia,λx hx=>by have:=h.me.mat.ent r hr x hx;lia⟩
 have rowG:PB 2 (.tup (Dw.jr K.G)):=Bv (by lia) λr hr=>by
  obtain⟨kd,jo,fi,la,du,we,ri,rfl,hb⟩:=h.gb r hr;refine⟨by show 7<=14;decide,λx hx=>?_⟩;simp only[Zn,Xg,or_false] at hx;omega
 have rowH:PB 2 (.tup (K.H.map Dw.mD)):=PB.tup (by rw[Za];lia) λt ht=>by
  obtain⟨z,hz,rfl⟩:=ZL.mp ht;have a:=jH h.me.ris hz;have b:=h.me.hb z hz;exact Bw (by lia) (by lia)
 have fxs:PB 1 (.tup (K.F.map Dw.D.int)):=jL (λx hx=>by have:=h.bd x hx;lia) (by lia)
 have ah:PB 1 (ahT K.ah):=by
  cases hq:K.ah with
  |none=>exact Pk.up
  |some z=>
   have:=h.ah z hq;exact Bw (by lia) (by lia)
 exact(PB.tup (n:=3) (by show 4<=14;decide) (bV (PB.tup (by show 4<=14;decide) (bV (o0 (by lia)).up.up (bV (o0 (by lia)).up.up (bV rowM (bV rowH tI))))) (bV ah.up.up (bV rowG.up (bV fxs.up.up tI))))).shw
abbrev Go:Option (Int × List Int)->Dw.D
 |none=>.non
 |some z=>.tup [.str "order", .int z.1,.tup (z.2.map Dw.D.int)]
theorem Fk:∀ {o:Option (Int × List Int)},TD p S (Go o) (A9 o)
 |none=>zW
 |some z=>bp (ak IG (ak bu (ak (bp (eG _)) bE)))
theorem Bx(sk:SkOk K){l:Bool}:Shw (Go (cT K l)):=by
 cases h:cT K l with
 |none=>exact Pk.up.up.up.up.shw
 |some z=>
  obtain⟨h1,h2,h3⟩:=Bu sk h;exact(PB.tup (n:=1) (by show 3<=14;decide) (bV (oZ (by simp only[Dw.dep]) (by simp only[Dw.wid]) (by simp only[Dw.bnd]) (by simp only[Dw.sz];decide +kernel)).up (bV (o0 (by lia)).up (bV (jL (λx hx=>by have:=h3 x hx;lia) h2) tI)))).up.up.shw
theorem Bz(sk:SkOk K)(l:Bool)(q:∀S',Sm S S'->Q (A9 (cT K l)) S'):Ok (evC ac (k+5) 54 [skE K,bQ l] S) Q:=by
 refine ax (d:=iW) (ρ:=[some (skE K),some (bQ l),none]) rfl rfl ?_;dsimp only[iW,m6];k_is;refine⟨rfl,Bp (k:=k) sk λS1 s1=>?_⟩;have:=q S1 s1;k_is;cases hb:cT K l with
 |none=>
  rw[hb] at this;refine aa (show aj .is (aY none) .non S1=some (.bl true,S1) from rfl) ?_;k_is;exact this
 |some z=>
  rw[hb] at this;rw[show aY (some z) = .tup [.int z.1,.tup (z.2.map D.int)] from rfl];refine aa (show aj .is (.tup [.int z.1,.tup (z.2.map D.int)]) .non S1=some (.bl false,S1) from rfl) ?_;k_is;refine aa (show ixS (.tup [.int z.1,.tup (z.2.map D.int)]) (.int 0) S1=some (.int z.1,S1) from rfl) (aa (show ixS (.tup [.int z.1,.tup (z.2.map D.int)]) (.int 1) S1=some (.tup (z.2.map D.int),S1) from rfl) ?_);k_is;exact this
abbrev tuK(K:Sky):Sky:=⟨K.r,K.s,K.M,K.H,K.ah,K.G.reverse,K.F.map λx=>K.G.length - 1 - x⟩
theorem Ox(sk:SkOk K):SkOk (tuK K):=by
 refine⟨sk.me,by show K.G.reverse.length<=7;rw[ZU];exact sk.g7,λg hg=>sk.gb g (X0.mp hg),?_,λx hx=>?_,λj g hg=>?_,sk.ah⟩
 ·exact YM.mpr (sk.nd.imp λh z=>h (by lia))
 ·obtain⟨y,hy,rfl⟩:=ZL.mp hx;have:=sk.bd y hy;show 0<=_/\_ < (K.G.reverse.length:Int);rw[ZU]
  lia
 ·have hg:K.G.reverse[j]?=some g:=hg;have hj:=(Zb.mp hg).1;rw[ZU] at hj;rw[List.getElem?_reverse hj] at hg;rcases sk.rg _ g hg with z |z
  ·exact .inl z
  ·refine .inr (ZL.mpr ⟨_,z,?_⟩)
   lia
theorem xf(sk:SkOk K)(q:∀S',Sm S S'->Q (skE (tuK K)) S'):Ok (evC ac (k+1) 53 [skE K] S) Q:=by
 refine ax (d:=eB) (ρ:=[some (skE K),none]) rfl rfl ?_;dsimp only[eB,ik];have g7:=sk.g7;have lF:=Dw.bj K.G.length K.F sk.nd sk.bd;k_is;refine aa sk2 (aa bA ?_);k_is;refine aa sk0 (aa sk1 (aa sk2 (aa (show pZ (.tup (K.G.map aA)) S=some (.tup (K.G.map aA).reverse,S) from rfl) (aa sk3 ?_))));k_is;refine bI K.F D.int (λx=>[.int (K.G.length - 1 - x)]) (by lia) (λ_ _=>Zd _) cp (λi x S' hx sm=>⟨_,rfl,?_⟩) λS1 s1=>?_
 ·k_is;exact⟨rfl,Sm.refl _⟩
 ·rw[bL];refine aa (show cX false _ S1=some (.tup _,S1) from rfl) ?_;k_is;have:=q S1 s1;unfold skE tuK at this;dsimp only at this;rw[XZ,Z7] at this;exact this
abbrev saR(g:List Int):List Int:=g.take 4++9::g.drop 5
abbrev saK(K:Sky):Sky:=⟨K.r,K.s,K.M,K.H,K.ah,K.G.map saR,K.F⟩
theorem Oy(sk:SkOk K):SkOk (saK K):=by
 refine⟨sk.me,by show(K.G.map saR).length<=7;rw[Za];exact sk.g7,λg hg=>?_,sk.nd,λx hx=>?_,λj g hg=>?_,sk.ah⟩
 ·obtain⟨r,hr,rfl⟩:=ZL.mp hg;obtain⟨kd,jo,fi,la,du,we,ri,rfl,hb⟩:=sk.gb r hr;exact⟨kd,jo,fi,la,9,we,ri,rfl,by show 0<=kd/\kd < (K.M.length:Int)/\0<=jo/\jo+K.s<=fi/\fi<=la/\la<=9999/\(0:Int)<=9/\(9:Int)<=9999/\0<=we/\we<=99/\0<=ri/\ri<=K.r;omega⟩
 ·show 0<=x/\x < ((K.G.map saR).length:Int);rw[Za];exact sk.bd x hx
 ·have hg:(K.G.map saR)[j]?=some g:=hg;rw[Zs] at hg;obtain⟨r,hr,rfl⟩:=ZK.mp hg;obtain⟨kd,jo,fi,la,du,we,ri,rfl,hb⟩:=sk.gb r (Zi hr);have:=sk.rg j _ hr;exact this
theorem main(ns:List Int)(hl:ns.length<=63):∃S',evC ac 40 55 [.ref 0] [.frz (ns.map D.int)]=some (.bl true,S'):=by
 have key:Ok (evC ac 40 55 [.ref 0] [.frz (ns.map D.int)]) λd _=>d = .bl true:=by
  refine ax (d:=uB) (ρ:=[some (.ref 0),none,none,none,none,none,none,none]) rfl rfl ?_;dsimp only[uB,F0];k_is;have ln:ai cD (.ref 0) [Ob.frz (ns.map D.int)]=some (.int ns.length,[Ob.frz (ns.map D.int)]):=by simp only[ai,ay,am,List.getElem?_cons_zero,ZA,cD,Za]
  refine aa ln ?_;k_is
  obtain⟨n,en,hn⟩:∃n:Nat,(if (if (6:Int) < ns.length then (6:Int) else ns.length) > 1 then (if (6:Int) < ns.length then (6:Int) else ns.length) else 1)=(n:Int)/\n<=6:=by
   refine⟨(if (if (6:Int) < ns.length then (6:Int) else ns.length) > 1 then (if (6:Int) < ns.length then (6:Int) else ns.length) else 1).toNat,?_,?_⟩
   ·split <;> split <;> omega
   ·split <;> split <;> omega
  rw[en];refine⟨gR (by lia) (by lia),?_⟩;rw[ZJ];refine jl (by lia) (λi ρ S'=>S'[0]?=some (.frz (ns.map D.int))/\∃a b c d e f g,ρ=[some (.ref 0),a,b,c,d,e,f,g]) (λi ρ S1 hi iv=>?_) (λρ S1 iv=>?_) ⟨rfl,_,_,_,_,_,_,_,rfl⟩
  ·obtain⟨h1,a,b,c,d,e,f,g,rfl⟩:=iv;refine⟨_,rfl,?_⟩;rw[Wg];k_is;refine⟨rfl,EM (k:=38) h1 λx=>?_⟩;refine⟨rfl,K0 (k:=38) λm=>?_⟩;have n0:S1.length ≠ 0:=λz=>by rw[Z3.mp z] at h1;cases h1
   have h2:=Sm.app S1 [Ob.lst [D.int m]] _ _ h1;have pt:Pot S1.length (S1++[Ob.lst [D.int m]]):=⟨m,aI⟩;generalize S1++[Ob.lst [D.int m]]=S2 at *;generalize S1.length=p at *;k_is;refine⟨rfl,Fi (k:=35) pt λK S3 d3 sk _=>?_⟩;have h3:=d3.kp _ _ (Ne.symm n0) h2;have g7:=sk.g7;k_is;refine aa sk2 ?_;k_is;refine bI K.G aA (λg=>[aA (saR g)]) (by lia) (λ_ _=>Zd _) cp (λi g S' hg sm=>⟨_,rfl,?_⟩) λS4 s4=>?_
   ·obtain⟨kd,jo,fi,la,du,we,ri,rfl,hb⟩:=sk.gb g (Zi hg);rw[show aA [kd,jo,fi,la,du,we,ri] = .tup [.int kd,.int jo,.int fi,.int la,.int du,.int we,.int ri] from rfl];k_is;rw[show fW [D.int kd,.int jo,.int fi,.int la,.int du,.int we,.int ri] none (some 4)=[.int kd,.int jo,.int fi,.int la] from rfl,show fW [D.int kd,.int jo,.int fi,.int la,.int du,.int we,.int ri] (some 5) none=[.int we,.int ri] from rfl];exact⟨(by decide:4+1<=1000),(by decide:5+2<=1000),rfl,Sm.refl _⟩
   ·rw[bL];refine aa (show cX false _ S4=some (.tup _,S4) from rfl) ?_;have h4:=s4 _ _ h3;k_is;refine⟨rfl,xf (k:=38) sk λS5 s5=>?_⟩;refine aa sk0 (aa sk1 (aa sk3 ?_));k_is;have h5:=s5 _ _ h4
    have es:D.tup [meE K,ahE K.ah,D.tup (K.G.map λg=>aA (saR g)),D.tup (K.F.map D.int)]=skE (saK K):=by
     show _=D.tup [meE K,ahE K.ah,D.tup ((K.G.map saR).map aA),D.tup (K.F.map D.int)];rw[Z7];rfl
    rw[es]
    have at3:∀ (i:Nat) d,[skE K,skE (tuK K),skE (saK K)][i]?=some d->∃K',d=skE K'/\SkOk K':=λi d h=>by
     match i with
     |0=>cases h;exact⟨K,rfl,sk⟩
     |1=>cases h;exact⟨tuK K,rfl,Ox sk⟩
     |2=>cases h;exact⟨saK K,rfl,Oy sk⟩
     |_+3=>cases h
    refine AH (by show 3<=100000;decide) (λ_ ρ S'=>S'[0]?=some (.frz (ns.map D.int))/\∃a b c d e f g,ρ=[some (.ref 0),a,b,c,d,e,f,g]) (λi' d ρ S6 hd iv=>?_) (λρ S6 iv=>?_) ⟨h5,_,_,_,_,_,_,_,rfl⟩
    ·obtain⟨h6,a,b,c,d',e,f,g,rfl⟩:=iv;obtain⟨K',rfl,sk'⟩:=at3 i' d hd;have rs:=λS=>u0 (p:=0) (S:=S) (Og (K:=K')) (Fj sk');have rt:=λl S=>u0 (p:=0) (S:=S) (Fk (o:=cT K' l)) (Bx sk');generalize (Dw.aX (skT K')).shown=w at *;refine⟨_,rfl,?_⟩;k_is;refine aa (rs S6) ?_;k_is;refine⟨by decide,?_⟩;refine jl (by decide) (λ_ ρ S'=>S'[0]?=some (.frz (ns.map D.int))/\∃g,ρ=[some (.ref 0),a,b,c,d',some (skE K'),some (.str w),g]) (λt ρ S7 ht iv=>?_) (λρ S7 iv=>?_) ⟨h6,_,rfl⟩
     ·obtain⟨h7,g,rfl⟩:=iv;refine⟨_,rfl,?_⟩;k_is;refine⟨rfl,qY (k:=18) sk' true λS8 s8=>aa (rt true S8) ?_⟩;refine⟨rfl,Bz (k:=34) sk' true λS9 s9=>aa (rt true S9) ?_⟩;refine aa (jK _ _ S9) ?_;rw[beq_self_eq_true];k_is;refine aa (rs S9) (aa (jK _ _ S9) ?_);rw[beq_self_eq_true];k_is;refine⟨rfl,qY (k:=18) sk' false λSa sa=>aa (rt false Sa) ?_⟩;refine⟨rfl,Bz (k:=34) sk' false λSb sb=>aa (rt false Sb) ?_⟩;refine aa (jK _ _ Sb) ?_;rw[beq_self_eq_true];k_is;refine aa (rs Sb) (aa (jK _ _ Sb) ?_);rw[beq_self_eq_true];k_is;exact⟨(s8.trans (s9.trans (sa.trans sb))) _ _ h7,_,rfl⟩
     ·obtain⟨h7,g,rfl⟩:=iv;k_is;exact⟨h7,_,_,_,_,_,_,_,rfl⟩
    ·obtain⟨h6,a,b,c,d',e,f,g,rfl⟩:=iv;k_is;exact⟨h6,_,_,_,_,_,_,_,rfl⟩
  ·obtain⟨h1,a,b,c,d,e,f,g,rfl⟩:=iv;k_is
 obtain⟨d,S',e,rfl⟩:=key;exact⟨S',e⟩
end Lw
theorem PySem.Challenge.cw_downrings_k36_best_by_all_orders_holds : PySem.Challenge.rw_downrings_k36_best_by_all_orders.Holds :=
 Lw.head Lw.main
