import PyProof.Rows.All
import KE.KIsAll
import KE.KLam
import KE.KMinBuiltin
import KE.KNestM
import KE.KRevSl
import KE.KSortTup
import KE.KStateDown
import PySem.Challenge.RW_downrings_k56_whole_just_so_much_longer
set_option Elab.async false
set_option linter.all false
set_option maxRecDepth 100000
set_option maxHeartbeats 4000000
local macro_rules|`(abbrev $n:declId $s:optDeclSig $v:declVal)=>`(noncomputable def $n $s:optDeclSig $v:declVal)
local macro_rules|`(def $n:declId $s:optDeclSig $v:declVal)=>do let d:=⟨Lean.mkNode `Lean.Parser.Command.declSig #[s.raw[0],s.raw[1][0]]⟩;`(theorem $n $d $v:declVal)
open Option renaming some → aw,none → aD
open Bool renaming true → aN,false → aS
namespace Xobt
variable{P:Prop}
def ex1{p:A→Prop}(h:∃a,p a)(k:∀a,p a→P):P:=let⟨a,h⟩:=h;k a h
def ex2{p:A→B→Prop}(h:∃a b,p a b)(k:∀a b,p a b→P):P:=let⟨a,b,h⟩:=h;k a b h
def ex3{p:A→B→C→Prop}(h:∃a b c,p a b c)(k:∀a b c,p a b c→P):P:=let⟨a,b,c,h⟩:=h;k a b c h
def ex4{p:A→B→C→D→Prop}(h:∃a b c d,p a b c d)(k:∀a b c d,p a b c d→P):P:=let⟨a,b,c,d,h⟩:=h;k a b c d h
def ex5{p:A→B→C→D→E→Prop}(h:∃a b c d e,p a b c d e)(k:∀a b c d e,p a b c d e→P):P:=let⟨a,b,c,d,e,h⟩:=h;k a b c d e h
def ex6{p:A→B→C→D→E→F→Prop}(h:∃a b c d e f,p a b c d e f)(k:∀a b c d e f,p a b c d e f→P):P:=let⟨a,b,c,d,e,f,h⟩:=h;k a b c d e f h
def ex7{p:A→B→C→D→E→F→G→Prop}(h:∃a b c d e f g,p a b c d e f g)(k:∀a b c d e f g,p a b c d e f g→P):P:=let⟨a,b,c,d,e,f,g,h⟩:=h;k a b c d e f g h
def ex8{p:A→B→C→D→E→F→G→I→Prop}(h:∃a b c d e f g i,p a b c d e f g i)(k:∀a b c d e f g i,p a b c d e f g i→P):P:=let⟨a,b,c,d,e,f,g,i,h⟩:=h;k a b c d e f g i h
def ex9{p:A→B→C→D→E→F→G→I→J→Prop}(h:∃a b c d e f g i j,p a b c d e f g i j)(k:∀a b c d e f g i j,p a b c d e f g i j→P):P:=let⟨a,b,c,d,e,f,g,i,j,h⟩:=h;k a b c d e f g i j h
def ex10{p:A→B→C→D→E→F→G→I→J→L→Prop}(h:∃a b c d e f g i j l,p a b c d e f g i j l)(k:∀a b c d e f g i j l,p a b c d e f g i j l→P):P:=let⟨a,b,c,d,e,f,g,i,j,l,h⟩:=h;k a b c d e f g i j l h
def ex14{p:A→B→C→D→E→F→G→I→J→L→M→N→O→Q→Prop}(h:∃a b c d e f g i j l m n o q,p a b c d e f g i j l m n o q)(k:∀a b c d e f g i j l m n o q,p a b c d e f g i j l m n o q→P):P:=let⟨a,b,c,d,e,f,g,i,j,l,m,n,o,q,h⟩:=h;k a b c d e f g i j l m n o q h
def an2(h:a∧b)(k:a→b→P):P:=k h.1 h.2
def an3(h:a∧b∧c)(k:a→b→c→P):P:=k h.1 h.2.1 h.2.2
def an4(h:a∧b∧c∧d)(k:a→b→c→d→P):P:=k h.1 h.2.1 h.2.2.1 h.2.2.2
def an5(h:a∧b∧c∧d∧e)(k:a→b→c→d→e→P):P:=k h.1 h.2.1 h.2.2.1 h.2.2.2.1 h.2.2.2.2
def an6(h:a∧b∧c∧d∧e∧f)(k:a→b→c→d→e→f→P):P:=k h.1 h.2.1 h.2.2.1 h.2.2.2.1 h.2.2.2.2.1 h.2.2.2.2.2
def an7(h:a∧b∧c∧d∧e∧f∧g)(k:a→b→c→d→e→f→g→P):P:=k h.1 h.2.1 h.2.2.1 h.2.2.2.1 h.2.2.2.2.1 h.2.2.2.2.2.1 h.2.2.2.2.2.2
def an8(h:a∧b∧c∧d∧e∧f∧g∧i)(k:a→b→c→d→e→f→g→i→P):P:=k h.1 h.2.1 h.2.2.1 h.2.2.2.1 h.2.2.2.2.1 h.2.2.2.2.2.1 h.2.2.2.2.2.2.1 h.2.2.2.2.2.2.2
def an9(h:a∧b∧c∧d∧e∧f∧g∧i∧j)(k:a→b→c→d→e→f→g→i→j→P):P:=k h.1 h.2.1 h.2.2.1 h.2.2.2.1 h.2.2.2.2.1 h.2.2.2.2.2.1 h.2.2.2.2.2.2.1 h.2.2.2.2.2.2.2.1 h.2.2.2.2.2.2.2.2
def an10(h:a∧b∧c∧d∧e∧f∧g∧i∧j∧l)(k:a→b→c→d→e→f→g→i→j→l→P):P:=k h.1 h.2.1 h.2.2.1 h.2.2.2.1 h.2.2.2.2.1 h.2.2.2.2.2.1 h.2.2.2.2.2.2.1 h.2.2.2.2.2.2.2.1 h.2.2.2.2.2.2.2.2.1 h.2.2.2.2.2.2.2.2.2
def an13(h:a∧b∧c∧d∧e∧f∧g∧i∧j∧l∧m∧n∧o)(k:a→b→c→d→e→f→g→i→j→l→m→n→o→P):P:=k h.1 h.2.1 h.2.2.1 h.2.2.2.1 h.2.2.2.2.1 h.2.2.2.2.2.1 h.2.2.2.2.2.2.1 h.2.2.2.2.2.2.2.1 h.2.2.2.2.2.2.2.2.1 h.2.2.2.2.2.2.2.2.2.1 h.2.2.2.2.2.2.2.2.2.2.1 h.2.2.2.2.2.2.2.2.2.2.2.1 h.2.2.2.2.2.2.2.2.2.2.2.2
def in2{p:A→B→Prop}(a:A)(b:B)(h:p a b):∃a b,p a b:=⟨a,b,h⟩
def in3{p:A→B→C→Prop}(a:A)(b:B)(c:C)(h:p a b c):∃a b c,p a b c:=⟨a,b,c,h⟩
def in4{p:A→B→C→D→Prop}(a:A)(b:B)(c:C)(d:D)(h:p a b c d):∃a b c d,p a b c d:=⟨a,b,c,d,h⟩
def in5{p:A→B→C→D→E→Prop}(a:A)(b:B)(c:C)(d:D)(e:E)(h:p a b c d e):∃a b c d e,p a b c d e:=⟨a,b,c,d,e,h⟩
def in6{p:A→B→C→D→E→F→Prop}(a:A)(b:B)(c:C)(d:D)(e:E)(f:F)(h:p a b c d e f):∃a b c d e f,p a b c d e f:=⟨a,b,c,d,e,f,h⟩
def in7{p:A→B→C→D→E→F→G→Prop}(a:A)(b:B)(c:C)(d:D)(e:E)(f:F)(g:G)(h:p a b c d e f g):∃a b c d e f g,p a b c d e f g:=⟨a,b,c,d,e,f,g,h⟩
def in8{p:A→B→C→D→E→F→G→I→Prop}(a:A)(b:B)(c:C)(d:D)(e:E)(f:F)(g:G)(i:I)(h:p a b c d e f g i):∃a b c d e f g i,p a b c d e f g i:=⟨a,b,c,d,e,f,g,i,h⟩
def in9{p:A→B→C→D→E→F→G→I→J→Prop}(a:A)(b:B)(c:C)(d:D)(e:E)(f:F)(g:G)(i:I)(j:J)(h:p a b c d e f g i j):∃a b c d e f g i j,p a b c d e f g i j:=⟨a,b,c,d,e,f,g,i,j,h⟩
def in10{p:A→B→C→D→E→F→G→I→J→L→Prop}(a:A)(b:B)(c:C)(d:D)(e:E)(f:F)(g:G)(i:I)(j:J)(l:L)(h:p a b c d e f g i j l):∃a b c d e f g i j l,p a b c d e f g i j l:=⟨a,b,c,d,e,f,g,i,j,l,h⟩
def in12{p:A→B→C→D→E→F→G→I→J→L→M→N→Prop}(a:A)(b:B)(c:C)(d:D)(e:E)(f:F)(g:G)(i:I)(j:J)(l:L)(m:M)(n:N)(h:p a b c d e f g i j l m n):∃a b c d e f g i j l m n,p a b c d e f g i j l m n:=⟨a,b,c,d,e,f,g,i,j,l,m,n,h⟩
end Xobt
local macro_rules
|`(tactic|obtain⟨$ps,*⟩:=$e:term)=>do
 let ps:=ps.getElems
 let n:=ps.size
 if n<2 then Lean.Macro.throwUnsupported
 let I (s:String):Lean.MacroM (Lean.TSyntax `ident):=return Lean.mkIdent (Lean.Name.mkSimple s)
 let mut vs:Array (Lean.TSyntax `ident):=#[]
 let mut sb:Array (Lean.TSyntax `tactic):=#[]
 for p in ps do
  let y ← I s!"ξ{vs.size}"
  match p with
  |`(Lean.Parser.Tactic.rcasesPatLo|$x:ident)=>
   if x.getId==`rfl then
    vs:=vs.push y
    sb:=sb.push (← `(tactic|subst $y))
   else vs:=vs.push x
  |`(Lean.Parser.Tactic.rcasesPatLo|_)=>vs:=vs.push y
  |_=>Lean.Macro.throwUnsupported
 let z ← I "ξ"
 let w ← I "ζ"
 let N (s:String):=Lean.mkIdent (`Xobt++Lean.Name.mkSimple s)
 let mk (e:Lean.TSyntax `term)(c:Array (Lean.TSyntax `tactic)):Lean.MacroM (Lean.TSyntax `tactic):=do
  let mut al:=#[]
  for i in [0:n] do
   let k:=n-1-i
   let m:=n-k
   if k>16||m>18 then continue
   let a:=vs.extract 0 k
   let b:=vs.extract k n
   let E:=N s!"ex{k}"
   let A:=N s!"an{m}"
   al:=al.push (← if k==0 then `(tacticSeq|(refine $A $e λ$b*=>?_;$[$c]*)) else if m==1 then `(tacticSeq|(refine $E $e λ$vs*=>?_;$[$c]*)) else `(tacticSeq|(refine $E $e λ$a* $z=>$A $z λ$b*=>?_;clear $z;$[$c]*)))
  al:=al.push (← `(tacticSeq|fail))
  `(tactic|first $[| $al]*)
 let t ← mk e sb
 if e.raw.isIdent then
  let i:Lean.TSyntax `ident:=⟨e.raw⟩
  let s ← mk w (#[← `(tactic|clear $w)]++sb)
  `(tactic|first|(revert $i;intro $w:ident;$s:tactic)|$t:tactic)
 else return t
|`(tactic|exact⟨$ps,*⟩)=>do
 let ps:=ps.getElems
 let n:=ps.size
 if n<3 then Lean.Macro.throwUnsupported
 let mut al:=#[]
 for i in [1:n-1] do
  let k:=n-i
  if k>12 then continue
  let a:=ps.extract 0 k
  let b:=ps.extract k n
  let E:=Lean.mkIdent (`Xobt++Lean.Name.mkSimple s!"in{k}")
  let r ← if b.size==1 then pure b[0]! else `(⟨$b,*⟩)
  al:=al.push (← `(tacticSeq|exact $E $a* $r))
 `(tactic|first $[| $al]*)
|`(tactic|refine⟨$ps,*⟩)=>do
 let ps:=ps.getElems
 let n:=ps.size
 if n<3 then Lean.Macro.throwUnsupported
 let mut al:=#[]
 for i in [1:n-1] do
  let k:=n-i
  if k>12 then continue
  let a:=ps.extract 0 k
  let b:=ps.extract k n
  let E:=Lean.mkIdent (`Xobt++Lean.Name.mkSimple s!"in{k}")
  let r ← if b.size==1 then pure b[0]! else `(⟨$b,*⟩)
  al:=al.push (← `(tacticSeq|refine $E $a* $r))
 `(tactic|first $[| $al]*)
open List renaming length_map → Za, getElem?_eq_some_iff → Zb, mem_of_getElem? → Zc, mem_cons_of_mem → Ze, length_append → Zf, range → Zg, mem_cons_self → Zi, size_toArray → Zk, getElem?_map → Zl, getD_eq_getElem?_getD → Zm, mem_cons → Zn, length_cons → Zo, getElem?_append_right → Zp, length_singleton → Zq, getElem?_eq_none → Zr, getElem?_append_left → Zv, length → Zw, getElem?_set_ne → Zx, mem_map → Zy, map_cons → Zz, mem_append_right → ZA, length_range → ZB, mem_singleton → ZE, mem_filter → ZI, mem_range → ZJ, getElem_mem → ZM, replicate → ZN, getElem?_concat_length → ZO, mem_append → ZP, map_append → ZQ, map_map → ZS, getElem?_set_self → ZU, mem_append_left → ZV, all_eq_true → ZW, map_congr_left → ZZ, append_nil → Z0, nodup_cons → Z1, getElem?_of_mem → Z2, length_nil → Z3, filter_cons → Z4, getElem?_range → Z6, map_nil → Z7, take_succ_eq_append_getElem → Z8, length_eq_zero_iff → Z9, pairwise_cons → Yb, length_set → Yc, getElem?_eq_none_iff → Ye, mem_flatMap → Yi, zip_cons_cons → Yj, prefix_refl → Yk, length_reverse → Ym, all_cons → Yn, length_take → Yo, lookup_cons → Yp, toArray → Yr, ext_getElem? → Ys, append_assoc → Yu, getElem?_set → Yv, getElem?_replicate → Yy, any_eq_true → Yz, getElem?_cons_succ → YA, take_length → YB, mem_filterMap → YD, prefix_append → YE, take_of_length_le → YF, find?_cons → YG, any_cons → YI, length_filter_le → YK, perm_cons_erase → YL, getLast?_append → YM, perm_ext_iff_of_nodup → YN, getElem_inj → YO, all_map → YQ, nodup_range → YR, filterMap_cons → YU, filter_eq_self → YV, filter_sublist → YW, idxOf_lt_length_iff → YY, getLast?_cons → Y1, filter_append → Y2, eraseIdx_cons_succ → Y3, take_zero → Y5, nodup_append → Y6, reverse_cons → Y7, map_inj_left → Y9, filter_eq_nil_iff → Xa, flatMap_cons → Xb, pairwise_map → Xc, filter_congr → Xd, countP_cons → Xf, mem_erase_of_ne → Xj, mem_of_mem_take → Xk, mem_of_getLast? → Xl, take_append_of_le_length → Xm, of_mem_zip → Xn, range_succ → Xo, filter_map → Xp, take_length_add_append → Xr, drop → Xs, forIn_nil → Xv, nodup_nil → Xw, getElem?_take_of_lt → XB, length_erase_of_mem → XC, any_map → XF, sublist_cons_self → XG, foldl_cons → XH, nil_append → XJ, length_replicate → XM, mem_iff_getElem → XQ, toList_toArray → XV, flatMap_append → XW, length_pos_iff → XX, map_take → X1, filterMap_map → X3, getElem_idxOf → X6, getElem_range → X8, zipIdx_cons → Wb, length_drop → Wc, map_snd_zip → Wh, not_mem_nil → Wi, drop_length → Wj, cons_append → Wk, map_id → Wl, forIn_cons → Wm, take_left → Ws, cons → Wx
open PySem.Heap renaming get?_push_of_some → Zd, lt_size → Zs, get?_push_size → Zu, get?_update_other → ZY, size_update → Yl, size_push → Yq, get?_update_self → YJ, get?_push_ne → Y8, get?_update_ne → Xq
open Bool renaming false_ne_true → Zh, false_eq_true → ZR, eq_iff_iff → Yh, or_eq_true → YH, true_and → YZ, beq_eq_decide_eq → Xe, not_true → Xh, false_and → XN, and_eq_true_iff → XR, false_or → XZ, and_self → X2, false_bne → Wu, or_false → Wv, and_true → Ww
open Nat renaming le_refl → Zj, lt_of_lt_of_le → ZC, ne_of_lt → ZH, lt_irrefl → ZL, le_trans → ZX, zero_le → Z5, sub_self → Yd, le_succ → Yt, lt_succ_of_lt → Yw, zero_add → Yx, le_add_right → YS, add_assoc → YX, lt_of_le_of_lt → Y0, le_of_lt → Y4, lt_succ_self → Xg, le_of_succ_le → Xx, pow_le_pow_right → XU, succ_le_succ → We, not_lt_zero → Wo, mul_le_mul → Wt, ne_of_gt → Wy, lt_trans → WA, succ_mul → WB, min_self → WC, le_of_eq → WD, le_zero → WE
open Array renaming length_toList → Zt, forIn_toList → YC, toArray_toList → Xi, size_map → Xu, toList_push → Xz, toList_map → XD, toList_append → XY, append_empty → X5, getElem_mem → X9, toList_inj → Wf, toList_zip → Wg, size_push → Wn, map_push → Wr
open Option renaming map_eq_some_iff → ZD, map_some → ZK, getD_some → ZT, isSome_iff_exists → Yg, isSome_map → Xy, isSome_some → X4, getD_none → Wd, map → Wq
open Int renaming le_refl → ZF, toNat_natCast → ZG, le_trans → YT, emod_lt_of_pos → X7, zero_add → Wa, emod_nonneg → Wp, ediv_one → Wz, one_mul → WF
open PyProof.Rows renaming boot_list → WG, boot_max → WH, boot_min → WI, boot_range → WJ, boot_sorted → WK, boot_tuple → WL, callWith_type1 → WM, slot_tuple_getitem → WN
open PySem renaming Arguments → WO, Comprehension → WT, FuncData → Ve, IsRangeIter → Vf, NameKind → Vg, Operator → Vh, Spec → Vm, TriplesOk → Vn, assignEach → VJ, assignInOrder → VL, backToKw → VM, behindInMarks → VN, binaryOp → VO, bindArgs → VP, bindName → VQ, bootBuiltins → VR, boot_len → VS, builtinsNs → VT, callSpecialIfBoundUnlessNone? → VU, call_meets → VV, cellsFrom → VW, closureFor → VX, codeAmong → VY, codeAny_builtin → VZ, codeAny_mono → V0, compareOp → V1, concat_meets → V2, defaultsOf → V3, eqIsQuiet → V4, eqIsQuiet_byValue → V5, evalPart_none → V6, foldedSetIterable → V7, intItems → V8, intItems_at → V9, isSubtype_tuple_tuple → Ua, keywordEach → Ub, letOwnedTupleGo → Uc, mainGlobals → Ud, mem_of_lookup → Ue, newFunctionEnv → Uf, noFill_tuple_add → Ug, numAt_eq → Uh, plainId_quiet → Ui, pushCells → Uj, pushCells_keeps → Uk, rangeSize_one → Ul, richCompare → Um, richCompare_meets_room → Uo, seqIndex_neg → Up, seqIndex_of → Uq, seqItems? → Ur, seq_tuple_add → Us, sizeLine_eq → Ut, sliceBounds → Uu, starEach → Uv, swappedStores → Uw, swapsWith → Ux, swapsWithSole → Uy, sysModules → Uz, unsupported → UA, wpAny_Call_Name_kw → UB, wpAny_bind → UC, wpAny_call_entry → UD, wpAny_comprehension_free → UE, wpAny_execs_nil → UF, wpAny_field → UG, wpAny_forIn_list → UH, wpAny_getItem_list_slice → UI, wpAny_holding → UJ, wpAny_letGo → UK, wpAny_loadPart' → UL, wpAny_mono → UM, wpAny_newFunctionEnv_cells → UN, wpAny_newList → UO, wpAny_newObj_type → UP, wpAny_of_eq → UQ, wpAny_passesOwn → UR, wpAny_pure → US, wpAny_pyIter_list → UT, wpAny_pyIter_rangeiter → UU, wpAny_pyIter_tuple → UV, wpAny_pyNext_range_end → UW, wpAny_rule → UX, wpAny_seqItems → UY, wpAny_sequenceKey → UZ, wpAny_specialOf → U0, wpAny_standAt → U1, wpAny_truthy_bool → U2, wpAny_tryCatch → U3, wpAny_typeOf → U4, wpAny_updateSeq → U5
open PySem.Calls renaming Name_function_global → WQ, call_function_entry → WR
open PySem.F renaming args_object_init_2 → WU, args_tuple_add_2 → WV, args_tuple_iterator_next_1 → WW, args_tuple_lt_2 → WX, entry_min_loop → WY, entry_tuple_add → WZ, entry_tuple_iterator_next → W0, entry_tuple_lt → W1, plainAttrs_list → W2, plainAttrs_tuple → W3, plain_min_loop → W4, slot_NoneType_hash → W5, slot_list_append → W6, slot_list_pop → W7, slot_tuple_add → W8, slot_tuple_count → W9, slot_tuple_index → Va, slot_tuple_iterator_next → Vb, slot_tuple_lt → Vc
open PySem.SeqAt renaming EqAt → Vi, RcNeAt → Vj, in_listAt → Vk, in_tupleAt → Vl
open PySem.W renaming CodeHd → Vo, Frag → Vp, cellsFrom_some → Vq, codeIn → Vr, findIn → Vs, fnOf → Vt, instObj → Vu, kas_item → Vv, kat_kind → Vw, kat_snds → Vx, keepIn → Vy, kia_one → Vz, kitOne → VA, kitx_dict → VB, kitx_list → VC, lookIn → VE, methodObj → VF, plainGet → VG, rangeSize_down → VH, tabObj → VI
namespace Ev
open PySem PyProof.Rows PySem.W
structure MS where
 a:Array Nat
 p:Array (Nat × Nat × Nat)
 g:Nat
abbrev Mm(b:Type):=MS->Option (b × MS)
abbrev Mm.bd{b β:Type}(x:Mm b)(f:b->Mm β):Mm β:=λs=>match x s with
 |none=>aD
 |some (a,s)=>f a s
noncomputable instance:Monad Mm where
 pure a:=λs=>aw (a,s)
 bind:=Mm.bd
abbrev iy{α:Type}(f:MS->Mm α):Mm α:=λs=>f s s
abbrev fG{α:Type}:Mm α:=λ_=>aD
abbrev lZp{c:Type}(f:Nat->c->Mm (ForInStep c)):Nat->Nat->c->Mm c
 |0,_,b=>pure b
 |n+1,i,b=>f i b >>= λ
  |.done b=>pure b
  |.yield b=>lZp f n (i+1) b
structure Sx where
 prog:Program
 w:World
 A:Around
 E:Value->Shared->Prop
 κ:SortKind
 it:Array Keyed
 s:Shared
 n:Nat
 lt:Nat->Nat->Bool
 h:∀i j,i < n->j < n->∀C:Bool->Shared->Prop,C (lt i j) s->kas_cmp prog w A κ it i j C s
section
variable (X:Sx) {α β γ δ:Type}
abbrev stM(b:MS):SortSt:=SortSt.mk' X.κ (b.a.map (kas_item X.it)) b.p b.g aD
abbrev Sim(r:α->β->Prop)(x:StateT SortSt Sem α)(y:Mm β):Prop:=
 ∀d b c,y d=aw (b,c)->∀Q:α->SortSt->Shared->Prop,(∀a,r a b->Q a (stM X c) X.s)->kasC (model X.prog X.w) X.A X.E x Q (stM X d) X.s
variable {X}
def av{r:α->β->Prop}{a:α}{b:β}(h:r a b):Sim X r (pure a) (pure b):=λc _ _ e Q q=>by
 cases e;exact kasC_pure (q _ h)
def ai{r:α->β->Prop}{v:γ->δ->Prop}{x:StateT SortSt Sem α}{y:Mm β}{f:α->StateT SortSt Sem γ}{g:β->Mm δ}(h:Sim X r x y)(k:∀a b,r a b->Sim X v (f a) (g b)):Sim X v (x >>= f) (y >>= g):=λl d j e Q q=>by
 have c:Mm.bd y g l=aw (d,j):=e;unfold Mm.bd at c;cases u:y l with
 |none=>rw[u] at c;cases c
 |some z=>
  obtain⟨b,m1⟩:=z;rw[u] at c;exact kasC_bind (h l b m1 u _ λa B=>k a b B m1 d j c Q q)
def bD{r:α->β->Prop}{x:StateT SortSt Sem α}:Sim X r x fG:=λ_ _ _ e=>nomatch e
def rq{r:α->β->Prop}{t:String}{f:Unit->StateT SortSt Sem α}{y:Mm β}(k:Sim X r (f ()) y):Sim X r (liftM (rule t) >>= f) y:=λc d b e Q q=>
 kasC_bind (kasC_lift (UX (k c d b e Q q)))
def dq{r:α->β->Prop}{f:SortSt->StateT SortSt Sem α}{g:MS->Mm β}(k:∀b,Sim X r (f (stM X b)) (g b)):Sim X r (get >>= f) (iy g):=λb d c e Q q=>
 kasC_bind (kasC_get (k b b d c e Q q))
def Eh{f:SortSt->SortSt}{g:MS->MS}(k:∀b,f (stM X b)=stM X (g b)):Sim X (λ_ _=>True) (modify f) (λs=>aw ((),g s)):=λb d c e Q q=>by
 cases e;refine kasC_modify ?_;rw[k];exact q _ trivial
abbrev rFs(r:α->β->Prop):ForInStep α->ForInStep β->Prop
 |.done a,.done b=>r a b
 |.yield a,.yield b=>r a b
 |_,_=>False
def rB{r:α->β->Prop}{F:Nat->α->StateT SortSt Sem (ForInStep α)}{f:Nat->β->Mm (ForInStep β)}(k:∀i a b,r a b->Sim X (rFs r) (F i a) (f i b)):∀ (n i:Nat) a b,r a b->Sim X r (forIn (List.range' i n) a F) (lZp f n i b)
 |0,i,a,b,h=>av h
 |n+1,i,a,b,h=>λv d j e Q q=>by
  have c:Mm.bd (f i b) _ v=aw (d,j):=e;unfold Mm.bd at c;rw[List.range'_succ];cases y:f i b v with
  |none=>rw[y] at c;cases c
  |some z=>
   obtain⟨B,m1⟩:=z;rw[y] at c;refine kasC_cons (k i a b h v B m1 y _ λu l=>?_);cases u with
   |done u=>
    cases B with
    |done B=>cases c;exact q _ l
    |yield B=>exact l.elim
   |yield u=>
    cases B with
    |done B=>exact l.elim
    |yield B=>exact rB k n (i+1) u B l m1 d j c Q q
def bR{r:α->β->Prop}{F:Nat->α->StateT SortSt Sem (ForInStep α)}{f:Nat->β->Mm (ForInStep β)}{l h:Nat}{a:α}{b:β}(k:∀i a b,r a b->Sim X (rFs r) (F i a) (f i b))(u:r a b):Sim X r (forIn [l:h] a F) (lZp f (h - l) l b):=λj d c e Q q=>
 kasC_range (rB k (h - l) l a b u j d c e Q q)
end
section
variable (n:Nat) (lt:Nat->Nat->Bool)
abbrev yu(i j:Nat):Mm Bool:=λs=>if i < n then if j < n then aw (lt i j,s) else aD else aD
abbrev kw(x:Array Nat)(i:Nat):Mm Nat:=λs=>match x[i]? with
 |none=>aD
 |some v=>aw (v,s)
abbrev Ei(i j:Nat):Mm Bool:=iy λs=>kw s.a i >>= λx=>kw s.a j >>= λy=>yu n lt x y
end
section
variable {X:Sx}
def pC{x y:Keyed}{i j:Nat}(z:x=kas_item X.it i)(v:y=kas_item X.it j):Sim X (λo b=>o=aw b) (lt' x y) (yu X.n X.lt i j):=λC d u e Q q=>by
 subst z v;unfold yu at e;split at e
 ·split at e
  ·cases e;rw[lt'_eq];refine kasC_bind (kasC_get ?_);refine kasC_bind (kasC_lift (wpAny_attempt (UM (X.h i j (by assumption) (by assumption) (λb k=>b=X.lt i j/\k=X.s) ⟨rfl,rfl⟩) (λc k B=>?_) λ_ _ l=>l.elim)));obtain⟨rfl,rfl⟩:=B;exact kasC_pure (q _ rfl)
  ·cases e
 ·cases e
def dH{x:Array Keyed}{y:Array Nat}{i:Nat}(h:x=y.map (kas_item X.it)):Sim X (λa b=>a=kas_item X.it b) (elem' x i) (kw y i):=λk d j e Q q=>by
 subst h;unfold kw at e;rw[elem'_eq,Array.getElem?_map];cases c:y[i]? with
 |none=>rw[c] at e;cases e
 |some v=>rw[c] at e;cases e;exact kasC_pure (q _ rfl)
def uz{i j:Nat}:Sim X (λo b=>o=aw b) (ltAt' i j) (Ei X.n X.lt i j):=by
 rw[ltAt'_eq];exact dq λd=>ai (dH rfl) λa b h=>ai (dH rfl) λk B c=>pC h c
end
abbrev wJ:Bool->Keyed->Array Keyed->Nat->Nat->Nat->StateT SortSt Sem (Option Nat):=sortPriv% PySem.Builtin.gallop
section
variable (n:Nat) (lt:Nat->Nat->Bool)
abbrev z8(left:Bool)(k:Nat)(x:Array Nat)(i:Nat):Mm Bool:=do
 let v <-kw x i
 if left=aN then yu n lt v k else do
  let b <-yu n lt k v
  pure (!b)
abbrev z9(left:Bool)(k:Nat)(x:Array Nat)(base m lo hi:Nat):Mm Nat:=do
 let z <-lZp (λ_ (z:Nat × Nat)=>if z.1 ≥ z.2 then pure (.done z) else do
  let b <-z8 n lt left k x (base+(z.1+(z.2 - z.1) / 2))
  if b=aN then pure (.yield (z.1+(z.2 - z.1) / 2+1,z.2)) else pure (.yield (z.1,z.1+(z.2 - z.1) / 2))) m 0 (lo,hi)
 pure z.2
abbrev wK(left:Bool)(k:Nat)(x:Array Nat)(base m hint:Nat):Mm Nat:=do
 let r <-z8 n lt left k x (base+hint)
 if r=aN then do
  let z <-lZp (λ_ (z:Nat × Nat)=>if z.2 ≥ m - hint then pure (.done z) else do
   let b <-z8 n lt left k x (base+(hint+z.2))
   if (!b)=aN then pure (.done z) else pure (.yield (z.2,2 * z.2+1))) m 0 (0,1)
  z9 n lt left k x base m (hint+z.1+1) (hint+min z.2 (m - hint))
 else do
  let z <-lZp (λ_ (z:Nat × Nat)=>if z.2 ≥ hint+1 then pure (.done z) else do
   let b <-z8 n lt left k x (base+(hint - z.2))
   if b=aN then pure (.done z) else pure (.yield (z.2,2 * z.2+1))) m 0 (0,1)
  z9 n lt left k x base m (hint+1 - min z.2 (hint+1)) (hint - z.1)
end
section
variable {X:Sx}
abbrev rN{c d:Type}(a:Option d × c)(b:c):Prop:=a=(aD,b)
def wL{left:Bool}{j:Keyed}{k:Nat}{x:Array Keyed}{y:Array Nat}{base m hint:Nat}(l:j=kas_item X.it k)(q:x=y.map (kas_item X.it)) :
  Sim X (λo b=>o=aw b) (wJ left j x base m hint) (wK X.n X.lt left k y base m hint):=by
 have B:∀i,Sim X (λo b=>o=aw b) (do
    let x <-elem' x (base+i)
    if left=aN then lt' x j
     else do
      let d <-lt' j x
      pure (Wq (λx=>!x) d)) (z8 X.n X.lt left k y (base+i)):=λi=>
  ai (dH q) λa b h=>by
   cases left with
   |true=>exact pC h l
   |false=>exact ai (pC l h) λo b h=>by subst h;exact av rfl
 unfold wK
 delta wJ
 refine ai (B hint) λo r h=>?_;subst h;cases r with
 |true=>
  refine ai (r:=rN) (bR (λ_ a z h=>?_) rfl) λa z h=>?_
  ·cases h;by_cases c:z.2 ≥ m - hint
   ·dsimp only;rw[if_pos c,if_pos c];exact av rfl
   ·dsimp only;rw[if_neg c,if_neg c];refine ai (B (hint+z.2)) λo r h=>?_;subst h;cases r <;> exact av rfl
  ·cases h;refine ai (r:=rN) (bR (λ_ a z h=>?_) rfl) λa z h=>?_
   ·cases h;by_cases c:z.1 ≥ z.2
    ·dsimp only;rw[if_pos c,if_pos c];exact av rfl
    ·dsimp only;rw[if_neg c,if_neg c];refine ai (B (z.1+(z.2 - z.1) / 2)) λo r h=>?_;subst h;cases r <;> exact av rfl
   ·cases h;exact av rfl
 |false=>
  refine ai (r:=rN) (bR (λ_ a z h=>?_) rfl) λa z h=>?_
  ·cases h;by_cases c:z.2 ≥ hint+1
   ·dsimp only;rw[if_pos c,if_pos c];exact av rfl
   ·dsimp only;rw[if_neg c,if_neg c];refine ai (B (hint - z.2)) λo r h=>?_;subst h;cases r <;> exact av rfl
  ·cases h;refine ai (r:=rN) (bR (λ_ a z h=>?_) rfl) λa z h=>?_
   ·cases h;by_cases c:z.1 ≥ z.2
    ·dsimp only;rw[if_pos c,if_pos c];exact av rfl
    ·dsimp only;rw[if_neg c,if_neg c];refine ai (B (z.1+(z.2 - z.1) / 2)) λo r h=>?_;subst h;cases r <;> exact av rfl
   ·cases h;exact av rfl
end
abbrev rC:Array Keyed->Array Keyed->StateT SortSt Sem (Array Keyed):=sortPriv% PySem.Builtin.mergeLo
abbrev OZ{γ:Type}(v:Nat)(k:Nat->γ):γ:=match v with
 |0=>k 0
 |n+1=>k (Nat.succ n)
abbrev Ej{b:Type}:List Nat->(List Nat->b)->b
 |[],k=>k []
 |v::l,k=>OZ v λv=>Ej l λl=>k (v::l)
def Ek{b:Type}{v:Nat}{k:Nat->b}:OZ v k=k v:=by cases v <;> rfl
def pD{b:Type}:∀ {l:List Nat} {k:List Nat->b},Ej l k=k l
 |[],_=>rfl
 |v::l,k=>by unfold Ej;rw[Ek,pD]
abbrev kR(f:Array Nat->Array Nat):Mm Unit:=λs=>Ej (f s.a).toList λl=>aw ((),{ s with a:=l.toArray })
section
variable (n:Nat) (lt:Nat->Nat->Bool)
abbrev Aa(lo c:Nat):Mm Nat:=do
 let m <-lZp (λ_ m=>do
  let b <-Ei n lt (lo+m) (lo+m - 1)
  if b=aN then pure (.done m) else pure (.yield (m+1))) (c - 1) 1 1
 if (m == c)=aN then fG else if m > 1 then do
  let b <-Ei n lt lo (lo+m - 1)
  if b=aN then pure m else fG
 else fG
abbrev Ab(lo m ok:Nat):Mm Unit:=lZp (λk _=>do
  let z <-lZp (λ_ (z:Nat × Nat)=>if z.1 ≥ z.2 then pure (.done z) else do
   let b <-Ei n lt (lo+k) (lo+(z.1+z.2) / 2)
   if b=aN then pure (.yield (z.1,(z.1+z.2) / 2)) else pure (.yield ((z.1+z.2) / 2+1,z.2))) k 0 (0,k)
  kR λa=>bubble a (lo+k) (lo+k - (lo+z.1))
  pure (.yield ())) (m - max ok 1) (max ok 1) () >>= λ_=>pure ()
abbrev Ac(a b:Array Nat):Mm (Array Nat):=kw b 0 >>= λy=>if (1 == b.size)=aN then fG else if (0+1 == a.size)=aN then fG else iy λst=>
 lZp (λ_ (q:Option (Array Nat))=>match q with
  |some _=>fG
  | none=>lZp (λ_ (z:Option (Array Nat) × Array Nat × Nat × Nat × Nat × Nat)=>
   kw b z.2.2.2.1 >>= λv=>kw a z.2.2.1 >>= λu=>yu n lt v u >>= λw=>
    if w=aN then kw b z.2.2.2.1 >>= λv=>if (z.2.2.2.1+1 == b.size)=aN then fG else if z.2.2.2.2.2+1 ≥ st.g then fG else pure (.yield (aD,z.2.1.push v,z.2.2.1,z.2.2.2.1+1,0,z.2.2.2.2.2+1))
    else kw a z.2.2.1 >>= λu=>if (z.2.2.1+1+1 == a.size)=aN then pure (.done (aw (z.2.1.push u++b.extract z.2.2.2.1++a.extract (z.2.2.1+1)),z.2.1.push u,z.2.2.1+1,z.2.2.2.1,z.2.2.2.2.1+1,0))
     else if z.2.2.2.2.1+1 ≥ st.g then fG else pure (.yield (aD,z.2.1.push u,z.2.2.1+1,z.2.2.2.1,z.2.2.2.2.1+1,0))) (a.size+b.size - 0) 0 (aD,#[y],0,1,0,0) >>= λz=>match z.1 with
   |none=>fG
   | some r=>pure (.done (aw r))) (a.size+b.size - 0) 0 aD >>= λr=>match r with
  |none=>fG
  |some r=>pure r
end
section
variable {X:Sx} {α β:Type}
def wM{f:Array Keyed->Array Keyed}{g:Array Nat->Array Nat}(h:∀a:Array Nat,f (a.map (kas_item X.it))=(g a).map (kas_item X.it)):Sim X (λ_ _=>True) (modify λst=>setArr st (f (arrOf st))) (kR g):=λb d c e Q q=>by
 unfold kR at e;rw[pD] at e;cases e;refine kasC_modify ?_
 have:setArr (stM X b) (f (arrOf (stM X b)))=stM X { b with a:=(g b.a).toList.toArray }:=by
  show SortSt.mk' X.κ (f (b.a.map (kas_item X.it))) b.p b.g aD=SortSt.mk' X.κ ((g b.a).toList.toArray.map (kas_item X.it)) b.p b.g aD;rw[h,Xi]
 rw[this];exact q _ trivial
def El{lo d:Nat}:Sim X (λo b=>o=aw b) (countRun' lo d) (Aa X.n X.lt lo d):=by
 unfold Aa
 delta countRun'
 refine ai (r:=rN) (bR (λ_ a z h=>?_) rfl) λa z h=>?_
 ·cases h;refine ai uz λo r h=>?_;subst h;cases r <;> exact av rfl
 ·cases h;dsimp only;by_cases c:(z == d)=aN
  ·rw[if_pos c,if_pos c];exact bD
  ·rw[if_neg c,if_neg c];by_cases c:z > 1
   ·rw[if_pos c,if_pos c];refine ai uz λo r h=>?_;subst h;cases r
    ·exact bD
    ·exact av rfl
   ·rw[if_neg c,if_neg c];exact bD
def Em{lo m ok:Nat}:Sim X (λo _=>o=aN) (binarySort' lo m ok) (Ab X.n X.lt lo m ok):=by
 unfold Ab
 delta binarySort'
 refine ai (r:=rN) (bR (λk a z h=>?_) rfl) λa z h=>?_
 ·cases h;refine ai (r:=rN) (bR (λ_ a z h=>?_) rfl) λa z h=>?_
  ·cases h;by_cases c:z.1 ≥ z.2
   ·dsimp only;rw[if_pos c,if_pos c];exact av rfl
   ·dsimp only;rw[if_neg c,if_neg c];refine ai uz λo r h=>?_;subst h;cases r <;> exact av rfl
  ·cases h;refine ai (wM (f:=λa=>bubble a (lo+k) (lo+k - (lo+z.1))) λa=>kas_swaps_map (kas_item X.it) (λi=>lo+k - i) (λi=>lo+k - i - 1) _ a) λ_ _ _=>?_;exact av rfl
 ·cases h;exact av rfl
abbrev rA{c:Type}(X:Sx)(a:Option (Array Keyed) × Array Keyed × c)(b:Option (Array Nat) × Array Nat × c):Prop:=a=(b.1.map λr=>r.map (kas_item X.it),b.2.1.map (kas_item X.it),b.2.2)
def En{x y:Array Keyed}{a b:Array Nat}(j:x=a.map (kas_item X.it))(d:y=b.map (kas_item X.it)):Sim X (λo r=>o=r.map (kas_item X.it)) (rC x y) (Ac X.n X.lt a b):=by
 unfold Ac
 delta rC
 refine rq (ai (dH d) λQ Y C=>?_);have I:x.size=a.size:=by rw[j,Xu]
 have L:y.size=b.size:=by rw[d,Xu]
 dsimp only;rw[I,L];by_cases c:(1 == b.size)=aN
 ·rw[if_pos c,if_pos c];exact bD
 rw[if_neg c,if_neg c];by_cases c:(0+1 == a.size)=aN
 ·rw[if_pos c,if_pos c];exact bD
 rw[if_neg c,if_neg c];refine dq λl=>?_;refine ai (r:=λp q=>(q=aD/\p=(aD,#[kas_item X.it Y],0,1,l.g))\/∃r,q=aw r/\p.1=aw (r.map (kas_item X.it))) (bR (λ_ p q h=>?_) (.inl ⟨rfl,by rw[C];rfl⟩)) λp q h=>?_
 ·rcases h with ⟨rfl,rfl⟩ |⟨r,rfl,h⟩
  ·refine ai (r:=rA X) (bR (λ_ p z h=>?_) (by unfold rA;simp)) λp z h=>?_
   ·cases h;dsimp only;refine ai (dH d) λJ v B=>ai (dH j) λU u k=>ai (pC B k) λo w h=>?_;subst h;cases w with
    |true=>
     refine ai (dH d) λJ v B=>?_;by_cases c:(z.2.2.2.1+1 == b.size)=aN
     ·rw[if_pos c,if_pos c];exact bD
     rw[if_neg c,if_neg c];by_cases c:z.2.2.2.2.2+1 ≥ l.g
     ·rw[if_pos c];rw[if_pos c];exact bD
     rw[if_neg c];rw[if_neg c];exact av (show rA X _ _ by unfold rA;rw[B,<-Wr];rfl)
    |false=>
     refine ai (dH j) λU u k=>?_;by_cases c:(z.2.2.1+1+1 == a.size)=aN
     ·rw[if_pos c,if_pos c];exact av (show rA X _ _ by unfold rA;rw[k,j,d];simp)
     rw[if_neg c,if_neg c];by_cases c:z.2.2.2.2.1+1 ≥ l.g
     ·rw[if_pos c];rw[if_pos c];exact bD
     rw[if_neg c];rw[if_neg c];exact av (show rA X _ _ by unfold rA;rw[k,<-Wr];rfl)
   ·cases h;obtain⟨Z,z2⟩:=z;cases Z with
    |none=>exact bD
    |some r=>exact av (.inr ⟨r,rfl,rfl⟩)
  ·exact bD
 ·rcases h with ⟨rfl,rfl⟩ |⟨r,rfl,h⟩
  ·exact bD
  ·obtain⟨T,O⟩:=p;cases h;exact av rfl
end
abbrev rD:Nat->StateT SortSt Sem Bool:=sortPriv% PySem.Builtin.mergeAt
abbrev IG(t:MS):Mm Unit:=λ_=>aw ((),t)
abbrev JX(f:Array (Nat × Nat × Nat)->Array (Nat × Nat × Nat)):Mm Unit:=λs=>aw ((),{ s with p:=f s.p })
abbrev JY(sa:Nat){α:Type}(r a:Array α):Array α:=r.toList.zipIdx.foldl (λa x=>a.setIfInBounds (sa+x.2) x.1) a
section
variable (n:Nat) (lt:Nat->Nat->Bool)
abbrev wN(i:Nat):Mm Unit:=iy λs=>match s.p[i]?,s.p[i+1]? with
 |some (sa,na,pw),aw (sb,nb,_)=>IG { s with p:=(s.p.setIfInBounds i (sa,na+nb,pw)).eraseIdxIfInBounds (i+1) } >>= λ_=>kw s.a sb >>= λv=>wK n lt aS v s.a sa na 0 >>= λk=>
  if (na - k == 0)=aN then fG else kw s.a (sa+k+(na - k) - 1) >>= λv=>wK n lt aN v s.a sb nb (nb - 1) >>= λnb=>
  if (nb == 0)=aN then fG else if na - k<=nb then Ac n lt (s.a.extract (sa+k) sb) (s.a.extract sb (sb+nb)) >>= λr=>kR (JY (sa+k) r) else fG
 |_,_=>fG
abbrev uA(lo m:Nat):Mm (ForInStep Nat):=JX (λp=>p.push (lo,m,0)) >>= λ_=>pure (.yield (lo+m))
abbrev Ae(b:Nat->Nat->Nat->Nat)(c:Nat->Nat->Nat->Nat->Nat):Mm Unit:=iy λs0=>
 lZp (λ_ lo=>if lo ≥ s0.a.size then pure (.done lo) else Aa n lt lo (s0.a.size - lo) >>= λm=>
  if m < b s0.a.size s0.a.size 0 then Ab n lt lo (min (s0.a.size - lo) (b s0.a.size s0.a.size 0)) m >>= λ_=>iy λs=>match s.p.back? with
   |none=>uA lo (min (s0.a.size - lo) (b s0.a.size s0.a.size 0))
   | some (s1,n1,_)=>lZp (λ_ _=>iy λs=>match (if s.p.size > 1 then s.p[s.p.size - 2]? else aD) with
     |none=>pure (.done ())
     | some (_,_,older)=>if older<=c s0.a.size (2 * s1+n1) (2 * s1+n1+n1+min (s0.a.size - lo) (b s0.a.size s0.a.size 0)) s0.a.size then pure (.done ()) else wN n lt (s.p.size - 2) >>= λ_=>pure (.yield ())) (s0.a.size - 0) 0 () >>= λ_=>
    JX (λp=>p.modify (p.size - 1) λx=>(x.1,x.2.1,c s0.a.size (2 * s1+n1) (2 * s1+n1+n1+min (s0.a.size - lo) (b s0.a.size s0.a.size 0)) s0.a.size)) >>= λ_=>uA lo (min (s0.a.size - lo) (b s0.a.size s0.a.size 0))
  else fG) (s0.a.size - 0) 0 0 >>= λ_=>
 lZp (λ_ _=>iy λs=>if s.p.size<=1 then pure (.done ()) else
  wN n lt (if Option.any (λx=>decide (x < s.p[s.p.size - 2+1]?.elim 0 λx=>x.2.1)) (if s.p.size - 2 > 0 then Wq (λx=>x.2.1) s.p[s.p.size - 2 - 1]? else aD)=aN then s.p.size - 2 - 1 else s.p.size - 2) >>= λ_=>pure (.yield ())) (s0.a.size - 0) 0 () >>= λ_=>pure ()
abbrev Af:Mm Unit:=Ae n lt (sortPriv% PySem.Builtin.minRun) (sortPriv% PySem.Builtin.power)
abbrev wP:Option (Array Nat):=(Af n lt ⟨Yr (Zg n),#[],7⟩).map λr=>r.2.a
end
section
variable {X:Sx} {α β:Type}
def rE{b c:Type}(f:b->c)(sa:Nat):∀ (l:List b) (k:Nat) (a:Array b),((l.map f).zipIdx k).foldl (λa x=>a.setIfInBounds (sa+x.2) x.1) (a.map f)=((l.zipIdx k).foldl (λa x=>a.setIfInBounds (sa+x.2) x.1) a).map f
 |[],_,_=>rfl
 |v::l,k,a=>by
  rw[Zz,Wb,Wb,XH,XH,<-rE f sa l]
  congr 1
  simp
def Ag{f:SortSt->SortSt}{g:Array (Nat × Nat × Nat)->Array (Nat × Nat × Nat)}(k:∀b:MS,f (stM X b)=stM X { b with p:=g b.p }):Sim X (λ_ _=>True) (modify f) (JX g):=Eh k
def Eo{t:SortSt}{b:MS}(h:t=stM X b):Sim X (λ_ _=>True) (set t) (IG b):=λ_ _ _ e Q q=>by
 cases e;subst h;exact kasC_modify (f:=λ_=>stM X b) (q _ trivial)
def wQ{i:Nat}:Sim X (λo _=>o=aN) (rD i) (wN X.n X.lt i):=by
 unfold wN
 delta rD
 refine dq λb=>?_;dsimp only[stM,SortSt.mk'];cases L:b.p[i]? with
 |none=>cases z:b.p[i+1]? <;> exact bD
 |some x=>
  cases z:b.p[i+1]? with
  |none=>exact bD
  |some y=>
   obtain⟨sa,j,J⟩:=x;obtain⟨I,nb,C⟩:=y;dsimp only;refine ai (Eo rfl) λ_ _ _=>ai (dH rfl) λl v d=>ai (wL d rfl) λo k B=>?_;subst B;dsimp only;by_cases c:(j - k == 0)=aN
   ·rw[if_pos c,if_pos c];exact bD
   rw[if_neg c,if_neg c];refine ai (dH rfl) λl v d=>ai (wL d rfl) λo m q=>?_;subst q;dsimp only;by_cases c:(m == 0)=aN
   ·rw[if_pos c,if_pos c];exact bD
   rw[if_neg c,if_neg c];by_cases c:j - k<=m
   ·rw[if_pos c,if_pos c];refine ai (En (by simp) (by simp)) λO r u=>?_;subst u
    have e:(kR (JY (sa+k) r))=(kR (JY (sa+k) r) >>= λ_=>pure ()):=by
     funext s
     show _=Mm.bd _ _ s;unfold Mm.bd kR;rw[pD];rfl
    rw[e];refine ai (wM (f:=λa=>((r.map (kas_item X.it)).toList.zipIdx).foldl (λa x=>a.setIfInBounds (sa+k+x.2) x.1) a) λa=>?_) λ_ _ _=>?_
    ·rw[XD];exact rE (kas_item X.it) (sa+k) r.toList 0 a
    ·show Sim X _ _ (iy λ_=>pure ());exact dq λb=>av rfl
   ·rw[if_neg c,if_neg c];exact bD
def Ep:Sim X (λ_ _=>True) sortRuns' (Af X.n X.lt):=by
 unfold Af Ae
 delta sortRuns'
 refine dq λd=>?_;have j:(arrOf (stM X d)).size=d.a.size:=Xu ..;dsimp only[arrOf] at j;dsimp only;rw[j];refine ai (r:=rN) (bR (λ_ p z h=>?_) rfl) λp z h=>?_
 ·cases h;dsimp only;by_cases c:z ≥ d.a.size
  ·rw[if_pos c,if_pos c];exact av rfl
  rw[if_neg c,if_neg c];refine ai El λo m k=>?_;subst k;dsimp only;split
  ·refine rq (ai Em λo _ b=>?_);subst b;refine dq λs=>?_;dsimp only[stM,SortSt.mk']
   have ps:∀lo m,Sim X (rFs rN) (do
     modify λst=>setPending st ((pendingOf st).push (lo,m,0))
     pure (.yield ((aD:Option Unit),lo+m))) (uA lo m):=λlo m=>ai (Ag λ_=>rfl) λ_ _ _=>av rfl
   cases B:s.p.back? with
   |none=>exact ps _ _
   |some y=>
    obtain⟨q,v,C⟩:=y;dsimp only;refine ai (r:=rN) (bR (λ_ p z h=>?_) rfl) λp z h=>?_
    ·cases h;refine dq λs=>?_;dsimp only[stM,SortSt.mk'];cases l:(if s.p.size > 1 then s.p[s.p.size - 2]? else aD) with
     |none=>exact av rfl
     |some y=>
      obtain⟨u,Y,O⟩:=y;dsimp only;split
      ·exact av rfl
      ·refine ai wQ λo _ b=>?_;subst b;exact av rfl
    ·cases h;exact ai (Ag λ_=>rfl) λ_ _ _=>ps _ _
  ·exact bD
 ·cases h;refine ai (r:=rN) (bR (λ_ p z h=>?_) rfl) λp z h=>?_
  ·cases h;refine dq λs=>?_;dsimp only[stM,SortSt.mk'];split
   ·exact av rfl
   ·refine ai wQ λo _ b=>?_;subst b;exact av rfl
  ·cases h;exact av trivial
end
end Ev
def gEG{b:Type _}{l:List b}{i:Nat}(h:i < l.length):l[i]?=aw l[i]:=List.getElem?_eq_getElem h
def bAE(a b:Bool):((a && b)=aN)=(a=aN/\b=aN):=Bool.and_eq_true a b
namespace L2
open PySem PySem.Spec PyProof.Rows
@[inline]abbrev Key:=Sum Int Str
abbrev gO:Key->Value->Bool
 |.inl k,v=>Value.isInt k v
 |.inr x,v=>Value.isStrOf x v
abbrev O0(w:World):Key->Int
 |.inl k=>hashInt k
 |.inr x=>hashStr w x
def ay:∀ {k:Key} {v:Value},gO k v=aN->(∃i t,k=Sum.inl i/\v=Value.int i t)\/(∃x t,k=Sum.inr x/\v=Value.str x t)
 |.inl i,v,h=>by
  obtain⟨t,e⟩:=Value.isInt_shape (k:=i) (v:=v) h;exact .inl ⟨i,t,rfl,e⟩
 |.inr x,v,h=>by
  obtain⟨t,e⟩:=Value.isStrOf_shape (x:=x) (v:=v) h;exact .inr ⟨x,t,rfl,e⟩
def yv(i:Int)(t:Tok):gO (.inl i) (.int i t)=aN:=by simp[gO,Value.isInt]
def yw(x:Str)(t:Tok):gO (.inr x) (.str x t)=aN:=by simp[gO,Value.isStrOf]
def JZ(a b:Int):decide ((Sum.inl a:Key)=Sum.inl b)=(a == b):=by
 by_cases e:a=b
 ·subst e;simp
 ·have h:¬ (Sum.inl a:Key)=Sum.inl b:=λq=>e (Sum.inl.inj q);rw[decide_eq_false h];exact(beq_eq_false_iff_ne.mpr e).symm
def J1(a b:Str):decide ((Sum.inr a:Key)=Sum.inr b)=decide (a=b):=by
 by_cases e:a=b
 ·subst e;simp
 ·have h:¬ (Sum.inr a:Key)=Sum.inr b:=λq=>e (Sum.inr.inj q);rw[decide_eq_false h,decide_eq_false e]
def Ah(a:Int)(b:Str):decide ((Sum.inl a:Key)=Sum.inr b)=aS:=decide_eq_false (λq=>nomatch q)
def Ai(a:Str)(b:Int):decide ((Sum.inr a:Key)=Sum.inl b)=aS:=decide_eq_false (λq=>nomatch q)
abbrev ba(prog:Program)(w:World):PySem.KeyKind prog w Key where
 is:=gO
 hash:=O0 w
 inj:=λv a b l hb=>by
  rcases ay l with ⟨i,t,rfl,rfl⟩ |⟨x,t,rfl,rfl⟩
  ·rcases ay hb with ⟨j,u,rfl,e⟩ |⟨y,u,rfl,e⟩
   ·injection e with e1 _;rw[e1]
   ·exact nomatch e
  ·rcases ay hb with ⟨j,u,rfl,e⟩ |⟨y,u,rfl,e⟩
   ·exact nomatch e
   ·injection e with e1 _;rw[e1]
 byValue:=λk v h=>by
  rcases ay h with ⟨i,t,rfl,rfl⟩ |⟨x,t,rfl,rfl⟩ <;> rfl
 pyHash:=λc h=>by
  rcases ay c with ⟨i,t,rfl,rfl⟩ |⟨x,t,rfl,rfl⟩
  ·exact wpAny_pyHash_int h
  ·exact wpAny_pyHash_str h
 eqBool:=λd c h=>by
  rcases ay d with ⟨i,t,rfl,rfl⟩ |⟨x,t,rfl,rfl⟩
  ·rcases ay c with ⟨j,u,rfl,rfl⟩ |⟨y,u,rfl,rfl⟩
   ·rw[JZ] at h;exact wpAny_eqBool_int h
   ·rw[Ah] at h;exact SeqAt.EqAt.int_str i t y u _ _ _ _ h
  ·rcases ay c with ⟨j,u,rfl,rfl⟩ |⟨y,u,rfl,rfl⟩
   ·rw[Ai] at h;exact SeqAt.EqAt.str_int x t j u _ _ _ _ h
   ·rw[J1] at h;exact wpAny_eqBool_str h
 «strs»:=λk x t v h=>by
  rcases ay h with ⟨i,u,rfl,e⟩ |⟨y,u,rfl,e⟩
  ·exact nomatch e
  ·injection e with e1 _;subst e1;cases v <;> rfl
def rF(prog:Program)(w:World)(i:Int)(t:Tok):(ba prog w).is (.inl i) (.int i t)=aN:=yv i t
def rG(prog:Program)(w:World)(x:Str)(t:Tok):(ba prog w).is (.inr x) (.str x t)=aN:=yw x t
inductive NK where
 |non |one (k:Key) |tup (ks:List Key)
 deriving DecidableEq
def J2{d c:Type}{F G:d->c->Prop}(f:∀a b,F a b->G a b):∀ {l:List d} {m:List c},Paired F l m->Paired G l m
 |_,_,.nil=>.nil
 |_,_,.cons h t=>.cons (f _ _ h) (J2 f t)
section
variable {P:Program} {w:World}
abbrev NIs(P:Program)(w:World)(h:Heap):NK->Value->Prop
 |.non,v=>v = .none
 |.one k,v=>gO k v=aN
 |.tup ks,v=>∃b,v = .ref b/\IsTupleKey (ba P w) h ks b
abbrev dI(P:Program)(w:World)(h:Heap)(ks:List NK)(a:Addr):Prop:=∃o I n,h.get? a=aw o/\o.cls = .type "tuple"/\o.data = .seq I n/\Paired (NIs P w h) ks I.toList
def NIs.inj{h:Heap}{x y:NK}{v:Value}(d:NIs P w h x v)(c:NIs P w h y v):x=y:=by
 cases x with
 |non=>
  cases d;cases y with
  |non=>rfl
  |one k=>rcases ay c with ⟨i,t,_,e⟩ |⟨i,t,_,e⟩ <;> cases e
  |tup ks=>obtain⟨b,e,_⟩:=c;cases e
 |one k=>
  rcases ay d with ⟨i,t,rfl,rfl⟩ |⟨i,t,rfl,rfl⟩
  ·cases y with
   |non=>cases c
   |one j=>rw[(ba P w).inj (Value.int i t) (Sum.inl i) j (by exact d) (by exact c)]
   |tup ks=>obtain⟨b,e,_⟩:=c;cases e
  ·cases y with
   |non=>cases c
   |one j=>rw[(ba P w).inj (Value.str i t) (Sum.inr i) j (by exact d) (by exact c)]
   |tup ks=>obtain⟨b,e,_⟩:=c;cases e
 |tup ks=>
  obtain⟨b,rfl,hb⟩:=d;cases y with
  |non=>cases c
  |one k=>rcases ay c with ⟨i,t,_,e⟩ |⟨i,t,_,e⟩ <;> cases e
  |tup q=>obtain⟨B,e,l⟩:=c;cases e;rw[hb.inj l]
def nM{h:Heap}:∀ {x y:List NK} {v:List Value},Paired (NIs P w h) x v->Paired (NIs P w h) y v->x=y
 |[],y,_,.nil,hy=>by cases hy;rfl
 |a::x,y,_,.cons h1 t1,hy=>by
  cases hy with
  |cons b T=>rw[h1.inj b,nM t1 T]
def dI.inj{h:Heap}{a:Addr}{x y:List NK}(l:dI P w h x a)(k:dI P w h y a):x=y:=by
 obtain⟨o,c,n,q,_,hd,hi⟩:=l;obtain⟨o',I,u,d,_,b,j⟩:=k;obtain rfl:o=o':=Option.some.inj (q.symm.trans d);rw[hd] at b;injection b with h1 _;subst h1;exact nM hi j
def NIs.keeps{h h':Heap}{k:NK}{v:Value}{d:Addr}{o:Obj}{c j}(x:NIs P w h k v)(l:h.get? d=aw o)(hd:o.data = .dict c j)(hs:Heap.SameBut d h h'):NIs P w h' k v:=by
 cases k with
 |non=>exact x
 |one k=>exact x
 |tup ks=>obtain⟨b,e,hb⟩:=x;exact⟨b,e,hb.keeps l hd hs⟩
def dI.keeps{h h':Heap}{ks:List NK}{a d:Addr}{o:Obj}{l u}(x:dI P w h ks a)(k:h.get? d=aw o)(hd:o.data = .dict l u)(hs:Heap.SameBut d h h'):dI P w h' ks a:=by
 obtain⟨O,I,n,c,q,b,hi⟩:=x
 have j:a ≠ d:=by
  rintro rfl;obtain rfl:O=o:=Option.some.inj (c.symm.trans k);rw[hd] at b;exact nomatch b
 exact⟨O,I,n,(hs.2 a j).trans c,q,b,J2 (λ_ _ z=>z.keeps k hd hs) hi⟩
def dI.typeIs{s:Shared}{ks:List NK}{a:Addr}(x:dI P w s.heap ks a):s.TypeIs (.ref a) "tuple" := let ⟨o,_,_,ho,hc,_⟩:=x;⟨o,ho,hc⟩
abbrev nkH(P:Program)(w:World):NK->Int
 |.non=>0xFCA86420
 |.one k=>O0 w k
 |.tup ks=>tupleKeyHash (ba P w) ks
abbrev nkN:NK->Nat
 |.tup ks=>ks.length+1
 |_=>1
def yx{A:Around}{E:Value->Shared->Prop}{s:Shared}{Q:Int->Shared->Prop}(h:Q 0xFCA86420 { s with toks:=s.toks+1 }):wpAny (model P w) A (pyHash .none) Q E s:=by
 have b:s.TypeIs .none "NoneType" := typeIs_none s;unfold pyHash;have c:[Value.none].any Value.onHeap=aS:=rfl;refine UC ?_;rw[cRoomFor,if_neg (by rw[c];exact Zh)];refine US ?_;refine UC (U0 b F.slot_NoneType_hash.lookup ?_);show wpAny _ _ (if (aw (Value.builtin "NoneType.__hash__") == aw Value.none)=aN then _ else _) Q E s;rw[if_neg (by rw[beq_builtin_none];exact Zh)];refine UC (U0 b F.slot_NoneType_hash.lookup ?_);show wpAny _ _ (VU .none "__hash__" _ >>= _) Q E s;refine UC (wpAny_callSpecialIfBoundUnlessNone?_slot b W5 (UD W5 b F.entry_NoneType_hash ?_ (F.args_NoneType_hash_1 _)));show wpAny _ _ (slotArgs "__hash__" 0 _ >>= λ_=>retInt 0xFCA86420) _ _ s;refine UC (m:=slotArgs "__hash__" 0 _) (US ?_);refine wpAny_ret_mkInt ?_;show wpAny _ _ (pure (0xFCA86420:Int)) Q E _;exact US h
def Aj{A:Around}{E:Value->Shared->Prop}{s:Shared}{k:NK}{v:Value}{Q:Int->Shared->Prop}(d:A.units < cLine)(c:NIs P w s.heap k v)(h:Q (nkH P w k) { s with toks:=s.toks+nkN k }):wpAny (model P w) A (pyHash v) Q E s:=by
 cases k with
 |non=>cases c;exact yx h
 |one k=>exact(ba P w).pyHash c h
 |tup ks=>obtain⟨b,rfl,hb⟩:=c;exact wpAny_pyHash_tuple d hb h
abbrev Ak(P:Program)(w:World)(ks:List NK):Int:=reduceHash (Builtin.Tuple.tupleHashOf (ks.map (nkH P w)))
abbrev rH(ks:List NK):Nat:=(ks.map nkN).sum
def yy{A:Around}{E:Value->Shared->Prop}{s:Shared}{ks:List NK}{a:Addr}{Q:Int->Shared->Prop}(u:A.units+1 < cLine)(q:dI P w s.heap ks a)(h:Q (Ak P w ks) { s with toks:=s.toks+(rH ks+1) }):wpAny (model P w) A (pyHash (.ref a)) Q E s:=by
 have j:=q.typeIs;obtain⟨o,I,n,v,_,hd,hi⟩:=q;unfold pyHash
 first |unfold pyHashByItsType |skip
 first |refine UC (wpAny_cRoomFor_or (.inr (by omega)) ?_) |skip
 refine UC (U0 j F.slot_tuple_hash.lookup ?_);show wpAny _ _ (if (aw (Value.builtin "tuple.__hash__") == aw Value.none)=aN then _ else _) Q E s;rw[if_neg (by rw[beq_builtin_none];exact Zh)];refine UC (U0 j F.slot_tuple_hash.lookup ?_);show wpAny _ _ (VU (.ref a) "__hash__" _ >>= _) Q E s;refine UC (wpAny_callSpecialIfBoundUnlessNone?_slot j F.slot_tuple_hash (UD F.slot_tuple_hash j F.entry_tuple_hash ?_ (F.args_tuple_hash_1 _)));show wpAny _ _ (Builtin.Tuple.tupleItemsOf (.ref a) >>= _) _ _ s;refine UC (wpAny_tupleItemsOf v hd ?_);refine UC ?_;rw[<-YC]
 refine UH _
  (λc (b:Array Int) l=>∃done left,ks=done++left/\Paired (NIs P w s.heap) left c/\b.toList=done.map (nkH P w)/\l={ s with toks:=s.toks+rH done })
  _ ?_ ?_ _ _ ⟨[],ks,rfl,hi,rfl,rfl⟩
 ·rintro x c b l ⟨done,left,rfl,hl,hb,rfl⟩;cases hl with
  |@cons k _ ks' _ h1 hl'=>
   refine UC (Aj u h1 ?_)
   first
    |exact US ⟨done++[k],ks',by simp,hl',by simp[hb],by simp[rH,YX]⟩
    |exact UC (US (US ⟨done++[k],ks',by simp,hl',by simp[hb],by simp[rH,YX]⟩))
 ·rintro b l ⟨done,left,rfl,hl,hb,rfl⟩;cases hl;rw[Z0] at h;show wpAny _ _ (retInt (Builtin.Tuple.tupleHashOf b.toList)) _ _ _;rw[hb];refine wpAny_ret_mkInt ?_;show wpAny _ _ (if (decide (-(2:Int) ^ 63<=Builtin.Tuple.tupleHashOf (done.map (nkH P w))) && decide (Builtin.Tuple.tupleHashOf (done.map (nkH P w)) < 2 ^ 63))=aN then _ else _) Q E _;unfold Ak reduceHash at h;by_cases d:(decide (-(2:Int) ^ 63<=Builtin.Tuple.tupleHashOf (done.map (nkH P w))) && decide (Builtin.Tuple.tupleHashOf (done.map (nkH P w)) < 2 ^ 63))=aN
  ·rw[if_pos d];rw[if_pos d] at h;exact US (by simpa[YX] using h)
  ·rw[if_neg d];rw[if_neg d] at h;exact UC (UX (US (by simpa[YX] using h)))
def uB{b:Type}[DecidableEq b](x y:List b):((Zg (min x.length y.length)).all (λj=>decide (x[j]?=y[j]?)) && x.length == y.length)=decide (x=y):=by
 rw[Yh,bAE,ZW,decide_eq_true_eq,beq_iff_eq];constructor
 ·rintro⟨c,k⟩;refine Ys λj=>?_;by_cases d:j < x.length
  ·exact of_decide_eq_true (c j (ZJ.mpr (by omega)))
  ·rw[Zr (by omega),Zr (by omega)]
 ·rintro rfl;exact⟨λj _=>decide_eq_true rfl,rfl⟩
def rJ{A:Around}{s:Shared}{x y:Key}{u v:Value}(d:gO x u=aN)(c:gO y v=aN):Vi A s u v (decide (x=y)):=by
 rcases ay d with ⟨i,t,rfl,rfl⟩ |⟨a,t,rfl,rfl⟩
 ·rcases ay c with ⟨j,r,rfl,rfl⟩ |⟨b,r,rfl,rfl⟩
  ·rw[show decide ((Sum.inl i:Key)=Sum.inl j)=(i == j) by simp[Xe]];exact .int_int i t j r
  ·rw[Ah];exact .int_str i t b r
 ·rcases ay c with ⟨j,r,rfl,rfl⟩ |⟨b,r,rfl,rfl⟩
  ·rw[Ai];exact .str_int a t j r
  ·rw[show decide ((Sum.inr a:Key)=Sum.inr b)=(a == b) by simp[Xe]];exact .str_str a t b r
def kT{h:Heap}:∀ {ks:List Key} {b:List Value},ItemsAre (ba P w) ks b->∀ (j:Nat) v,b[j]?=aw v->∃k,ks[j]?=aw k/\gO k v=aN
 |_,_,.nil,j,v,e=>by simp at e
 |_,_,.cons h1 t,0,v,e=>by cases e;exact⟨_,rfl,h1⟩
 |_,_,.cons h1 t,j+1,v,e=>kT (h:=h) t j v (by simpa using e)
def Al{A:Around}{s:Shared}{x y:NK}{u v:Value}(C:A.units < cLine)(L:NIs P w s.heap x u)(q:NIs P w s.heap y v):Vi A s u v (decide (x=y)):=by
 have tup:∀ {ks:List Key} {b:Addr},IsTupleKey (ba P w) s.heap ks b->∃I:Array Value,s.heap.IsTuple b I/\ItemsAre (ba P w) ks I.toList:=λ⟨o,I,n,Z,O,hd,hi⟩=>⟨I,⟨o,Z,O,n,hd⟩,hi⟩;cases x with
 |non=>
  cases L;cases y with
  |non=>cases q;exact .same _
  |one k=>
   rw[decide_eq_false (λz=>nomatch z)];rcases ay q with ⟨i,t,rfl,rfl⟩ |⟨i,t,rfl,rfl⟩
   ·exact .none_int i t
   ·exact .none_str i t
  |tup ks=>
   obtain⟨b,rfl,hb⟩:=q;obtain⟨I,l,_⟩:=tup hb;rw[decide_eq_false (λz=>nomatch z)];exact .none_tuple l C
 |one k=>
  cases y with
  |non=>
   cases q;rw[decide_eq_false (λz=>nomatch z)];rcases ay L with ⟨i,t,rfl,rfl⟩ |⟨i,t,rfl,rfl⟩
   ·exact .int_none i t
   ·exact .str_none i t
  |one J=>
   rw[show decide (NK.one k=NK.one J)=decide (k=J) by simp];exact rJ L q
  |tup ks=>
   obtain⟨b,rfl,hb⟩:=q;obtain⟨I,l,_⟩:=tup hb;rw[decide_eq_false (λz=>nomatch z)];rcases ay L with ⟨i,t,rfl,rfl⟩ |⟨i,t,rfl,rfl⟩
   ·exact .int_tuple i t l C
   ·exact .str_tuple i t l C
 |tup ks=>
  obtain⟨b,rfl,hb⟩:=L;obtain⟨I,l,T⟩:=tup hb;cases y with
  |non=>cases q;rw[decide_eq_false (λz=>nomatch z)];exact .tuple_none l C
  |one k=>
   rw[decide_eq_false (λz=>nomatch z)];rcases ay q with ⟨i,t,rfl,rfl⟩ |⟨i,t,rfl,rfl⟩
   ·exact .tuple_int i t l C
   ·exact .tuple_str i t l C
  |tup d=>
   obtain⟨c,rfl,O⟩:=q;obtain⟨B,h2,Q⟩:=tup O;by_cases e:b=c
   ·subst e;rw[hb.inj O,decide_eq_true rfl];exact .same _
   ·refine .of_refs e ?_
    have z:=SeqAt.RcAt.tuples (e:=λj=>decide (ks[j]?=d[j]?)) l h2 C λj j1 j2=>by
     obtain⟨k,U,m1⟩:=kT (h:=s.heap) T j I[j] (by simp[j1]);obtain⟨J,X,m2⟩:=kT (h:=s.heap) Q j B[j] (by simp[j2]);rw[U,X,show decide (aw k=aw J)=decide (k=J) by simp];exact rJ m1 m2
    have l1:ks.length=I.size:=T.length.trans Zt;have Y:d.length=B.size:=Q.length.trans Zt;rw[<-l1,<-Y,uB] at z;rw[show decide (NK.tup ks=NK.tup d)=decide (ks=d) by simp];exact z
def kU{h:Heap}:∀ {ks:List NK} {b:List Value},Paired (NIs P w h) ks b->∀ (j:Nat) v,b[j]?=aw v->∃k,ks[j]?=aw k/\NIs P w h k v
 |_,_,.nil,j,v,e=>by simp at e
 |_,_,.cons h1 t,0,v,e=>by cases e;exact⟨_,rfl,h1⟩
 |_,_,.cons h1 t,j+1,v,e=>kU t j v (by simpa using e)
def Er{A:Around}{E:Value->Shared->Prop}{s:Shared}{x y:List NK}{a b:Addr}{Q:Bool->Shared->Prop}(hu:A.units+1 < cLine)(B:dI P w s.heap x a)(J:dI P w s.heap y b)(h:Q (decide (x=y)) s):wpAny (model P w) A (eqBool (.ref a) (.ref b)) Q E s:=by
 by_cases e:a=b
 ·subst e;rw[B.inj J,decide_eq_true rfl] at h;exact SeqAt.EqAt.same _ _ _ _ _ h
 ·obtain⟨o,c,n,U,Y,hd,C⟩:=B;obtain⟨Z,I,X,d,q,l,u⟩:=J
  have z:=SeqAt.RcAt.tuples (A:=A) (e:=λj=>decide (x[j]?=y[j]?)) (show s.heap.IsTuple a c from ⟨o,U,Y,n,hd⟩) (show s.heap.IsTuple b I from ⟨Z,d,q,X,l⟩) (by omega) λj j1 j2=>by
   obtain⟨k,L,m1⟩:=kU C j c[j] (by simp[j1]);obtain⟨v,O,m2⟩:=kU u j I[j] (by simp[j2]);rw[L,O,show decide (aw k=aw v)=decide (k=v) by simp];exact Al hu m1 m2
  have l1:x.length=c.size:=C.length.trans Zt;have T:y.length=I.size:=u.length.trans Zt;rw[<-l1,<-T,uB] at z;exact SeqAt.EqAt.of_refs e z _ _ _ _ h
def yz{A:Around}{E:Value->Shared->Prop}{s:Shared}{x:NK}{v:Value}{Q:Bool->Shared->Prop}(q:NIs P w s.heap x v)(h:Q aN s):wpAny (model P w) A (V4 7 v) Q E s:=by
 cases x with
 |non=>cases q;rw[V5 _ rfl];exact US h
 |one k=>rw[V5 _ ((ba P w).byValue k v (by exact q))];exact US h
 |tup ks=>
  obtain⟨b,rfl,B⟩:=q;have z:=B.typeIs;obtain⟨o,I,n,C,_,hd,hi⟩:=B;unfold V4;refine UC (U0 z F.slot_tuple_eq.lookup ?_);show wpAny _ _ (isInstance (.ref b) (.type "tuple") >>= _) _ _ s;refine UC (wpAny_isInstance z Ua ?_);simp only[Xh,ZR,if_false];refine UC (UY C hd ?_);refine UC ?_;show wpAny _ _ (forIn I _ _) _ _ s;rw[<-YC];refine UH _ (λd r l=>r.1=aD/\l=s/\∀v ∈ d,carriedByValue v=aN) _ ?_ ?_ _ _ ⟨rfl,rfl,hi.byValue⟩
  ·rintro v d r l ⟨j,rfl,c⟩;rw[V5 _ (c v Zi)];refine UC (US ?_);simp only[Xh,ZR,if_false];exact US ⟨rfl,rfl,λu y=>c u (Ze _ y)⟩
  ·rintro⟨r1,r2⟩ l ⟨j,rfl,_⟩;simp only at j;subst j;exact US h
def uC{A:Around}{E:Value->Shared->Prop}{s:Shared}{ks:List NK}{a:Addr}{Q:Bool->Shared->Prop}(k:dI P w s.heap ks a)(h:Q aN s):wpAny (model P w) A (V4 8 (.ref a)) Q E s:=by
 have j:=k.typeIs;obtain⟨o,I,n,q,_,hd,hi⟩:=k;unfold V4;refine UC (U0 j F.slot_tuple_eq.lookup ?_);show wpAny _ _ (isInstance (.ref a) (.type "tuple") >>= _) _ _ s;refine UC (wpAny_isInstance j Ua ?_);simp only[Xh,ZR,if_false];refine UC (UY q hd ?_);refine UC ?_;show wpAny _ _ (forIn I _ _) _ _ s;rw[<-YC];refine UH _ (λb r d=>r.1=aD/\d=s/\∃left,Paired (NIs P w s.heap) left b) _ ?_ ?_ _ _ ⟨rfl,rfl,ks,hi⟩
 ·rintro v b r d ⟨c,rfl,left,hl⟩;cases hl with
  |cons l u=>
   refine UC (yz l ?_);simp only[Xh,ZR,if_false];exact US ⟨rfl,rfl,_,u⟩
 ·rintro⟨r1,r2⟩ d ⟨c,rfl,_⟩;simp only at c;subst c;exact US h
end
abbrev fH(P:Program)(w:World):HeapKind P w (List NK) where
 is:=dI P w
 hash:=Ak P w
 draws:=λks=>rH ks+1
 room:=λA=>A.units+1 < cLine
 inj:=λc b=>c.inj b
 keeps:=λx k hd hs=>x.keeps k hd hs
 pyHash:=λd j h=>yy d j h
 eqBool:=λd c b h=>Er d c b h
 quiet:=λj h=>uC j h
inductive V where
 |non |bl (b:Bool) |int (i:Int) |str (x:Str) |byt (b:Array UInt8) |flt (b:UInt64) |ref (a:Addr) |ty (n:String)
 deriving DecidableEq
abbrev aB:V->Value->Prop
 |.non,u=>u=Value.none
 |.bl b,u=>u=Value.bool b
 |.int i,u=>∃t,u=Value.int i t
 |.str x,u=>∃t,u=Value.str x t
 |.byt b,u=>∃t,u=Value.bytes b t
 |.flt b,u=>∃t,u=Value.float b t
 |.ref a,u=>u=Value.ref a
 |.ty n,u=>u=Value.type n
@[inline]abbrev aM:List V->List Value->Prop:=Paired aB
def aM.length{xs:List V}{u:List Value}(r:aM xs u):xs.length=u.length:=Paired.length r
def aM.get:∀ {xs:List V} {U:List Value} {i:Nat} {x:V},aM xs U->xs[i]?=aw x->∃u,U[i]?=aw u/\aB x u
 |_,_,_,_,.nil,e=>by simp at e
 |_,_,0,_,.cons r _,e=>by simp at e;subst e;exact⟨_,rfl,r⟩
 |_,_,i+1,x,.cons _ t,e=>by
  obtain⟨u,b,c⟩:=aM.get (i:=i) (x:=x) t (by simpa using e);exact⟨u,by simpa using b,c⟩
def aM.set{x:V}{u:Value}(r:aB x u):∀ {xs:List V} {U:List Value} (i:Nat),aM xs U->aM (xs.set i x) (U.set i u)
 |_,_,_,.nil=>.nil
 |_,_,0,.cons _ t=>.cons r t
 |_,_,i+1,.cons q t=>.cons q (aM.set r i t)
def aM.append:∀ {xs y:List V} {u b:List Value},aM xs u->aM y b->aM (xs++y) (u++b)
 |_,_,_,_,.nil,s=>s
 |_,_,_,_,.cons r t,s=>.cons r (aM.append t s)
def aM.take:∀ {xs:List V} {u:List Value} (n:Nat),aM xs u->aM (xs.take n) (u.take n)
 |_,_,0,_=>.nil
 |_,_,_+1,.nil=>.nil
 |_,_,n+1,.cons r t=>.cons r (aM.take n t)
def aM.drop:∀ {xs:List V} {u:List Value} (n:Nat),aM xs u->aM (xs.drop n) (u.drop n)
 |_,_,0,r=>r
 |_,_,_+1,.nil=>.nil
 |_,_,n+1,.cons _ t=>aM.drop n t
abbrev uD:Option V->Option Value->Prop
 |some v,aw u=>aB v u
 |none,aD=>True
 |_,_=>False
abbrev KV{b:Type}:List (b × V)->List (b × Value)->Prop:=Paired λ(p:b × V) (q:b × Value)=>p.1=q.1/\aB p.2 q.2
abbrev kV:Key->V
 |.inl i=>.int i
 |.inr x=>.str x
abbrev pE(h:Heap)(a:Addr)(I:Array Value):Prop:=∃o,h.get? a=aw o/\o.cls = .type "tuple"/\∃n,o.data = .seq I n/\o.dict=aD
def pE.isTup(x:pE h a items):IsTup h a items:=let ⟨o,e,c,n,d,_⟩:=x;⟨o,e,c,n,d⟩
def pE.lt(x:pE h a I):a < h.objs.size:=x.isTup.lt
def pE.new(h:Heap)(items:Array Value):pE (h.push { cls:=.type "tuple", data:=.seq items }) h.objs.size items:=⟨_,Zu _ rfl,rfl,_,rfl,rfl⟩
inductive HO where
  |lst (xs:List V)
  |tup (xs:List V)
  |dK (kvs:List (Key × V)) |dT (kvs:List (List NK × V))
  |set (S:Int->Bool) (n:Nat)
  |ins (C dx:Addr) (fs:List (Str × V))
  |own (x:Addr)
  |xd (fs:List (Str × V))
  |met (f x:Addr)
  |rng (lo hi:Int)
  |frz (o:Obj) (u:HO)
  |tbl (ps:Array Value)
  |ext (φ:Heap->Prop)
@[inline]abbrev Hp:=Addr->Option HO
abbrev upd(H:Hp)(a:Addr)(o:HO):Hp:=λb=>if b=a then aw o else H b
def az{H:Hp}{a:Addr}{o:HO}:upd H a o a=aw o:=by unfold upd;rw[if_pos rfl]
def ac{H:Hp}{a b:Addr}{o:HO}(h:b ≠ a):upd H a o b=H b:=by unfold upd;rw[if_neg h]
def wR{H:Hp}{a b:Addr}{o u:HO}(h:H a=aw o)(h':H b=aw u)(d:o ≠ u):a ≠ b:=by
 intro e;subst e;rw[h] at h';exact d (Option.some.inj h')
def aV{H:Hp}{a b:Addr}{o:HO}(h:H a=aw o)(h':H b=aD):a ≠ b:=by
 intro e;subst e;rw[h] at h';cases h'
abbrev yA(H:Hp):NK->V->Prop
 |.non,x=>x = .non
 |.one k,x=>x=kV k
 |.tup ks,x=>∃b,x = .ref b/\H b=aw (.tup (ks.map kV))
abbrev pF(H:Hp)(ks:List NK)(a:Addr):Prop:=∃X,H a=aw (.tup X)/\Paired (yA H) ks X
def yA.mono{H c:Hp}(d:∀b xs,H b=aw (.tup xs)->c b=aw (.tup xs)){k:NK}{x:V}(h:yA H k x):yA c k x:=by
 cases k with
 |non=>exact h
 |one k=>exact h
 |tup ks=>obtain⟨b,e,q⟩:=h;exact⟨b,e,d _ _ q⟩
def pF.mono{H d:Hp}{ks:List NK}{a:Addr}(h:pF H ks a)(c:∀b xs,H b=aw (.tup xs)->d b=aw (.tup xs)):pF d ks a:=
 let ⟨xs,e,r⟩:=h;⟨xs,c _ _ e,J2 (λ_ _ z=>z.mono c) r⟩
section
variable (P:Program) (w:World)
abbrev a9(H:Hp)(h:Heap)(a:Addr):HO->Prop
 |.lst X=>X.length<=sizeLine/\∃ (I:List Value) (n:Nat),aM X I/\h.get? a=aw { cls:=.type "list", data:=.seq I.toArray n }
 |.tup X=>X.length<=sizeLine/\∃I:List Value,aM X I/\pE h a I.toArray
 |.dK kvs=>kvs.length<=sizeLine/\(a == Uz)=aS/\∃k,KV kvs k/\h.DictOf (ba P w) a k
 |.dT kvs=>kvs.length<=sizeLine/\(a == Uz)=aS/\∃X:List (List NK × Addr × Value),
   Paired (λ(p:List NK × V) (q:List NK × Addr × Value)=>p.1=q.1/\pF H p.1 q.2.1/\aB p.2 q.2.2) kvs X ∧
   ∃o c l,h.get? a=aw o/\o.ExactDict/\o.data = .dict c l/\c.toList=X.map (entryOfKey (fH P w))/\(X.map (·.1)).Nodup
 |.set S n=>h.SetOf (intKind P w) a S n
 |.ins C dx fs=>H dx=aw (.own a)/\fs.length<=1000/\dx ≠ a/\h.get? a=aw (Vu C dx) ∧
   ∃b,h.Ns1 dx b/\(∀f,uD (fs.lookup f) (b f))/\PySem.Within b (fs.map (·.1))
 |.own _=>∃o,h.get? a=aw o
 |.xd fs=>∃b,h.Ns1 a b/\∀f,uD (fs.lookup f) (b f)
 |.rng lo hi=>∃t u v,h.get? a=aw { cls:=.type "range", data:=.fields #[.int lo t,.int hi u,.int 1 v] }
 |.frz o u=>h.get? a=aw o/\a9 H h a u
 |.tbl ps=>h.get? a=aw { cls:=.none,data:=.fields ps }
 |.met f x=>h.get? a=aw (VF (.ref f) (.ref x))
 |.ext φ=>φ h/\(∃o,h.get? a=aw o)/\∀j d:Heap,φ j->(∀o,j.get? a=aw o->d.get? a=aw o)->φ d
abbrev HOk(H:Hp)(h:Heap):Prop:=∀a o,H a=aw o->a9 P w H h a o
end
section
variable {P:Program} {w:World} {H H':Hp} {h h':Heap} {a:Addr} {o:HO}
def a9.lt(x:a9 P w H h a o):a < h.objs.size:=by
 cases o with
 |lst X=>obtain⟨_,_,_,_,e⟩:=x;exact Zs e
 |tup X=>obtain⟨_,_,_,p⟩:=x;exact p.lt
 |dK k=>obtain⟨_,_,_,_,o,_,_,e,_⟩:=x;exact Zs e
 |dT k=>obtain⟨_,_,_,_,o,_,_,e,_⟩:=x;exact Zs e
 |set S n=>obtain⟨o,_,_,_,e,_⟩:=x;exact Zs e
 |ins C d fs=>obtain⟨_,_,_,e,_⟩:=x;exact Zs e
 |own y=>obtain⟨_,e⟩:=x;exact Zs e
 |xd fs=>obtain⟨_,⟨_,_,_,e,_⟩,_⟩:=x;exact Zs e
 |rng lo hi=>obtain⟨_,_,_,e⟩:=x;exact Zs e
 |frz ob u=>obtain⟨e,_⟩:=x;exact Zs e
 |tbl ps=>exact Zs (show h.get? a=aw _ from x)
 |met f y=>exact Zs (show h.get? a=aw _ from x)
 |ext b=>obtain⟨_,⟨_,e⟩,_⟩:=x;exact Zs e
def Paired.mapP{c d:Type}{F G:c->d->Prop}:∀ {L:List c} {l:List d},Paired F L l->(∀a b,F a b->G a b)->Paired G L l
 |_,_,.nil,_=>.nil
 |_,_,.cons r t,f=>.cons (f _ _ r) (Paired.mapP t f)
def a9.stay(x:a9 P w H h a o)(k:∀b u,(b=a\/H b=aw (.own a))->h.get? b=aw u->h'.get? b=aw u)
  (T:∀b,H b=aw (.own a)->H' b=aw (.own a)) (L:∀b xs,H b=aw (.tup xs)->H' b=aw (.tup xs)):a9 P w H' h' a o:=by
 induction o with
 |lst xs=>obtain⟨z,I,n,r,e⟩:=x;exact⟨z,I,n,r,k _ _ (.inl rfl) e⟩
 |tup xs=>obtain⟨z,I,r,ob,e,c⟩:=x;exact⟨z,I,r,ob,k _ _ (.inl rfl) e,c⟩
 |dK B=>obtain⟨z,y,X,r,ob,j,l,e,c⟩:=x;exact⟨z,y,X,r,ob,j,l,k _ _ (.inl rfl) e,c⟩
 |dT B=>
  obtain⟨z,y,xs,r,ob,j,l,e,c⟩:=x;exact⟨z,y,xs,Paired.mapP r λp q z=>⟨z.1,z.2.1.mono L,z.2.2⟩,ob,j,l,k _ _ (.inl rfl) e,c⟩
 |set S n=>obtain⟨ob,j,l,t,e,c⟩:=x;exact⟨ob,j,l,t,k _ _ (.inl rfl) e,c⟩
 |ins C Y fs=>
  obtain⟨d,z,ne,e,J,⟨O,j,l,Q,c⟩,r⟩:=x;exact⟨T _ d,z,ne,k _ _ (.inl rfl) e,J,⟨O,j,l,k _ _ (.inr d) Q,c⟩,r⟩
 |own y=>obtain⟨ob,e⟩:=x;exact⟨ob,k _ _ (.inl rfl) e⟩
 |xd fs=>obtain⟨J,⟨O,j,l,e,c⟩,r⟩:=x;exact⟨J,⟨O,j,l,k _ _ (.inl rfl) e,c⟩,r⟩
 |rng lo hi=>obtain⟨t,u,v,e⟩:=x;exact⟨t,u,v,k _ _ (.inl rfl) e⟩
 |frz ob u U=>obtain⟨e,q⟩:=x;exact⟨k _ _ (.inl rfl) e,U q⟩
 |tbl ps=>
  have e:h.get? a=aw { cls:=.none,data:=.fields ps }:=x;show h'.get? a=aw { cls:=.none,data:=.fields ps };exact k a _ (.inl rfl) e
 |met f y=>
  have e:h.get? a=aw (VF (.ref f) (.ref y)):=x;show h'.get? a=aw (VF (.ref f) (.ref y));exact k a _ (.inl rfl) e
 |ext Z=>obtain⟨p,⟨o,e⟩,st⟩:=x;exact⟨st _ _ p λo q=>k _ _ (.inl rfl) q,⟨o,k _ _ (.inl rfl) e⟩,st⟩
def HOk.lt(x:HOk P w H h)(e:H a=aw o):a < h.objs.size:=(x a o e).lt
def HOk.fresh(x:HOk P w H h)(e:h.objs.size<=a):H a=aD:=by
 cases q:H a with
 |none=>rfl
 |some u=>exact absurd (ZC (x.lt q) e) (ZL _)
def HOk.kept(x:HOk P w H h)(k:∀b u,h.get? b=aw u->h'.get? b=aw u):HOk P w H h':=λa o e=>
 (x a o e).stay (λb u _ q=>k b u q) (λ_ q=>q) λ_ _ q=>q
def HOk.laid(x:HOk P w H h)(k:∀b u,h.get? b=aw u->h'.get? b=aw u)(j:h.objs.size<=a)(new:a9 P w (upd H a o) h' a o):HOk P w (upd H a o) h':=λb u e=>by
 have d:=x.fresh j;by_cases hb:b=a
 ·subst hb;rw[az] at e;cases e;exact new
 ·rw[ac hb] at e;exact(x b u e).stay (λc v _ q=>k c v q) (λc q=>by rw[ac (aV q d)];exact q) λc X q=>by rw[ac (aV q d)];exact q
end
abbrev Rd(H:Hp)(a:Addr)(u:HO):Prop:=H a=aw u\/∃o,H a=aw (.frz o u)
def Rd.ok{P:Program}{w:World}{H:Hp}{h:Heap}{a:Addr}{u:HO}(r:Rd H a u)(x:HOk P w H h):a9 P w H h a u:=by
 rcases r with r |⟨o,r⟩
 ·exact x a u r
 ·obtain⟨_,q⟩:=x a _ r;exact q
abbrev Mut:Option HO->Prop
 |some (.lst _)=>True
 |some (.dK _)=>True
 |some (.dT _)=>True
 |some (.set _ _)=>True
 |some (.ins _ _ _)=>True
 |some (.ext _)=>True
 |_=>False
section
variable {P:Program} {w:World} {H:Hp} {h h':Heap} {x e:Addr} {o':HO}
def HOk.write(ok:HOk P w H h)(B:Mut (H x))(I:e=x\/H e=aw (.own x))(k:∀b u,b ≠ e->h.get? b=aw u->h'.get? b=aw u)(C:∃u,h'.get? e=aw u)
  (new:a9 P w (upd H x o') h' x o'):HOk P w (upd H x o') h':=λb u q=>by
 have j:∀c y,H c=aw (.own y)->c ≠ x:=λc y r z=>by subst z;rw[r] at B;exact B
 have l:∀c X,H c=aw (.tup X)->c ≠ x:=λc X r z=>by subst z;rw[r] at B;exact B
 by_cases hb:b=x
 ·subst hb;rw[az] at q;cases q;exact new
 ·rw[ac hb] at q;by_cases d:b=e
  ·have Q:H b=aw (.own x):=by
    rcases I with z |z
    ·exact absurd (d.trans z) hb
    ·rw[d];exact z
   rw[q] at Q;cases Q;obtain⟨v,J⟩:=C;exact⟨v,by rw[d];exact J⟩
  ·refine(ok b u q).stay (λc v hc r=>k c v ?_ r) (λc r=>by rw[ac (j c b r)];exact r) λc X r=>by rw[ac (l c X r)];exact r
   rcases hc with rfl |hc
   ·exact d
   ·rintro rfl;rcases I with z |z
    ·exact j c b hc z
    ·rw[hc] at z;cases z;exact hb rfl
end
structure Un(fs ex:List Addr)(H H':Hp)(h h':Heap):Prop where
 keep:∀b o,h.get? b=aw o->H b=aD->b ∉ fs->b ∉ ex->h'.get? b=aw o
 slot:∀b o,h.get? b=aw o->H b=aD->b ∈ fs->b ∉ ex->∃sl,h'.get? b=aw { o with slots:=sl }
 free:∀b o,h.get? b=aw o->H b=aD->b ∉ ex->H' b=aD
 there:∀b o,h.get? b=aw o->b ∉ ex->∃o',h'.get? b=aw o'
 tups:∀b xs,H b=aw (.tup xs)->H' b=aw (.tup xs)
 frzs:∀b o u,H b=aw (.frz o u)->H' b=aw (.frz o u)
 tbls:∀b ps,H b=aw (.tbl ps)->∃more,H' b=aw (.tbl (ps++more))
section
variable {fs fs' ex ex':List Addr} {H H1 H2:Hp} {h h1 h2 h':Heap} {a x e:Addr} {o:HO}
def Un.any(u:Un fs ex H H1 h h1){b:Addr}{ob:Obj}(q:h.get? b=aw ob)(n:H b=aD)(c:b ∉ ex):∃sl,h1.get? b=aw { ob with slots:=sl }:=by
 by_cases hb:b ∈ fs
 ·exact u.slot b ob q n hb c
 ·exact⟨ob.slots,u.keep b ob q n hb c⟩
def Un.kept(k:∀b u,h.get? b=aw u->h'.get? b=aw u):Un fs ex H H h h':=
 ⟨λb ob q _ _ _=>k b ob q,λb ob q _ _ _=>⟨ob.slots,k b ob q⟩,λ_ _ _ n _=>n,λb ob q _=>⟨ob,k b ob q⟩,λ_ _ q=>q,λ_ _ _ q=>q,λ_ ps q=>⟨#[],by rw[q];simp⟩⟩
def Un.refl:Un fs ex H H h h:=Un.kept λ_ _ q=>q
def Un.laid(k:∀b u,h.get? b=aw u->h'.get? b=aw u)(d:h.objs.size<=a)(c:H a=aD):Un fs ex H (upd H a o) h h' where
 keep:=λb u q _ _ _=>k b u q
 slot:=λb u q _ _ _=>⟨u.slots,k b u q⟩
 free:=λb u q n _=>by rw[ac (ZH (ZC (Zs q) d))];exact n
 there:=λb u q _=>⟨u,k b u q⟩
 tups:=λb X q=>by rw[ac (aV q c)];exact q
 frzs:=λb u X q=>by rw[ac (aV q c)];exact q
 tbls:=λb ps q=>⟨#[],by rw[ac (aV q c),q];simp⟩
def Un.write(d:Mut (H x))(y:e=x\/H e=aw (.own x))(k:∀b u,b ≠ e->h.get? b=aw u->h'.get? b=aw u)(j:∃u,h'.get? e=aw u):Un fs ex H (upd H x o) h h':=by
 have v:∀b,H b=aD->b ≠ x:=λb n z=>by subst z;rw[n] at d;exact d
 have hb:∀b,H b=aD->b ≠ e:=λb n z=>by
  subst z;rcases y with r |r
  ·exact v b n r
  ·rw[n] at r;cases r
 have l:∀b u,H b=aw u->¬ Mut (aw u)->b ≠ x:=λb u q nm z=>by subst z;rw[q] at d;exact nm d
 refine⟨λb u q n _ _=>k b u (hb b n) q,λb u q n _ _=>⟨u.slots,k b u (hb b n) q⟩,λb u q n _=>by rw[ac (v b n)];exact n,λb u q _=>?_,
  λb X q=>by rw[ac (l b _ q λz=>z)];exact q,λb u X q=>by rw[ac (l b _ q λz=>z)];exact q,λb ps q=>⟨#[],by rw[ac (l b _ q λz=>z),q];simp⟩⟩
 by_cases c:b=e
 ·subst c;exact j
 ·exact⟨u,k b u c q⟩
end
abbrev trk(h:Heap)(H:Hp):List Addr:=(Zg h.objs.size).filter λa=>(H a).isSome
abbrev kW(h:Heap)(H:Hp):Heap:=PySem.W.hideAll h (trk h H)
def yB(h:Heap)(H:Hp):(kW h H).objs.size=h.objs.size:=PySem.W.hideAll_size _ _
def An(e:h.get? b=aw o)(n:H b=aD):(kW h H).get? b=aw o:=
 PySem.W.hideAll_get _ e λc=>by
  have q:(H b).isSome=aN:=(ZI.mp c).2;rw[n] at q;simp at q
def Es(e:(kW h H).get? b=aw o):h.get? b=aw o/\H b=aD:=by
 have c:h.get? b=aw o:=PySem.W.of_hideAll (trk h H) e;refine⟨c,?_⟩;cases q:H b with
 |none=>rfl
 |some x=>
  have d:b ∈ trk h H:=ZI.mpr ⟨ZJ.mpr (Zs c),by simp[q]⟩;have z:(kW h H).get? b=aD:=PySem.W.hideAll_none (trk h H) d;rw[z] at e;cases e
structure Mod(K:Vp)(mg:Str->Option Value)(base:Heap):Prop where
 kin:K.In base
 glob:base.Ns Ud mg
 blt:∃mb,base.Ns VT mb/\∀x:Str,x ≠ "__name__"->mb x=VR x
 nolimit:base.NoLimit
structure Cx where
 prog:Program
 w:World
 K:Vp
 mg:Str->Option Value
 base:Heap
 A:Around
 N:List Str
 s₀:Shared
 H₀:Hp
 env:Env
 outer:List Env
 stack:List Env
 ex:List Addr
 fn:Str->Bool
 calm:Bool
 pn:List (Addr × Obj)
 xe:Value->Shared->Prop
abbrev frs(l:List Env):List Addr:=l.filterMap (·.frame)
noncomputable abbrev Cx.fs(X:Cx):List Addr:=frs X.outer
abbrev Vis(sc:Scope)(x:Str):Prop:=sc.names.lookup x=aw .local\/sc.names.lookup x=aw .cell\/sc.names.lookup x=aw .free
abbrev Loc(sc:Scope)(x:Str):Prop:=sc.names.lookup x=aw .local\/sc.names.lookup x=aw .cell
abbrev Sf(env:Env)(h:Heap)(m:Str->Option Value)(x:Str)(u:Value):Prop:=
 (env.kindOf x=aw .local/\m x=aw u)\/((env.kindOf x=aw .cell\/env.kindOf x=aw .free)/\∃c,env.cells.lookup x=aw c/\h.IsCell c (aw u))
structure Cx.Ok(X:Cx):Prop where
 mod:Mod X.K X.mg X.base
 kind:X.env.scope.kind = .function
 glob:X.env.globals=Ud
 blt:X.env.builtins=VT
 above:X.s₀.heap.objs.size<=X.env.locals
 inj:∀x y c,X.env.cells.lookup x=aw c->X.env.cells.lookup y=aw c->x=y
 has:∀x,(X.env.kindOf x=aw .cell\/X.env.kindOf x=aw .free)->∃c,X.env.cells.lookup x=aw c
 cab:∀x c,X.fn x=aN->X.env.cells.lookup x=aw c->X.s₀.heap.objs.size<=c
 hd:X.calm=aN->X.A.handled=aD
 frames:X.A.frames=aw X.stack
 stk:X.stack=X.outer\/(X.stack=X.env::X.outer/\X.env.frame=aw X.env.locals)
 exf:∀b ∈ X.ex,b ≠ X.env.locals/\∀x c,X.env.cells.lookup x=aw c->c ≠ b
 bs:∀b o,X.base.get? b=aw o->X.s₀.heap.get? b=aw o/\X.H₀ b=aD
 bsz:X.base.objs.size<=X.s₀.heap.objs.size
 noex:∀b o,X.base.get? b=aw o->b ∉ X.ex
 exfs:∀b ∈ X.ex,b ∉ X.fs
 funs:X.s₀.heap.FunFrames X.base X.outer
 frf:∀b ∈ X.fs,X.H₀ b=aD
structure Inv(X:Cx)(pins:List (Addr × Obj))(σ:List (Option V))(H:Hp)(s:Shared):Prop where
 ok:X.Ok
 os:s.os=X.s₀.os
 bare:AllBare s.gens
 base:Un X.fs X.ex X.H₀ H X.s₀.heap s.heap
 loc:∃m,s.heap.Ns X.env.locals m/\∀ (i:Nat) (x:Str) (v:V),X.N[i]?=aw x->σ[i]?=aw (aw v)->Vis X.env.scope x->∃u,aB v u/\Sf X.env s.heap m x u
 cell:∀x c,X.env.cells.lookup x=aw c->∃v,s.heap.IsCell c v
 free:H X.env.locals=aD
 freeC:∀x c,X.env.cells.lookup x=aw c->H c=aD
 pin:∀p ∈ X.pn++pins,s.heap.get? p.1=aw p.2/\H p.1=aD/\p.1 ≠ X.env.locals/\p.1 ∉ X.fs/\∀v,p.2.data ≠ .cell v
 hok:HOk X.prog X.w H s.heap
 len:σ.length=X.N.length
section
variable {X:Cx} {pins:List (Addr × Obj)} {σ:List (Option V)} {H H':Hp} {s:Shared} {h':Heap}
def Cx.Ok.nofr(ok:X.Ok)(e:X.base.get? b=aw o):b ∉ X.fs:=λhb=>by
 have:=(ok.funs.mem hb).1;rw[e] at this;cases this
def Inv.bs(I:Inv X pins σ H s):∀b o,X.base.get? b=aw o->s.heap.get? b=aw o/\H b=aD:=λb o e=>
 ⟨I.base.keep b o (I.ok.bs b o e).1 (I.ok.bs b o e).2 (I.ok.nofr e) (I.ok.noex b o e),I.base.free b o (I.ok.bs b o e).1 (I.ok.bs b o e).2 (I.ok.noex b o e)⟩
def Inv.bk(I:Inv X pins σ H s):∀b o,X.base.get? b=aw o->s.heap.get? b=aw o:=λb o e=>(I.bs b o e).1
def Inv.mod(I:Inv X pins σ H s):Mod X.K X.mg X.base:=I.ok.mod
def Inv.kIn(I:Inv X pins σ H s):X.K.In s.heap:=I.ok.mod.kin.keeps I.bk
def Inv.lt(I:Inv X pins σ H s):X.env.locals < s.heap.objs.size:=let ⟨_,hn,_⟩:=I.loc;hn.lt
def Inv.sz(I:Inv X pins σ H s):X.s₀.heap.objs.size<=s.heap.objs.size:=ZX I.ok.above (Y4 I.lt)
def Inv.nofs(I:Inv X pins σ H s)(h:s.heap.objs.size<=a):a ∉ X.fs:=λhb=>by
 obtain⟨_,o,b,_⟩:=I.ok.funs.mem hb;exact absurd (ZC (Zs b) (ZX I.sz h)) (ZL _)
def Inv.cne(I:Inv X pins σ H s):∀x c,X.env.cells.lookup x=aw c->c ≠ X.env.locals:=λx c e z=>by
 obtain⟨v,o,j,hd⟩:=I.cell x c e;obtain⟨m,⟨O,k,l,b,d,_⟩,_⟩:=I.loc;rw[z,b] at j;cases j;rw[d] at hd;cases hd
def Inv.funs(I:Inv X pins σ H s):s.heap.FunFrames X.base X.outer:=by
 have all:∀ (l:List Env),(∀b ∈ frs l,b ∈ X.fs)->X.s₀.heap.FunFrames X.base l->s.heap.FunFrames X.base l:=by
  intro l
  induction l with
  |nil=>intro _ _;trivial
  |cons env r y=>
   intro hs k;obtain⟨v,⟨L,o,d,u,q,hd⟩,j⟩:=k;have c:L ∈ X.fs:=hs L (by unfold frs;rw[YU,d];exact Zi);obtain⟨sl,e⟩:=I.base.slot L o q (I.ok.frf L c) c λz=>I.ok.exfs L z c;exact⟨v,⟨L,_,d,u,e,hd⟩,y (λb hb=>hs b (by unfold frs;rw[YU,d];exact Ze _ hb)) j⟩
 exact all X.outer (λ_ hb=>hb) I.ok.funs
def Inv.stack(I:Inv X pins σ H s):s.heap.FunFrames X.base X.stack:=by
 rcases I.ok.stk with e |⟨e,hf⟩
 ·rw[e];exact I.funs
 ·rw[e];obtain⟨m,b,_⟩:=I.loc;refine .cons (by rw[I.ok.kind];decide) hf b ?_ I.funs;exact Heap.get?_none_of_le (ZX I.ok.bsz I.ok.above)
def Inv.stkSub(I:Inv X pins σ H s):∀b ∈ frs X.stack,b ∈ X.env.locals::X.fs:=λb hb=>by
 rcases I.ok.stk with e |⟨e,hf⟩
 ·rw[e] at hb;exact Ze _ hb
 ·rw[e] at hb;unfold frs at hb;rw[YU,hf] at hb;exact hb
def Inv.stkFree(I:Inv X pins σ H s):∀b ∈ frs X.stack,H b=aD:=λb hb=>by
 rcases Zn.mp (I.stkSub b hb) with e |hb
 ·rw[e];exact I.free
 ·obtain⟨_,o,c,_⟩:=I.ok.funs.mem hb;exact I.base.free b o c (I.ok.frf b hb) λz=>I.ok.exfs b z hb
def Inv.step{g':Array GenState}{t':Nat}{d':Drawn}{ch:List Addr}(I:Inv X pins σ H s)
  (y:∀b ∈ ch,(b ∈ X.ex\/X.s₀.heap.objs.size<=b)/\b ≠ X.env.locals/\(∀x c,X.env.cells.lookup x=aw c->c ≠ b)/\∀p ∈ X.pn++pins,p.1 ≠ b)
  (keep:∀b o,b ≠ X.env.locals->b ∉ X.fs->b ∉ ch->s.heap.get? b=aw o->H b=aD->h'.get? b=aw o)
  (slot:∀b o,b ≠ X.env.locals->b ∈ X.fs->b ∉ ch->s.heap.get? b=aw o->H b=aD->∃sl,h'.get? b=aw { o with slots:=sl }) (free:∀b o,b ∉ ch->s.heap.get? b=aw o->H b=aD->H' b=aD)
  (there:∀b o,b ∉ ch->s.heap.get? b=aw o->∃Q,h'.get? b=aw Q)
  (tups:∀b xs,H b=aw (.tup xs)->H' b=aw (.tup xs)) (frzs:∀b o u,H b=aw (.frz o u)->H' b=aw (.frz o u)) (tbls:∀b ps,H b=aw (.tbl ps)->∃more,H' b=aw (.tbl (ps++more)))
  (ns:∀m,s.heap.Ns X.env.locals m->h'.Ns X.env.locals m) (hok:HOk X.prog X.w H' h') (hg:AllBare g') :
  Inv X pins σ H' { s with heap:=h',gens:=g',drawn:=d',toks:=t' }:=by
 have U:∀b o,X.s₀.heap.get? b=aw o->b ≠ X.env.locals:=λb o e=>ZH (ZC (Zs e) I.ok.above)
 have L:∀b o,X.s₀.heap.get? b=aw o->b ∉ X.ex->b ∉ ch:=λb o e j hb=>by
  rcases (y b hb).1 with z |z
  ·exact j z
  ·exact absurd (ZC (Zs e) z) (ZL _)
 have C:∀x c,X.env.cells.lookup x=aw c->∀v,s.heap.IsCell c v->h'.IsCell c v:=λx c e v ⟨o,O,hd⟩=>by
  have B:c ∉ ch:=λz=>(y c z).2.2.1 x c e rfl;by_cases hc:c ∈ X.fs
  ·obtain⟨sl,q⟩:=slot c o (I.cne x c e) hc B O (I.freeC x c e);exact⟨_,q,hd⟩
  ·exact⟨o,keep c o (I.cne x c e) hc B O (I.freeC x c e),hd⟩
 refine⟨I.ok,I.os,hg,⟨λb o e n hb j=>?_,λb o e n hb j=>?_,λb o e n j=>?_,λb o e j=>?_,λb xs e=>tups b xs (I.base.tups b xs e),λb o xs e=>frzs b o xs (I.base.frzs b o xs e),λb ps e=>?_⟩,?_,λx c e=>?_,?_,λx c e=>?_,λp hp=>?_,hok,I.len⟩
 ·exact keep b o (U b o e) hb (L b o e j) (I.base.keep b o e n hb j) (I.base.free b o e n j)
 ·obtain⟨sl,J⟩:=I.base.slot b o e n hb j;obtain⟨Y,T⟩:=slot b _ (U b o e) hb (L b o e j) J (I.base.free b o e n j);exact⟨Y,T⟩
 ·obtain⟨Q,J⟩:=I.base.there b o e j;exact free b Q (L b o e j) J (I.base.free b o e n j)
 ·obtain⟨Q,J⟩:=I.base.there b o e j;exact there b Q (L b o e j) J
 ·obtain⟨m1,J⟩:=I.base.tbls b ps e;obtain⟨m2,T⟩:=tbls b _ J;exact⟨m1++m2,by rw[T,Array.append_assoc]⟩
 ·obtain⟨m,hn,hl⟩:=I.loc;refine⟨m,ns m hn,λi x v J T e3=>?_⟩;obtain⟨u,r,l⟩:=hl i x v J T e3;refine⟨u,r,?_⟩;rcases l with l |⟨k,c,e,z⟩
  ·exact .inl l
  ·exact .inr ⟨k,c,e,C x c e _ z⟩
 ·obtain⟨v,z⟩:=I.cell x c e;exact⟨v,C x c e v z⟩
 ·obtain⟨m,⟨o,_,_,O,_⟩,_⟩:=I.loc;exact free _ o (λz=>(y _ z).2.1 rfl) O I.free
 ·obtain⟨v,o,O,hd⟩:=I.cell x c e;exact free c o (λz=>(y c z).2.2.1 x c e rfl) O (I.freeC x c e)
 ·obtain⟨e,n,ne,Z,d⟩:=I.pin p hp;have B:p.1 ∉ ch:=λz=>(y p.1 z).2.2.2 p hp rfl;exact⟨keep p.1 p.2 ne Z B e n,free p.1 p.2 B e n,ne,Z,d⟩
def Inv.un{t':Nat}(I:Inv X pins σ H s)(u:Un X.fs [] H H' s.heap h')(hok:HOk X.prog X.w H' h'):Inv X pins σ H' { s with heap:=h',toks:=t' }:=by
 obtain⟨m,⟨o,y,B,k,r⟩,_⟩:=id I.loc;obtain⟨sl,q⟩:=u.any k I.free (by simp)
 exact I.step (g':=s.gens) (d':=s.drawn) (ch:=[]) (λ_ z=>nomatch z) (λb o _ hb _ e n=>u.keep b o e n hb (by simp)) (λb o _ hb _ e n=>u.slot b o e n hb (by simp)) (λb o _ e n=>u.free b o e n (by simp)) (λb o _ e=>u.there b o e (by simp)) u.tups u.frzs u.tbls (λC l=>by
  obtain⟨O,j,d,c,v⟩:=l;rw[k] at c;cases c;exact⟨_,j,d,q,v⟩) hok I.bare
def Inv.call{g':Array GenState}{t':Nat}{d':Drawn}{ch:List Addr}(I:Inv X pins σ H s)(u:Un (frs X.stack) ch H H' s.heap h')(hok:HOk X.prog X.w H' h')(C:AllBare g')
  (j:∀b ∈ ch,(b ∈ X.ex\/X.s₀.heap.objs.size<=b)/\b ≠ X.env.locals/\(∀x c,X.env.cells.lookup x=aw c->c ≠ b)/\∀p ∈ X.pn++pins,p.1 ≠ b) :
  Inv X pins σ H' { s with heap:=h',gens:=g',drawn:=d',toks:=t' }:=by
 obtain⟨m,⟨o,L,O,y,r⟩,_⟩:=id I.loc;obtain⟨sl,v⟩:=u.any y I.free λz=>(j _ z).2.1 rfl
 exact I.step (ch:=ch) j (λb o v hb d e n=>u.keep b o e n (λz=>(Zn.mp (I.stkSub b z)).elim v hb) d) (λb o _ _ d e n=>u.any e n d) (λb o d e n=>u.free b o e n d) (λb o d e=>u.there b o e d) u.tups u.frzs u.tbls (λT B=>by
  obtain⟨Q,q,l,k,J⟩:=B;rw[y] at k;cases k;exact⟨_,q,l,v,J⟩) hok C
def Inv.turned{t':Nat}{it:Addr}(I:Inv X pins σ H s)(k:∀b o,b ≠ it->s.heap.get? b=aw o->h'.get? b=aw o)(L:H it=aD)(l:it ≠ X.env.locals)
  (T:it ∈ X.ex\/X.s₀.heap.objs.size<=it) (C:∀x c,X.env.cells.lookup x=aw c->c ≠ it) (O:∀p ∈ X.pn++pins,p.1 ≠ it):Inv X pins σ H { s with heap:=h',toks:=t' }:=by
 have j:∀b u,H b=aw u->b ≠ it:=λb u e z=>by rw[z,L] at e;cases e
 refine I.step (g':=s.gens) (d':=s.drawn) (ch:=[it]) (λb hb=>?_) (λb o _ _ d e _=>k b o (λz=>d (by simp[z])) e) (λb o _ _ d e _=>⟨o.slots,k b o (λz=>d (by simp[z])) e⟩) (λ_ _ _ _ n=>n)
  (λb o d e=>⟨o,k b o (λz=>d (by simp[z])) e⟩) (λ_ _ e=>e) (λ_ _ _ e=>e) (λb ps e=>⟨#[],by rw[e];simp⟩) (λm y=>?_) (λb u e=>?_) I.bare
 ·have e:b=it:=by simpa using hb
  subst e;exact⟨T,l,C,O⟩
 ·obtain⟨o,B,J,Q,r⟩:=y;exact⟨o,B,J,k _ o (Ne.symm l) Q,r⟩
 ·refine(I.hok b u e).stay (λc v d q=>k c v ?_ q) (λ_ q=>q) λ_ _ q=>q;rcases d with z |z
  ·rw[z];exact j b u e
  ·exact j c _ z
def Inv.tok(I:Inv X pins σ H s)(t:Nat):Inv X pins σ H { s with toks:=t }:=I.un (h':=s.heap) (t':=t) Un.refl I.hok
def Inv.kept{t':Nat}(I:Inv X pins σ H s)(k:∀b u,s.heap.get? b=aw u->h'.get? b=aw u):Inv X pins σ H { s with heap:=h',toks:=t' }:=I.un (Un.kept k) (I.hok.kept k)
def Inv.laid{a:Addr}{o:HO}{t':Nat}(I:Inv X pins σ H s)(k:∀b u,s.heap.get? b=aw u->h'.get? b=aw u)(c:s.heap.objs.size<=a)(new:a9 X.prog X.w (upd H a o) h' a o) :
  Inv X pins σ (upd H a o) { s with heap:=h',toks:=t' }:=I.un (Un.laid k c (I.hok.fresh c)) (I.hok.laid k c new)
def Inv.write{t':Nat}(I:Inv X pins σ H s)(d:Mut (H x))(j:e=x\/H e=aw (.own x))(k:∀b u,b ≠ e->s.heap.get? b=aw u->h'.get? b=aw u)(c:∃u,h'.get? e=aw u)
  (new:a9 X.prog X.w (upd H x o) h' x o):Inv X pins σ (upd H x o) { s with heap:=h',toks:=t' }:=I.un (Un.write d j k c) (I.hok.write d j k c new)
def Inv.pins_of(I:Inv X pins σ H s)(h:∀p ∈ b,s.heap.get? p.1=aw p.2/\H p.1=aD/\p.1 ≠ X.env.locals/\p.1 ∉ X.fs/\∀v,p.2.data ≠ .cell v):Inv X b σ H s:=
 ⟨I.ok,I.os,I.bare,I.base,I.loc,I.cell,I.free,I.freeC,λp c=>(ZP.mp c).elim (λz=>I.pin p (ZV _ z)) (h p),I.hok,I.len⟩
def rK{N:List Str}(hN:N.Nodup){i j:Nat}{x:Str}(a:N[i]?=aw x)(b:N[j]?=aw x):i=j:=by
 obtain⟨k,c⟩:=Zb.mp a;obtain⟨l,d⟩:=Zb.mp b;exact(YO hN).mp (c.trans d.symm)
def nP{M:Model}{A:Around}{E:Value->Shared->Prop}{i:Nat}{x:Str}{v:V}{u:Value}{Q:Unit->Shared->Prop}(I:Inv X pins σ H s)(hN:X.N.Nodup)(hi:X.N[i]?=aw x)(B:Loc X.env.scope x)(r:aB v u)
  (h:∀s',Inv X pins (σ.set i (aw v)) H s'->(∃a,Heap.SameBut a s.heap s'.heap/\(a=X.env.locals\/X.env.cells.lookup x=aw a))->Q () s') (hf:X.fn x=aN\/X.env.scope.names.lookup x=aw .local:=by first |exact .inl rfl |exact .inr rfl |assumption):wpAny M A (storeName X.env x u) Q E s:=by
 obtain⟨m,hn,hl⟩:=id I.loc;have Y:(X.env.scope.kind == .class || (X.env.scope.kind == .module && X.env.locals != X.env.globals))=aS:=by rw[I.ok.kind];rfl
 have L:i < σ.length:=by rw[I.len];exact(Zb.mp hi).1
 have cne:=I.cne
 have T:∀ {a:Addr} {h':Heap},(∃o,s.heap.get? a=aw o/\H a=aD)->Heap.SameBut a s.heap h'->HOk X.prog X.w H h':=λ{a h'} ha hs b ob e=>by
  obtain⟨_,_,C⟩:=ha;refine(I.hok b ob e).stay (λc w' hc q=>(hs.2 c ?_).trans q) (λ_ q=>q) λ_ _ q=>q;rintro rfl;rcases hc with rfl |hc
  ·rw[C] at e;cases e
  ·rw[C] at hc;cases hc
 rcases B with hk |hk
 ·refine wpAny_storeName_local hk hn (λh' hn' hs=>?_) Y;obtain⟨oL,_,_,hoL,_⟩:=id hn;refine h _ ⟨I.ok,I.os,I.bare,⟨λb o e n hb B=>?_,λb o e n hb B=>?_,I.base.free,λb o e B=>?_,I.base.tups,I.base.frzs,I.base.tbls⟩,⟨_,hn',λj y v' l J e3=>?_⟩,λy c e=>?_,I.free,I.freeC,λp hp=>?_,T ⟨oL,hoL,I.free⟩ hs,by simpa using I.len⟩ ⟨_,hs,.inl rfl⟩
  ·exact(hs.2 b (ZH (ZC (Zs e) I.ok.above))).trans (I.base.keep b o e n hb B)
  ·obtain⟨sl,l⟩:=I.base.slot b o e n hb B;exact⟨sl,(hs.2 b (ZH (ZC (Zs e) I.ok.above))).trans l⟩
  ·obtain⟨o',l⟩:=I.base.there b o e B;exact⟨o',(hs.2 b (ZH (ZC (Zs e) I.ok.above))).trans l⟩
  ·by_cases U:j=i
   ·subst U;rw[hi] at l;cases l;rw[ZU L] at J;cases J;exact⟨u,r,.inl ⟨hk,by simp⟩⟩
   ·rw[Zx (Ne.symm U)] at J;obtain⟨u',r',q⟩:=hl j y v' l J e3;refine⟨u',r',?_⟩;rcases q with ⟨k,e⟩ |⟨k,c,e,z⟩
    ·refine .inl ⟨k,?_⟩;have:y ≠ x:=λe=>U (rK hN l (e ▸ hi));simp[this,e]
    ·exact .inr ⟨k,c,e,z.sameBut hs (cne y c e)⟩
  ·obtain⟨w',z⟩:=I.cell y c e;exact⟨w',z.sameBut hs (cne y c e)⟩
  ·obtain⟨e,n,ne,nf,d⟩:=I.pin p hp;exact⟨(hs.2 p.1 ne).trans e,n,ne,nf,d⟩
 ·have O:X.fn x=aN:=by
   rcases hf with z |z
   ·exact z
   ·rw[z] at hk;cases hk
  obtain⟨c,hc⟩:=I.ok.has x (.inl hk);obtain⟨w',z⟩:=I.cell x c hc;refine wpAny_storeName_cell I.ok.kind hk hc z (λh' Z hs=>?_);obtain⟨oc,hoc,hocd⟩:=id z;refine h { s with heap:=h' } ⟨I.ok,I.os,I.bare,⟨λb o e n hb B=>?_,λb o e n hb B=>?_,I.base.free,λb o e B=>?_,I.base.tups,I.base.frzs,I.base.tbls⟩,⟨m,hn.sameBut hs (Ne.symm (cne x c hc)),λj y v' l J e3=>?_⟩,λy c' e=>?_,I.free,I.freeC,λp hp=>?_,T ⟨oc,hoc,I.freeC x c hc⟩ hs,by simpa using I.len⟩ ⟨c,hs,.inr hc⟩
  ·exact(hs.2 b (ZH (ZC (Zs e) (I.ok.cab x c O hc)))).trans (I.base.keep b o e n hb B)
  ·obtain⟨sl,l⟩:=I.base.slot b o e n hb B;exact⟨sl,(hs.2 b (ZH (ZC (Zs e) (I.ok.cab x c O hc)))).trans l⟩
  ·obtain⟨o',l⟩:=I.base.there b o e B;exact⟨o',(hs.2 b (ZH (ZC (Zs e) (I.ok.cab x c O hc)))).trans l⟩
  ·by_cases U:j=i
   ·subst U;rw[hi] at l;cases l;rw[ZU L] at J;cases J;exact⟨u,r,.inr ⟨.inl hk,c,hc,Z⟩⟩
   ·rw[Zx (Ne.symm U)] at J;obtain⟨u',r',q⟩:=hl j y v' l J e3;refine⟨u',r',?_⟩;rcases q with q |⟨k,c',e,z'⟩
    ·exact .inl q
    ·refine .inr ⟨k,c',e,z'.sameBut hs ?_⟩;rintro rfl;exact U (rK hN l (I.ok.inj _ _ _ e hc ▸ hi))
  ·by_cases hcc:c'=c
   ·subst hcc;exact⟨_,Z⟩
   ·obtain⟨w2,z2⟩:=I.cell y c' e;exact⟨w2,z2.sameBut hs hcc⟩
  ·obtain⟨e,n,ne,nf,d⟩:=I.pin p hp;refine⟨(hs.2 p.1 ?_).trans e,n,ne,nf,d⟩;intro q;rw[q,hoc] at e;have q':oc=p.2:=Option.some.inj e;exact d w' (by rw[<-q'];exact hocd)
def iz{i:Nat}(I:Inv X pins σ H s)(hN:X.N.Nodup)(hi:X.N[i]?=aw x)(c:Loc X.env.scope x)(r:aB v u)
  (h:∀b,Inv X pins (σ.set i (aw v)) H b->Q () b) (j:X.fn x=aN\/X.env.scope.names.lookup x=aw .local:=by first |exact .inl rfl |exact .inr rfl |assumption):wpAny M A (storeName X.env x u) Q E s:=
 nP I hN hi c r (λb d _=>h b d) j
def Inv.call'(I:Inv X pins σ H s)(l:s'.os=s.os)(u:Un (frs X.stack) ch H H' s.heap s'.heap)(hok:HOk X.prog X.w H' s'.heap)(k:AllBare s'.gens)
  (d:∀b ∈ ch,(b ∈ X.ex\/X.s₀.heap.objs.size<=b)/\b ≠ X.env.locals/\(∀x c,X.env.cells.lookup x=aw c->c ≠ b)/\∀p ∈ X.pn++pins,p.1 ≠ b):Inv X pins σ H' s':=by
 obtain⟨h',q,j,T,O⟩:=s';have e:O=s.os:=l;subst e;exact I.call (g':=q) (t':=T) (d':=j) u hok k d
end
@[inline]abbrev XK:=Value->Option Addr->Hp->Prop
@[inline]abbrev St:=List (Option V)
@[inline]abbrev VK:=V->Hp->Prop
@[inline]abbrev TE:=St->Hp->VK->Prop
@[inline]abbrev TT:=St->Hp->(Bool->Hp->Prop)->Prop
@[inline]abbrev TA:=St->Hp->(List V->Hp->Prop)->Prop
structure Ends where
 nx:St->Hp->Prop
 rt:VK
 bk:St->Hp->Prop:=λ_ _=>False
 ct:St->Hp->Prop:=λ_ _=>False
@[inline]abbrev TS:=Ends->St->Hp->Prop
abbrev EP(X:Cx)(b:List (Addr × Obj))(j:St)(Q:VK)(u:Value)(d:Shared):Prop:=∃v c,Inv X b j c d/\aB v u/\Q v c
abbrev TP(X:Cx)(c:List (Addr × Obj))(k:St)(Q:Bool->Hp->Prop)(b:Bool)(j:Shared):Prop:=∃d,Inv X c k d j/\Q b d
abbrev AP(X:Cx)(b:List (Addr × Obj))(j:St)(Q:List V->Hp->Prop)(u:List Value)(d:Shared):Prop:=∃v c,Inv X b j c d/\aM v u/\Q v c
abbrev SP(X:Cx)(c:List (Addr × Obj))(D:Ends)(f:Flow)(j:Shared):Prop:=
 match f with
 |.next=>∃b d,Inv X c b d j/\D.nx b d
 |.brk=>∃b d,Inv X c b d j/\D.bk b d
 |.cont=>∃b d,Inv X c b d j/\D.ct b d
 |.ret u=>∃v b d,Inv X c b d j/\aB v u/\D.rt v d
abbrev PE(X:Cx)(e:Expr)(t:TE):Prop:=
 ∀ (b:List (Addr × Obj)) (s:Shared) (c:St) (H:Hp) (Q:VK),Inv X b c H s->t c H Q->wpAny (model X.prog X.w) X.A (eval e X.env) (EP X b c Q) X.xe s
abbrev PT(X:Cx)(e:Expr)(t:TT):Prop:=
 ∀ (b:List (Addr × Obj)) (s:Shared) (c:St) (H:Hp) (Q:Bool->Hp->Prop),Inv X b c H s->t c H Q->wpAny (model X.prog X.w) X.A (isTrue e X.env (eval e X.env)) (TP X b c Q) X.xe s
abbrev PW(X:Cx)(e:Expr)(t:TT):Prop:=
 ∀ (c:Sem Value) (b:List (Addr × Obj)) (s:Shared) (d:St) (H:Hp) (Q:Bool->Hp->Prop),Inv X b d H s->t d H Q->wpAny (model X.prog X.w) X.A (isTrue e X.env c) (TP X b d Q) X.xe s
def PW.pt(h:PW X e t):PT X e t:=h _
abbrev PA(X:Cx)(j:List Expr)(t:TA):Prop:=
 ∀ (c:Pos) (b:List (Addr × Obj)) (s:Shared) (d:St) (H:Hp) (Q:List V->Hp->Prop),Inv X b d H s->t d H Q->wpAny (model X.prog X.w) X.A (spliced (backTo c (Uv j X.env))) (AP X b d Q) X.xe s
abbrev PS(X:Cx)(st:Stmt)(t:TS):Prop:=
 ∀ (b:List (Addr × Obj)) (s:Shared) (c:St) (H:Hp) (D:Ends),Inv X b c H s->t D c H->wpAny (model X.prog X.w) X.A (exec st X.env) (SP X b D) X.xe s
abbrev PSs(X:Cx)(st:List Stmt)(t:TS):Prop:=
 ∀ (b:List (Addr × Obj)) (s:Shared) (c:St) (H:Hp) (D:Ends),Inv X b c H s->t D c H->wpAny (model X.prog X.w) X.A (execs st X.env) (SP X b D) X.xe s
def thn{b:Type}{t:Sem b}{Q q:b->Shared->Prop}{M:Model}{A:Around}{E:Value->Shared->Prop}{s:Shared}(h:wpAny M A t Q E s)(c:∀a s,Q a s->q a s):wpAny M A t q E s:=UM h c λ_ _ x=>x
section
variable {X:Cx}
abbrev yC(i:Nat):TE:=λb H Q=>∃v,b[i]?=aw (aw v)/\Q v H
abbrev tC(v:V):TE:=λ_ H Q=>Q v H
def uE{i:Nat}(hN:X.N[i]?=aw x)(L:Vis X.env.scope x)(hd:(x == ("__debug__" : Str))=aS:=by decide)(k:(x == ("__classdict__" : Str))=aS:=by decide):PE X (.Name x z) (yC i):=by
 intro j s J H Q I h;obtain⟨v,e,h⟩:=h;obtain⟨m,C,B⟩:=I.loc;obtain⟨u,r,l⟩:=B i x v hN e L;have d:EP X j J Q u s:=⟨v,H,I,r,h⟩;rcases l with ⟨hk,y⟩ |⟨hk,c,q,b⟩
 ·exact wpAny_Name (wpAny_loadName_local I.ok.kind hk C y d) hd
 ·rcases hk with hk |hk
  ·exact wpAny_Name (wpAny_loadName_cell I.ok.kind hk q b d) hd
  ·exact wpAny_Name (wpAny_loadName_free I.ok.kind hk q b d k) hd
def uF{i j b}:PE X (.Constant (.int i) j b) (tC (.int i)):=λ_ _ _ H _ I h=>wpAny_Constant_int ⟨.int i,H,I.tok _,⟨_,rfl⟩,h⟩
def O1{b j c}:PE X (.Constant (.bool b) j c) (tC (.bl b)):=λ_ _ _ H _ I h=>Constant_bool ⟨.bl b,H,I,rfl,h⟩
def Ao{j pos}:PE X (.Constant .none j pos) (tC .non):=λ_ _ _ H _ I h=>Constant_none ⟨.non,H,I,rfl,h⟩
def J3{x j b}:PE X (.Constant (.str x) j b) (tC (.str x)):=λ_ _ _ H _ I h=>Calls.Constant_str ⟨.str x,H,I.tok _,⟨_,rfl⟩,h⟩
abbrev Gl(X:Cx)(x:Str):Prop:=X.env.kindOf x=aw .globalImplicit
def wU(I:Inv X b k H s)(c:Gl X x)(d:X.mg x=aw u)(h:Q u s)
  (hd:(x == ("__debug__" : Str))=aS:=by decide):wpAny (model X.prog X.w) X.A (eval (.Name x j) X.env) Q E s:=
 WQ I.ok.kind c (Calls.loadGlobal_global (by rw[I.ok.glob];exact I.mod.glob.keeps I.bk) d h) hd
def eP(I:Inv X b z H s)(c:Gl X x)(d:X.mg x=aD)(l:VR x=aw u)(h:Q u s)
  (k:x ≠ "__name__" := by decide) (hd:(x == ("__debug__" : Str))=aS:=by decide):wpAny (model X.prog X.w) X.A (eval (.Name x j) X.env) Q E s:=by
 obtain⟨y,q,v⟩:=I.mod.blt;exact WQ I.ok.kind c (Calls.loadGlobal_builtin (by rw[I.ok.glob];exact I.mod.glob.keeps I.bk) d (by rw[I.ok.blt];exact q.keeps I.bk) ((v x k).trans l) h) hd
def Et(b:Gl X x)(c:X.mg x=aw u)(r:aB v u)(hd:(x == ("__debug__" : Str))=aS:=by decide):PE X (.Name x d) (tC v):=
 λ_ _ _ H _ I h=>wU I b c ⟨v,H,I,r,h⟩ hd
def iA(b:Gl X x)(c:X.mg x=aD)(k:VR x=aw u)(r:aB v u)(j:x ≠ "__name__" := by decide)(hd:(x == ("__debug__" : Str))=aS:=by decide):PE X (.Name x d) (tC v):=
 λ_ _ _ H _ I h=>eP I b c k ⟨v,H,I,r,h⟩ j hd
variable {a b:Expr} {ta tb:TE} {pos:Pos}
variable {tA tB':TT} {rest:List Expr}
abbrev O2(t u:TT):TT:=λj H Q=>t j H λc d=>if c=aN then u j d Q else Q aS d
abbrev tOr(t u:TT):TT:=λj H Q=>t j H λc d=>if c=aN then Q aN d else u j d Q
abbrev O3(t:TT):TT:=λj H Q=>t j H λc d=>Q (!c) d
def Eu(j:PT X a tA):PW X (.BoolOp .And [a] pos) tA:=by
 intro q d s k H Q I h;refine isTrue_and (thn (j d s k H Q I h) λc l e=>?_);cases c with
 |true=>exact isTrue_and_nil e
 |false=>exact e
def J4(j:PT X a tA):PW X (.BoolOp .Or [a] pos) tA:=by
 intro q d s k H Q I h;refine isTrue_or (thn (j d s k H Q I h) λc l e=>?_);cases c with
 |false=>exact isTrue_or_nil e
 |true=>exact e
def Ap(u:PT X a tA)(hb:PW X (.BoolOp .And (b::rest) pos) tB'):PW X (.BoolOp .And (a::b::rest) pos) (O2 tA tB'):=by
 intro y d s l H Q I h;refine isTrue_and (thn (u d s l H _ I h) λc v ⟨j,k,q⟩=>?_);cases c with
 |true=>exact hb y d v l j Q k q
 |false=>exact⟨j,k,q⟩
def IH(u:PT X a tA)(hb:PW X (.BoolOp .Or (b::rest) pos) tB'):PW X (.BoolOp .Or (a::b::rest) pos) (tOr tA tB'):=by
 intro y d s l H Q I h;refine isTrue_or (thn (u d s l H _ I h) λc v ⟨j,k,q⟩=>?_);cases c with
 |true=>exact⟨j,k,q⟩
 |false=>exact hb y d v l j Q k q
def J5(k:PT X a tA):PT X (.UnaryOp .Not a pos) (O3 tA):=by
 intro d s l H Q I h;exact isTrue_not (k d s l H (λc j=>Q (!c) j) I h)
abbrev II(ta tb:TE):TE:=λj H Q=>ta j H λx d=>∃c,x = .bl c/\if c=aN then tb j d Q else Q (.bl aS) d
abbrev O4(ta tb:TE):TE:=λj H Q=>ta j H λx d=>∃c,x = .bl c/\if c=aN then Q (.bl aN) d else tb j d Q
abbrev IJ(ta:TE):TE:=λj H Q=>ta j H λx d=>∃c,x = .bl c/\Q (.bl (!c)) d
def Aq{op}(h:PE X a t):PE X (.BoolOp op [a] pos) t:=λc s j H Q I d=>BoolOp_one (h c s j H Q I d)
def Ar(u:PE X a ta)(hb:PE X (.BoolOp .And (b::rest) pos) tb):PE X (.BoolOp .And (a::b::rest) pos) (II ta tb):=by
 intro d s l H Q I h;refine BoolOp_and (thn (u d s l H _ I h) λv y ⟨x,j,k,r1,q⟩=>?_);obtain⟨c,rfl,q⟩:=q;cases r1;refine U2 ?_;cases c with
 |true=>exact hb d y l j Q k q
 |false=>exact⟨.bl aS,j,k,rfl,q⟩
def IK(u:PE X a ta)(hb:PE X (.BoolOp .Or (b::rest) pos) tb):PE X (.BoolOp .Or (a::b::rest) pos) (O4 ta tb):=by
 intro d s l H Q I h;refine BoolOp_or (thn (u d s l H _ I h) λv y ⟨x,j,k,r1,q⟩=>?_);obtain⟨c,rfl,q⟩:=q;cases r1;refine U2 ?_;cases c with
 |false=>exact hb d y l j Q k q
 |true=>exact⟨.bl aN,j,k,rfl,q⟩
def J6(l:PE X a ta):PE X (.UnaryOp .Not a pos) (IJ ta):=by
 intro d s u H Q I h;refine UnaryOp_ (thn (l d s u H _ I h) λv y ⟨x,j,k,r1,q⟩=>?_);obtain⟨c,rfl,q⟩:=q;cases r1;exact not_of (U2 ⟨.bl (!c),j,k,rfl,q⟩)
abbrev tIf(t:TT)(ta tb:TE):TE:=λd H Q=>t d H λc j=>if c=aN then ta d j Q else tb d j Q
def As{c:Expr}(hc:PT X c tA)(y:PE X a ta)(hb:PE X b tb):PE X (.IfExp c a b pos) (tIf tA ta tb):=by
 intro j s k H Q I h;refine wpAny_IfExp (thn (hc j s k H _ I h) λd u ⟨l,q,v⟩=>?_);cases d with
 |true=>exact y j u k l Q q v
 |false=>exact hb j u k l Q q v
end
abbrev SqL(K:Vp)(H:Hp)(a:Addr)(xs:List V):Prop:=
 Rd H a (.lst xs) ∨
  ∃ (o:Obj) (I:Array Value) (n:Nat),K.lookup a=aw o/\o.cls = .type "list"/\o.dict=aD/\o.data = .seq I n/\I.size<=sizeLine/\aM xs I.toList
abbrev SqT(K:Vp)(H:Hp)(a:Addr)(xs:List V):Prop:=
 Rd H a (.tup xs) ∨
  ∃ (o:Obj) (I:Array Value) (n:Nat),K.lookup a=aw o/\o.cls = .type "tuple"/\o.data = .seq I n/\I.size<=sizeLine/\aM xs I.toList
abbrev Sg:Value->Option V
 |.none=>aw .non
 |.bool b=>aw (.bl b)
 |.int i _=>aw (.int i)
 |.str x _=>aw (.str x)
 |.bytes b _=>aw (.byt b)
 |.float b _=>aw (.flt b)
 |.ref a=>aw (.ref a)
 |.type n=>aw (.ty n)
 |_=>aD
def aB.abs(r:aB x u):Sg u=aw x:=by
 cases x with
 |non=>cases r;rfl
 |bl _=>cases r;rfl
 |int _=>obtain⟨t,rfl⟩:=r;rfl
 |str _=>obtain⟨t,rfl⟩:=r;rfl
 |byt _=>obtain⟨t,rfl⟩:=r;rfl
 |flt _=>obtain⟨t,rfl⟩:=r;rfl
 |ref _=>cases r;rfl
 |ty _=>cases r;rfl
def aB.inj{x y:V}{u:Value}(r:aB x u)(q:aB y u):x=y:=Option.some.inj (r.abs.symm.trans q.abs)
def aM.inj:∀ {xs y:List V} {u:List Value},aM xs u->aM y u->xs=y
 |_,_,_,.nil,.nil=>rfl
 |_,_,_,.cons r t,.cons r' t'=>by rw[r.inj r',aM.inj t t']
section
variable {X:Cx} {pins:List (Addr × Obj)} {σ:St} {H:Hp} {s:Shared} {a:Addr} {xs ys:List V}
def SqL.of{K:Vp}(h:H a=aw (.lst xs)):SqL K H a xs:=.inl (.inl h)
def SqT.of{K:Vp}(h:H a=aw (.tup xs)):SqT K H a xs:=.inl (.inl h)
def Inv.list(I:Inv X pins σ H s)(h:SqL X.K H a xs):∃its:List Value,aM xs its/\PlainL s.heap a its.toArray/\xs.length<=sizeLine:=by
 rcases h with h |⟨o,its,n,hk,hc,hd,hs,hz,r⟩
 ·obtain⟨z,its,n,r,e⟩:=h.ok I.hok;exact⟨its,r,⟨_,n,e,rfl,rfl,rfl⟩,z⟩
 ·refine⟨its.toList,r,⟨o,n,I.kIn a o hk,hc,hd,by simpa using hs⟩,?_⟩;have e:=r.length;simp only[Zt] at e
  lia
def Inv.tuple(I:Inv X pins σ H s)(h:SqT X.K H a xs):∃its:List Value,aM xs its/\IsTup s.heap a its.toArray/\xs.length<=sizeLine:=by
 rcases h with h |⟨o,its,n,hk,hc,hs,hz,r⟩
 ·obtain⟨z,its,r,p⟩:=h.ok I.hok;exact⟨its,r,p.isTup,z⟩
 ·refine⟨its.toList,r,⟨o,I.kIn a o hk,hc,n,by simpa using hs⟩,?_⟩;have e:=r.length;simp only[Zt] at e
  lia
def Inv.list_inj(I:Inv X pins σ H s)(h:SqL X.K H a xs)(h':SqL X.K H a ys):xs=ys:=by
 obtain⟨b,r,⟨o,n,e,_,_,d⟩,_⟩:=I.list h;obtain⟨its',k,⟨O,l,c,_,_,j⟩,_⟩:=I.list h';rw[e] at c;cases c;rw[d] at j;injection j with d1 _;have:b=its':=by simpa using congrArg Array.toList d1
 subst this;exact r.inj k
def Inv.tuple_inj(I:Inv X pins σ H s)(h:SqT X.K H a xs)(h':SqT X.K H a ys):xs=ys:=by
 obtain⟨b,r,⟨o,e,_,n,d⟩,_⟩:=I.tuple h;obtain⟨its',k,⟨O,c,_,l,j⟩,_⟩:=I.tuple h';rw[e] at c;cases c;rw[d] at j;injection j with d1 _;have:b=its':=by simpa using congrArg Array.toList d1
 subst this;exact r.inj k
end
noncomputable abbrev Cx.wish(X:Cx)(E:Value->Shared->Prop):Cx:={ X with xe:=E }
noncomputable abbrev Cx.nox(X:Cx):Cx:=X.wish λ_ _=>False
def Cx.Ok.wish{X:Cx}(ok:X.Ok)(E:Value->Shared->Prop):(X.wish E).Ok:=
 ⟨ok.mod,ok.kind,ok.glob,ok.blt,ok.above,ok.inj,ok.has,ok.cab,ok.hd,ok.frames,ok.stk,ok.exf,ok.bs,ok.bsz,ok.noex,ok.exfs,ok.funs,ok.frf⟩
def Cx.Ok.unwish{X:Cx}{E:Value->Shared->Prop}(ok:(X.wish E).Ok):X.Ok:=
 ⟨ok.mod,ok.kind,ok.glob,ok.blt,ok.above,ok.inj,ok.has,ok.cab,ok.hd,ok.frames,ok.stk,ok.exf,ok.bs,ok.bsz,ok.noex,ok.exfs,ok.funs,ok.frf⟩
section
variable {X:Cx} {pins:List (Addr × Obj)} {σ:St} {H:Hp} {s:Shared} {E:Value->Shared->Prop}
def Inv.wish(I:Inv X pins σ H s)(E:Value->Shared->Prop):Inv (X.wish E) pins σ H s:=⟨I.ok.wish E,I.os,I.bare,I.base,I.loc,I.cell,I.free,I.freeC,I.pin,I.hok,I.len⟩
def Inv.unwish(I:Inv (X.wish E) pins σ H s):Inv X pins σ H s:=⟨I.ok.unwish,I.os,I.bare,I.base,I.loc,I.cell,I.free,I.freeC,I.pin,I.hok,I.len⟩
def SP.unwish{D:Ends}{f:Flow}{s':Shared}(h:SP (X.wish E) pins D f s'):SP X pins D f s':=by
 cases f with
 |next=>obtain⟨b,c,I,q⟩:=h;exact⟨b,c,I.unwish,q⟩
 |brk=>obtain⟨b,c,I,q⟩:=h;exact⟨b,c,I.unwish,q⟩
 |cont=>obtain⟨b,c,I,q⟩:=h;exact⟨b,c,I.unwish,q⟩
 |ret u=>obtain⟨v,b,c,I,r,q⟩:=h;exact⟨v,b,c,I.unwish,r,q⟩
def PSs.nox{st:List Stmt}{t:TS}(h:PSs X.nox st t):PSs X st t:=λpins s σ H D I b=>
 UM (h pins s σ H D (I.wish _) b) (λ_ _ q=>q.unwish) λ_ _ z=>False.elim z
end
section
variable {X:Cx} {st:Stmt} {rest:List Stmt} {t u:TS} {e:Expr} {te:TE} {pos:Pos}
abbrev IL:TS:=λD b H=>D.nx b H
abbrev O5(t u:TS):TS:=λD b H=>t { D with nx:=u D } b H
def Ew:PSs X [] IL:=λ_ _ b H _ I h=>UF ⟨b,H,I,h⟩
def Au(y:PS X st t)(z:PSs X rest u):PSs X (st::rest) (O5 t u):=by
 intro b s k H D I h;refine wpAny_execs_cons (thn (y b s k H { D with nx:=u D } I h) λf d q=>?_);cases f with
 |next=>
  obtain⟨c,j,l,q⟩:=q;exact z b d c j D l q
 |ret v=>exact q
 |brk=>exact q
 |cont=>exact q
def Ex(d:PS X st t):PSs X [st] t:=by
 intro b s c H D I h;refine wpAny_execs_cons (thn (d b s c H D I h) λf j q=>?_);cases f with
 |next=>exact UF q
 |ret v=>exact q
 |brk=>exact q
 |cont=>exact q
abbrev IM:TS:=λD b H=>D.ct b H
def rL:PS X (.Continue pos) IM:=λ_ _ b H _ I h=>wpAny_Continue ⟨b,H,I,h⟩
def Inv.quiet{b:List (Addr × Obj)}{c:St}{H:Hp}{s:Shared}(I:Inv X b c H s):interactive X.env=aS:=by simp[interactive,I.ok.kind]
abbrev IP(te:TE):TS:=λD b H=>te b H λ_ c=>D.nx b c
def Ey(k:PE X e te)(hs:Ux e aD pos.line X.env=pure aS:=by rfl):PS X (.Expr e pos) (IP te):=by
 intro b s c H D I h;exact wpAny_Expr_any (thn (k b s c H _ I h) λv l ⟨x,d,j,r1,q⟩=>⟨c,d,j,q⟩) I.quiet hs
abbrev J7(te:TE):TS:=λD b H=>te b H D.rt
def Av(k:PE X e te):PS X (.Return (aw e) pos) (J7 te):=by
 intro b s c H D I h;exact wpAny_Return_some (thn (k b s c H _ I h) λv l ⟨x,d,j,r1,q⟩=>⟨x,c,d,j,r1,q⟩)
abbrev O6(c:TT)(t u:TS):TS:=λD d H=>c d H λb j=>if b=aN then t D d j else u D d j
def O7{c:Expr}{a b:List Stmt}{T:TT}(hc:PT X c T)(y:PSs X a t)(hb:PSs X b u):PS X (.If c a b pos) (O6 T t u):=by
 intro j s k H D I h;refine wpAny_If (thn (hc j s k H _ I h) λd v ⟨l,q,Q⟩=>?_);cases d with
 |true=>exact y j v k l D q Q
 |false=>exact hb j v k l D q Q
abbrev J8:TS:=λ_ _ _=>False
def Aw:PS X st J8:=λ_ _ _ _ _ _ h=>h.elim
end
@[inline]abbrev TG:=V->St->Hp->(St->Hp->Prop)->Prop
@[inline]abbrev TGs:=List V->St->Hp->(St->Hp->Prop)->Prop
abbrev PG(X:Cx)(T:Expr)(t:TG):Prop:=
 ∀ (b:List (Addr × Obj)) (s:Shared) (j:St) (H:Hp) (v:V) (u:Value) (Q:St->Hp->Prop),Inv X b j H s->aB v u->t v j H Q ->
  wpAny (model X.prog X.w) X.A (assign T X.env u) (λ_ k=>∃c d,Inv X b c d k/\Q c d) X.xe s
abbrev PGs(X:Cx)(T:List Expr)(t:TGs):Prop:=
 ∀ (b:List (Addr × Obj)) (s:Shared) (j:St) (H:Hp) (v:List V) (u:List Value) (Q:St->Hp->Prop),Inv X b j H s->aM v u->t v j H Q ->
  wpAny (model X.prog X.w) X.A (VL ((VJ T X.env).map (·.2)) u) (λ_ k=>∃c d,Inv X b c d k/\Q c d) X.xe s
@[inline]abbrev Ez:=V->V->V->Hp->(Hp->Prop)->Prop
abbrev J9(X:Cx)(t:Ez):Prop:=
 ∀ (b:List (Addr × Obj)) (s:Shared) (d:St) (H:Hp) (o i v:V) (O I u:Value) (Q:Hp->Prop),Inv X b d H s->aB o O->aB i I->aB v u->t o i v H Q ->
  wpAny (model X.prog X.w) X.A (setItem O I u) (λ_ j=>∃c,Inv X b d c j/\Q c) X.xe s
section
variable {X:Cx} {pos:Pos}
abbrev rO(i:Nat):TG:=λv b H Q=>Q (b.set i (aw v)) H
def EA{i:Nat}(hN:X.N.Nodup)(hi:X.N[i]?=aw x)(c:Loc X.env.scope x)(j:X.fn x=aN\/X.env.scope.names.lookup x=aw .local:=by first |exact .inl rfl |exact .inr rfl |assumption):PG X (.Name x pos) (rO i):=by
 intro b s l H v u Q I r h;exact wpAny_assign_Name (iz I hN hi c r (λk d=>⟨_,H,d,h⟩) j)
abbrev O8:TGs:=λv b H Q=>v=[]/\Q b H
abbrev IQ(t:TG)(u:TGs):TGs:=λj d H Q=>∃v r,j=v::r/\t v d H λb c=>u r b c Q
def EB:PGs X [] O8:=by
 intro b s c H v u Q I r h;obtain⟨e,h⟩:=h;subst e;cases r;exact assignInOrder_nil ⟨c,H,I,h⟩
def Ax{e:Expr}{c:List Expr}{t:TG}{u:TGs}(z:PG X e t)(J:PGs X c u)
  (hs:(VJ (e::c) X.env).map (·.2)=assign e X.env::(VJ c X.env).map (·.2):=by rfl):PGs X (e::c) (IQ t u):=by
 intro b s q H L U Q I r h;obtain⟨v,O,k,h⟩:=h;subst k;cases r with
 |cons r C=>
  rw[hs];refine assignInOrder_cons (thn (z b s q H _ _ _ I r h) λ_ l ⟨d,j,B,y⟩=>?_);exact J b l d j _ _ Q B C y
abbrev O9(K:Vp)(n:Nat)(t:TGs):TG:=λv c H Q=>∃a b,v = .ref a/\SqT K H a b/\b.length=n/\t b c H Q
def Ka{k:Nat}{n:Nat}(hc:X.calm=aN)(h:PGs X j t)
  (Y:(VJ j X.env).length=n:=by rfl) (l:(VJ j X.env).findIdx? (·.1)=aD:=by rfl):PG X (.Tuple j k pos) (O9 X.K n t):=by
 intro c s q H v u Q I r d;obtain⟨a,T,B,J,C,d⟩:=d;subst B;cases r;obtain⟨U,y,z,hz⟩:=I.tuple J;refine assign_Tuple_tuple (I.ok.hd hc) z (by simp[Y,<-C,y.length]) l λZ O=>?_;have L:Inv X c q H { s with heap:=Z }:=I.kept (t':=s.toks) λb o e=>O b o (ZH (Zs e)) e;exact h c _ q H T _ Q L (by simpa using y) d
abbrev Pa(T k:TE)(t:Ez):TG:=λv b H Q=>T b H λo c=>k b c λi d=>t o i v d λj=>Q b j
def Kb{o i:Expr}{T j:TE}{t:Ez}(U:PE X o T)(hi:PE X i j)(hs:J9 X t)
  (l:∀v,assign (.Subscript o i pos) X.env v=(do
   let O <-holding [v] (eval o X.env)
   let c <-holding [v,O] (eval i X.env)
   standAt pos
   holding [v,O,c] (setItem O c v)
   release [v,O,c] []):=by intro _;rfl):PG X (.Subscript o i pos) (Pa T j t):=by
 intro b s d H v u Q I r h;rw[l];refine UC (UJ (thn (U b s d H _ I h) λO z ⟨x,k,Y,r1,C⟩=>?_));refine UC (UJ (thn (hi b z d k _ Y C) λc s2 ⟨y,Z,L,r2,q2⟩=>?_));refine UC (U1 (UC (UJ (thn (hs b s2 d Z x y v O c u _ L r1 r2 r q2) λ_ s3 ⟨q,J,B⟩=>?_))));exact wpAny_release ⟨d,q,J,B⟩
abbrev Ay(T:TE)(g:TG):TS:=λD b H=>T b H λx c=>g x b c D.nx
def Az{T e:Expr}{d:TE}{g:TG}(u:PE X e d)(k:PG X T g)(hs:Uy [T] e pos.line X.env=pure aS:=by rfl)(hw:Uw [T] e X.env=pure aD:=by rfl)
  (z:(VJ [T] X.env).map (·.2)=[assign T X.env]:=by rfl):PS X (.Assign [T] e pos) (Ay d g):=by
 intro b s c H D I h;refine wpAny_Assign_stores (thn (u b s c H _ I h) λv y ⟨x,j,l,r1,Q⟩=>?_) hs hw;rw[z];exact thn (k b y c j x v _ l r1 Q) λ_ B q=>q
def Kc{i:Nat}{x:Str}{e:Expr}{T:TE}{b:Pos}(hN:X.N.Nodup)(hi:X.N[i]?=aw x)(l:Loc X.env.scope x)(k:PE X e T)(hs:Ux e (aw (.Name x b)) pos.line X.env=pure aS:=by rfl)(B:X.fn x=aN\/X.env.scope.names.lookup x=aw .local:=by first |exact .inl rfl |exact .inr rfl |assumption) :
  PS X (.Assign [.Name x b] e pos) (Ay T (rO i)):=by
 intro c s z H D I h;refine wpAny_Assign_Name (thn (k c s z H _ I h) λv J ⟨y,d,j,r1,q⟩=>?_) hs;exact iz j hN hi l r1 (λC u=>⟨_,d,u,q⟩) B
abbrev Pb(i j:Nat)(T:TA):TS:=λD b H=>T b H λd c=>∃v w,d=[v,w]/\D.nx ((b.set i (aw v)).set j (aw w)) c
def Kd{i j:Nat}{x y:Str}{a b:Expr}{ta:TA}{L O pt:Pos}{B T d}(hc:X.calm=aN)(hN:X.N.Nodup)(hi:X.N[i]?=aw x)(hj:X.N[j]?=aw y)(J:i ≠ j)
  (hx:X.env.scope.names.lookup x=aw .local) (hy:X.env.scope.names.lookup y=aw .local) (ha:PA X [a,b] ta)
  (hw:Uw [.Tuple [.Name x L,.Name y O] B pt] (.Tuple [a,b] T d) X.env=pure (aw [x,y]))
  (hs:Uy [.Tuple [.Name x L,.Name y O] B pt] (.Tuple [a,b] T d) pos.line X.env=pure aS:=by rfl) :
  PS X (.Assign [.Tuple [.Name x L,.Name y O] B pt] (.Tuple [a,b] T d) pos) (Pb i j ta):=by
 intro c s Y H D I h;rw[exec_Assign_arm];refine UC (U1 ?_);rw[hs];refine UC (US ?_);rw[if_neg (by decide)];refine UC (Tuple_ (thn (ha _ c s Y H _ I h) λus l ⟨vs,U,I1,r1,Q⟩=>?_));obtain⟨v,w,e1,Q⟩:=Q;subst e1
 obtain⟨u,u2,rfl,rv,C⟩:∃u u2,us=[u,u2]/\aB v u/\aB w u2:=by
  cases r1 with
  |cons p q=>
   cases q with
   |cons p' q'=>
    cases q';exact⟨_,_,rfl,p,p'⟩
 refine UP ?_ (by show 2<=sizeLine;decide);have I2:Inv X c Y U { l with heap:=l.heap.push { cls:=.type "tuple", data:=.seq [u,u2].toArray } }:=I1.kept (t':=l.toks) λb o e=>Zd _ e;rw[hw];refine UC (US ?_);show wpAny (model X.prog X.w) X.A (do rule "assign.swapped-stores"; let k <-unpackItems (.ref l.heap.objs.size) 2 aD;VL [λv=>VQ X.env y v,λv=>VQ X.env x v] k.reverse;pure Flow.next) _ _ _;refine UC (UX (UC (unpackItems_tuple (items:=#[u,u2]) (I.ok.hd hc) (IsTup.new l.heap _) λh' z=>?_)));have I3:=I2.kept (h':=h') (t':=l.toks) λb o e=>z b o (ZH (Zs e)) e;show wpAny _ _ (VL [λv=>VQ X.env y v,λv=>VQ X.env x v] [u2,u] >>= λ_=>pure Flow.next) _ _ _;refine UC (assignInOrder_cons (wpAny_bindName (iz I3 hN hj (.inl hy) C (λs2 I4=>?_) (.inr hy))));refine assignInOrder_cons (wpAny_bindName (iz I4 hN hi (.inl hx) rv (λs3 Z=>assignInOrder_nil (US ?_)) (.inr hx)));rw[List.set_comm _ _ (Ne.symm J)] at Z;exact⟨_,U,Z,Q⟩
end
structure It where
 go:Nat->Hp->Prop
 yld:Nat->Hp->V->Hp->Prop
 stop:Nat->Hp->Prop
abbrev hV(X:Cx)(d:List (Addr × Obj))(H:Hp)(b:Addr):Prop:=
 H b=aD/\b ≠ X.env.locals/\b ∉ X.fs/\(b ∈ X.ex\/X.s₀.heap.objs.size<=b)/\(∀x c,X.env.cells.lookup x=aw c->c ≠ b)/\∀p ∈ X.pn++d,p.1 ≠ b
def Inv.fpOk(I:Inv X d u H s)(hb:s.heap.objs.size<=b)(l:j b=aD):hV X d j b:=by
 refine⟨l,Wy (ZC I.lt hb),I.nofs hb,.inr (ZX I.sz hb),λx c e z=>?_,λp k z=>?_⟩
 ·obtain⟨v,q⟩:=I.cell x c e;exact absurd (ZC q.lt (by rw[z];exact hb)) (ZL _)
 ·exact absurd (ZC (Zs (I.pin p k).1) (by rw[z];exact hb)) (ZL _)
structure Turn(P:Program)(w:World)(K:Vp)(tg:Expr)(J:It)(fp:List Addr)(it:Addr)(tn:Nat->Heap->Prop):Prop where
 mem:it ∈ fp
 obj:∀i h,tn i h->∀b ∈ fp,∃o,h.get? b=aw o/\∀v,o.data ≠ .cell v
 keep:∀i h h',tn i h->(∀b ∈ fp,∀o,h.get? b=aw o->h'.get? b=aw o)->tn i h'
 item:∀ (X:Cx),X.prog=P->X.w=w->X.K=K->X.calm=aN->∀ (i:Nat) (pins:List (Addr × Obj)) (s:Shared) (σ:St) (H:Hp) (E:Value->Shared->Prop),Inv X pins σ H s->(∀b ∈ fp,hV X pins H b)->tn i s.heap->J.go i H ->
  wpAny (model P w) X.A (pyNext (.ref it)) (λr s1=>∃u,r=aw u ∧
   wpAny (model P w) X.A (Uc tg (.ref it) u) (λ_ s2=>∃x H',Inv X pins σ H' s2/\aB x u/\J.yld i H x H'/\tn (i+1) s2.heap/\∀b ∈ fp,H' b=aD) E s1) E s
 done:∀ (X:Cx),X.prog=P->X.w=w->X.K=K->X.calm=aN->∀ (i:Nat) (pins:List (Addr × Obj)) (s:Shared) (σ:St) (H:Hp) (E:Value->Shared->Prop),Inv X pins σ H s->(∀b ∈ fp,hV X pins H b)->tn i s.heap->J.stop i H ->
  wpAny (model P w) X.A (pyNext (.ref it)) (λr s1=>r=aD/\Inv X pins σ H s1) E s
 self:∀ (A:Around) (i:Nat) (s:Shared) (Q:Value->Shared->Prop) (E:Value->Shared->Prop),tn i s.heap->Q (.ref it) s->wpAny (model P w) A (pyIter (.ref it)) Q E s
@[inline]abbrev TI:=St->Hp->(It->Hp->Prop)->Prop
abbrev PIE(X:Cx)(c:List (Addr × Obj))(q:St)(l:Expr)(R:It->Hp->Prop)(I:Value)(j:Shared):Prop:=
 ∃ (it:Addr) (k:List Addr) (T:Nat->Heap->Prop) (J:It) (d:Hp),I = .ref it/\Inv X c q d j/\Turn X.prog X.w X.K l J k it T/\T 0 j.heap/\(∀b ∈ k,hV X c d b)/\R J d
abbrev PI(X:Cx)(T I:Expr)(d:TI):Prop:=
 ∀ (b:List (Addr × Obj)) (s:Shared) (c:St) (H:Hp) (R:It->Hp->Prop),Inv X b c H s->d c H R ->
  wpAny (model X.prog X.w) X.A (eval I X.env) (λv j=>wpAny (model X.prog X.w) X.A (pyIter v) (PIE X b c T R) X.xe j) X.xe s
def wV(d:s.heap.get? it=aw o)(hc:o.cls = .type n)(hd:o.data = .fields v)
  (c:["enumerate", "zip", "dict_itemiterator", "dict_reverseitemiterator", "odict_iterator", "itertools.zip_longest", "itertools.pairwise"].contains n=aS) (b:Q () s):wpAny M A (Uc T (.ref it) u) Q E s:=by
 unfold Uc
 cases T <;> first
  |exact US b
  | (cases u <;> first
    |exact US b
    | (refine UC (wpAny_load d ?_)
       rw[hc,hd];show wpAny M A (if (["enumerate", "zip", "dict_itemiterator", "dict_reverseitemiterator", "odict_iterator", "itertools.zip_longest", "itertools.pairwise"].contains n && v[0]? == aw (rawInt _))=aN then _ else _) Q E s;rw[if_neg (by intro h;rw[c,XN] at h;cases h)];exact US b))
abbrev Itl(K:Vp)(a:Addr):It:=
 ⟨λi H=>∃X x,SqL K H a X/\X[i]?=aw x,λi H x b=>b=H/\∀X,SqL K H a X->X[i]?=aw x,λi H=>∃X,SqL K H a X/\X.length<=i⟩
abbrev Itt(K:Vp)(a:Addr):It:=
 ⟨λi H=>∃X x,SqT K H a X/\X[i]?=aw x,λi H x b=>b=H/\∀X,SqT K H a X->X[i]?=aw x,λi H=>∃X,SqT K H a X/\X.length<=i⟩
abbrev Itr(lo:Int)(n:Nat):It:=⟨λi _=>i < n,λi H x b=>b=H/\x = .int (lo+i),λi _=>n<=i⟩
def yD{P:Program}{w:World}{K:Vp}{tg:Expr}(a it:Addr):Turn P w K tg (Itl K a) [it] it (λi h=>h.IsListIter it a i) where
 mem:=by simp
 obj:=λi h st b hb=>by
  have e:b=it:=by simpa using hb
  subst e;obtain⟨o,e,c,d⟩:=st;exact⟨o,e,λv z=>by rw[d] at z;cases z⟩
 keep:=λi h B st k=>st.at λo e=>k it (by simp) o e
 item:=by
  intro X hP C J hc i j s σ H E I y st Y;subst hP C J;obtain⟨xs,x,q,Z⟩:=Y;obtain⟨its,T,p,hz⟩:=I.list q;obtain⟨u,hu,ru⟩:=T.get Z;obtain⟨L,U,f2,O,Q,f5⟩:=y it (by simp);refine wpAny_pyNext_list_item st p.isList (x:=u) (by simpa using hu) λB l sb=>?_;have I1:Inv X j σ H { s with heap:=B }:=I.turned (t':=s.toks) (λb o hb e=>(sb.2 b hb).trans e) L U O Q f5;obtain⟨o,e,c,d⟩:=id l;exact⟨u,rfl,wV (s:={ s with heap:=B }) e c d (by decide) ⟨x,H,I1,ru,⟨rfl,λys hy=>by rw[I.list_inj hy q];exact Z⟩,l,λb hb=>(y b hb).1⟩⟩
 done:=by
  intro X hP C J hc i j s σ H E I y st Y;subst hP C J;obtain⟨xs,q,Z⟩:=Y;obtain⟨its,T,p,hz⟩:=I.list q;obtain⟨L,U,f2,O,Q,f5⟩:=y it (by simp);have hl:=T.length;exact wpAny_pyNext_list_end (I.ok.hd hc) st p.isList (by simp;lia) λB eb=>⟨rfl,I.turned (t':=s.toks) (λb o hb e=>eb b o hb e) L U O Q f5⟩
 self:=λ_ _ _ _ _ st h=>wpAny_pyIter_listiter st h
def uG{P:Program}{w:World}{K:Vp}{tg:Expr}(a it:Addr):Turn P w K tg (Itt K a) [it] it (λi h=>h.IsTupleIter it a i) where
 mem:=by simp
 obj:=λi h st b hb=>by
  have e:b=it:=by simpa using hb
  subst e;obtain⟨o,e,c,d⟩:=st;exact⟨o,e,λv z=>by rw[d] at z;cases z⟩
 keep:=λi h C st k=>st.at λo e=>k it (by simp) o e
 item:=by
  intro X hP J L hc i j s σ H E I B st Z;subst hP J L;obtain⟨xs,x,y,hx⟩:=Z;obtain⟨l,U,p,hz⟩:=I.tuple y;obtain⟨u,hu,ru⟩:=U.get hx;obtain⟨O,Y,f2,Q,T,f5⟩:=B it (by simp);refine wpAny_pyNext_tuple_item st (show s.heap.IsTuple a l.toArray from p) (x:=u) (by simpa using hu) λC q sb=>?_;have I1:Inv X j σ H { s with heap:=C }:=I.turned (t':=s.toks) (λb o hb e=>(sb.2 b hb).trans e) O Y Q T f5;obtain⟨o,e,c,d⟩:=id q;exact⟨u,rfl,wV (s:={ s with heap:=C }) e c d (by decide) ⟨x,H,I1,ru,⟨rfl,λys hy=>by rw[I.tuple_inj hy y];exact hx⟩,q,λb hb=>(B b hb).1⟩⟩
 done:=by
  intro X hP J L hc i j s σ H E I B st Z;subst hP J L;obtain⟨xs,y,hx⟩:=Z;obtain⟨l,U,p,hz⟩:=I.tuple y;obtain⟨O,Y,f2,Q,T,f5⟩:=B it (by simp);have hl:=U.length;exact wpAny_pyNext_tuple_end (I.ok.hd hc) st (show s.heap.IsTuple a l.toArray from p) (by simp;lia) λC eb=>⟨rfl,I.turned (t':=s.toks) (λb o hb e=>eb b o hb e) O Y Q T f5⟩
 self:=λ_ _ _ _ _ st h=>wpAny_pyIter_tupleiter st h
def uH{P:Program}{w:World}{K:Vp}{tg:Expr}(it:Addr)(lo:Int)(n:Nat):Turn P w K tg (Itr lo n) [it] it (λi h=>Vf h it (lo+(i:Nat) * 1) ((n:Int) - (i:Nat)) 1) where
 mem:=by simp
 obj:=λi h st b hb=>by
  have e:b=it:=by simpa using hb
  subst e
  exact⟨_,st,λv z=>by
   have z':Data.fields _=Data.cell v:=z;cases z'⟩
 keep:=λi h l st k=>k it (by simp) _ st
 item:=by
  intro X Q q u O i c s Y H E I j st L;subst Q q u;obtain⟨y,J,f2,B,C,T⟩:=j it (by simp);have W:=Walks.range (prog:=X.prog) (w:=X.w) (I.ok.hd O) it lo 1 n;refine W.item i s _ _ L st λv l U hv d Z=>?_;obtain⟨t,rfl⟩:=hv;have I1:Inv X c Y H { s with heap:=l,toks:=U }:=I.turned (λb o hb e=>Z b o (by simpa using hb) e) y J B C T;refine⟨_,rfl,wV (s:={ s with heap:=l,toks:=U }) (n := "range_iterator") d rfl rfl (by decide) ⟨.int (lo+i),H,I1,⟨t,?_⟩,⟨rfl,rfl⟩,d,λb hb=>(j b hb).1⟩⟩;rw[Int.mul_one]
 done:=by
  intro X Q q u O i c s Y H E I j st L;subst Q q u;obtain⟨y,J,f2,B,C,T⟩:=j it (by simp);exact UW (I.ok.hd O) st (by have:n<=i:=L;lia) λl eb=>⟨rfl,I.turned (t':=s.toks) (λb o hb e=>eb b o hb e) y J B C T⟩
 self:=λ_ _ _ _ _ st h=>UU st h
section
variable {X:Cx} {tg:Expr}
abbrev AA(K:Vp)(T:TE):TI:=λd H R=>T d H λx b=>∃a,x = .ref a/\(∃c,SqL K b a c)/\R (Itl K a) b
abbrev Pc(K:Vp)(T:TE):TI:=λd H R=>T d H λx b=>∃a,x = .ref a/\(∃c,SqT K b a c)/\R (Itt K a) b
def wW{l:Expr}{T:TE}(hl:PE X l T):PI X tg l (AA X.K T):=by
 intro c s z H R I h;refine thn (hl c s z H _ I h) λv j ⟨x,k,d,r1,Q⟩=>?_;obtain⟨a,e,⟨B,u⟩,q⟩:=Q;subst e;cases r1;obtain⟨y,C,p,J⟩:=d.list u;refine UT p.isList ?_;refine⟨j.heap.objs.size,[j.heap.objs.size],_,_,k,rfl,d.kept (t':=j.toks) λb o e=>Zd _ e,yD a _,⟨_,Zu _ rfl,rfl,rfl⟩,λb hb=>?_,q⟩;have e:b=j.heap.objs.size:=by simpa using hb
 subst e;exact d.fpOk (Zj _) (d.hok.fresh (Zj _))
def Ke{l:Expr}{T:TE}(hl:PE X l T):PI X tg l (Pc X.K T):=by
 intro d s z H R I h;refine thn (hl d s z H _ I h) λv c ⟨x,u,j,r1,Q⟩=>?_;obtain⟨a,e,⟨B,y⟩,q⟩:=Q;subst e;cases r1;obtain⟨k,C,p,J⟩:=j.tuple y;refine UV (show c.heap.IsTuple a k.toArray from p) ?_;refine⟨c.heap.objs.size,[c.heap.objs.size],_,_,u,rfl,j.kept (t':=c.toks) λb o e=>Zd _ e,uG a _,⟨_,Zu _ rfl,rfl,rfl⟩,λb hb=>?_,q⟩;have e:b=c.heap.objs.size:=by simpa using hb
 subst e;exact j.fpOk (Zj _) (j.hok.fresh (Zj _))
def rP{lo hi:Int}{T:Nat}(I:Inv X c j H s)(z:-(2 ^ 62)<=lo)(B:lo < 2 ^ 62)(y:-(2 ^ 62)<=hi)(h4:hi < 2 ^ 62)
  (q:R (Itr lo (hi - lo).toNat) H):wpAny (model X.prog X.w) X.A (pyIter (.ref s.heap.objs.size)) (PIE X c j tg R) E { s with heap:=s.heap.push { cls:=.type "range", data:=.fields #[.int lo t,.int hi u,.int 1 v] },toks:=T }:=by
 refine wpAny_pyIter_range (IsRange.new ..) (small_one z B y h4) ?_;have d:Inv X c j H { s with heap:=s.heap.push { cls:=.type "range", data:=.fields #[.int lo t,.int hi u,.int 1 v] },toks:=T }:=I.kept λb o e=>Zd _ e
 refine⟨(s.heap.push { cls:=.type "range", data:=.fields #[.int lo t,.int hi u,.int 1 v] }).objs.size,[(s.heap.push { cls:=.type "range", data:=.fields #[.int lo t,.int hi u,.int 1 v] }).objs.size],_,_,H,rfl,
  d.kept (t':=T) λb o e=>Zd _ e,uH _ lo (hi - lo).toNat,?_,λb hb=>?_,q⟩
 ·have k:lo+((0:Nat):Int) * 1=lo:=by simp
  have l:(((hi - lo).toNat:Nat):Int) - ((0:Nat):Int)=Builtin.Range.rangeSize lo hi 1:=by rw[Ul];split <;> lia
  show Vf _ _ (lo+((0:Nat):Int) * 1) ((((hi - lo).toNat:Nat):Int) - ((0:Nat):Int)) 1;rw[k,l];exact Zu _ rfl
 ·have e:b=(s.heap.push { cls:=.type "range", data:=.fields #[.int lo t,.int hi u,.int 1 v] }).objs.size:=by simpa using hb
  subst e;exact d.fpOk (Zj _) (d.hok.fresh (Zj _))
abbrev IR(T:TA):TI:=λc H R=>T c H λv b=>∃j:Int,v=[.int j]/\-(2 ^ 62)<=j/\j < 2 ^ 62/\R (Itr 0 j.toNat) b
abbrev IS(T:TA):TI:=λc H R=>T c H λv b=>∃i j:Int,v=[.int i,.int j]/\(-(2 ^ 62)<=i/\i < 2 ^ 62/\-(2 ^ 62)<=j/\j < 2 ^ 62)/\R (Itr i (j - i).toNat) b
def yE(d:Gl X "range")(l:X.mg "range" = aD)(u:PA X [a] T)(hs:Uv [a] X.env=[(aS,eval a X.env)]:=by rfl):PI X tg (.Call (.Name "range" p) [a] [] c) (IR T):=by
 intro b s z H R I h;refine Call_ (eP I d l boot_range (WM (thn (u c b s z H _ I h) λU C ⟨J,B,k,r1,Q⟩=>?_) hs rfl));obtain⟨j,e,Q,v,q⟩:=Q;subst e;cases r1 with
 |cons r y=>
  cases y;obtain⟨t,rfl⟩:=r;exact call_range_1 (rP k (by lia) (by lia) Q v (by simpa using q))
def yF(B:Gl X "range")(y:X.mg "range" = aD)(u:PA X [a,b] T)(hs:Uv [a,b] X.env=[(aS,eval a X.env),(aS,eval b X.env)]:=by rfl)(c:Uv [b] X.env=[(aS,eval b X.env)]:=by rfl) :
  PI X tg (.Call (.Name "range" p) [a,b] [] l) (IS T):=by
 intro d s v H R I h;refine Call_ (eP I B y boot_range (WM (thn (u l d s v H _ I h) λZ Y ⟨vs,U,C,r1,Q⟩=>?_) (by rw[hs,c]) (by rw[c];rfl)));obtain⟨i,j,e,⟨Q,J,z,L⟩,q⟩:=Q;subst e;cases r1 with
 |cons r k=>
  cases k with
  |cons O k=>
   cases k;obtain⟨t,rfl⟩:=r;obtain⟨t',rfl⟩:=O;exact call_range_2 (rP C Q J z L q)
abbrev Pd(q:TI)(g:TG)(T:TS):TS:=λD b H=>q b H λJ l=>∃W:Nat->Nat->St->Hp->Prop,(∃m,W 0 m b l)/\∀i m b H,W i m b H ->
 (J.stop i H/\D.nx b H)\/(J.go i H/\∃N:St->Hp->Prop,(∀c d,N c d->∃k,k < m/\W (i+1) k c d)/\∀x d,J.yld i H x d->g x b d λj u=>T { D with nx:=N,ct:=N,bk:=D.nx } j u)
abbrev kY(c:List Addr)(h:Heap):List (Addr × Obj):=c.filterMap λb=>(h.get? b).map λo=>(b,o)
def eS(hb:b ∈ c)(e:h.get? b=aw o):(b,o) ∈ kY c h:=YD.mpr ⟨b,hb,by rw[e];rfl⟩
def yG(j:p ∈ kY d h):p.1 ∈ d/\h.get? p.1=aw p.2:=by
 obtain⟨b,hb,e⟩:=YD.mp j;cases q:h.get? b with
 |none=>rw[q] at e;cases e
 |some o=>
  rw[q] at e;have c:(b,o)=p:=Option.some.inj e;subst c;exact⟨hb,q⟩
def Inv.pinned(I:Inv X c y H s)(J:∀b ∈ k,hV X c H b)(B:∀b ∈ k,∃o,s.heap.get? b=aw o/\∀v,o.data ≠ .cell v):Inv X (c++kY k s.heap) y H s:=
 I.pins_of λp u=>(ZP.mp u).elim (λz=>I.pin p (ZA _ z)) λz=>by
  obtain⟨hb,e⟩:=yG z;obtain⟨l,C,q,_⟩:=J p.1 hb;obtain⟨o,j,d⟩:=B p.1 hb;rw[e] at j;cases j;exact⟨e,l,C,q,d⟩
def Inv.unpinned(I:Inv X (b++j) d H s):Inv X b d H s:=I.pins_of λp c=>I.pin p (ZA _ (ZV _ c))
def Kf(O:PassesOwn (model X.prog X.w) X.A X.env X.xe)(hc:X.calm=aN)(hi:PI X tg B wi)(hg:PG X tg g)(hb:PSs X body tb)
  (hs:∀x,V7 B X.env x=pure x:=by intro _;rfl):PS X (.For tg B body [] pos) (Pd wi g tb):=by
 intro j s σ H D I h;refine wpAny_For (thn (hi j s σ H _ I h) λv s1 h1=>thn h1 λitv s2 h2=>?_) hs;obtain⟨it,L,tn,J,H2,e,I2,T,st2,f2,W,⟨m0,w0⟩,Z⟩:=h2;subst e;have q:∀ {H':Hp},(∀b ∈ L,H' b=aD)->∀b ∈ L,hV X j H' b:=λhn b hb=>⟨hn b hb,(f2 b hb).2⟩;refine codeAny_forLoop_any (λn s'=>∃i k H',Inv X j k H' s'/\tn i s'.heap/\(∀b ∈ L,H' b=aD)/\W i n k H') ?_ m0 ⟨0,σ,H2,I2,st2,λb hb=>(f2 b hb).1,w0⟩;rintro n s3 ⟨i,z,H3,I3,st3,U,w3⟩;rcases Z i n z H3 w3 with ⟨stop,qn⟩ |⟨go,N,hN,step⟩
 ·refine UR O (thn (T.done X rfl rfl rfl hc i j s3 z H3 X.xe I3 (q U) st3 stop) λr s4 ⟨hr,I4⟩=>?_);subst hr;exact UF ⟨z,H3,I4,qn⟩
 ·refine UR O (thn (T.item X rfl rfl rfl hc i j s3 z H3 X.xe I3 (q U) st3 go) λr s4 ⟨u,hr,h4⟩=>?_);subst hr;refine UR O (thn h4 λ_ s5 ⟨x,H5,I5,r5,y5,C,fr5⟩=>?_);have I5':=I5.pinned (q fr5) (T.obj _ _ C);refine UR O (thn (hg _ s5 z H5 x u _ I5' r5 (step x H5 y5)) λ_ s6 ⟨σ6,H6,I6,q6⟩=>?_);refine UR O (thn (hb _ s6 σ6 H6 _ I6 q6) λf s7 Q=>?_)
  have again:∀ {c:St} {l:Hp},Inv X (j++kY L s5.heap) c l s7->N c l->∃m,m < n/\∃i k H',Inv X j k H' s7/\tn i s7.heap/\(∀b ∈ L,H' b=aD)/\W i m k H':=λ{c l} y Y=>by
   obtain⟨m',hm,w7⟩:=hN c l Y;refine⟨m',hm,i+1,c,l,y.unpinned,T.keep _ _ _ C λb hb o e=>(y.pin (b,o) (ZA _ (ZA _ (eS hb e)))).1,λb hb=>?_,w7⟩;obtain⟨o,e,d⟩:=T.obj _ _ C b hb;exact(y.pin (b,o) (ZA _ (ZA _ (eS hb e)))).2.1
  cases f with
  |next=>obtain⟨c,l,y,Y⟩:=Q;exact again y Y
  |cont=>obtain⟨c,l,y,Y⟩:=Q;exact again y Y
  |brk=>obtain⟨c,l,y,Q⟩:=Q;exact⟨c,l,y.unpinned,Q⟩
  |ret v=>obtain⟨x7,c,l,y,r7,Q⟩:=Q;exact⟨x7,c,l,y.unpinned,r7,Q⟩
end
@[inline]abbrev R2:=V->V->Hp->VK->Prop
abbrev OpR(X:Cx)(f:Value->Value->Sem Value)(r:R2):Prop:=
 ∀ (b:List (Addr × Obj)) (s:Shared) (c:St) (H:Hp) (x y:V) (v u:Value) (Q:VK),Inv X b c H s->aB x v->aB y u->r x y H Q ->
  wpAny (model X.prog X.w) X.A (f v u) (EP X b c Q) X.xe s
abbrev UnR(X:Cx)(f:Value->Sem Value)(r:V->Hp->VK->Prop):Prop:=
 ∀ (b:List (Addr × Obj)) (s:Shared) (c:St) (H:Hp) (x:V) (v:Value) (Q:VK),Inv X b c H s->aB x v->r x H Q ->
  wpAny (model X.prog X.w) X.A (f v) (EP X b c Q) X.xe s
abbrev aX(X:Cx)(f:Value)(r:List V->Hp->VK->Prop):Prop:=
 ∀ (b:List (Addr × Obj)) (s:Shared) (d:St) (H:Hp) (c:List V) (u:List Value) (Q:VK),Inv X b d H s->aM c u->r c H Q ->
  wpAny (model X.prog X.w) X.A (call f u) (EP X b d Q) X.xe s
abbrev Sh(X:Cx)(r:V->Hp->(Bool->Hp->Prop)->Prop):Prop:=
 ∀ (b:List (Addr × Obj)) (s:Shared) (c:St) (H:Hp) (x:V) (v:Value) (Q:Bool->Hp->Prop),Inv X b c H s->aB x v->r x H Q ->
  wpAny (model X.prog X.w) X.A (truthy v) (TP X b c Q) X.xe s
abbrev tOp(r:R2)(T j:TE):TE:=λb H Q=>T b H λx c=>j b c λy d=>r x y d Q
abbrev tUn(r:V->Hp->VK->Prop)(T:TE):TE:=λc H Q=>T c H λx b=>r x b Q
abbrev rI(C:Int->Int->Prop)(g:Int->Int->V):R2:=λx y H Q=>∃i j,x = .int i/\y = .int j/\C i j/\Q (g i j) H
abbrev rI0(g:Int->Int->V):R2:=λx y H Q=>∃i j,x = .int i/\y = .int j/\Q (g i j) H
abbrev rU(g:Int->V):V->Hp->VK->Prop:=λx H Q=>∃i,x = .int i/\Q (g i) H
section
variable {X:Cx} {a b c:Expr} {ta tb tc:TE} {pos:Pos}
def Kg(J:PE X a ta)(hb:PE X b tb){d:List (Addr × Obj)}{s:Shared}{k:St}{H:Hp}{R:V->V->Hp->Prop}(I:Inv X d k H s)
  (h:ta k H λx B=>tb k B λy j=>R x y j) {Q:Value->Shared->Prop} {f:Value->Value->Sem Value}
  (Y:∀v u z x y j,Inv X d k j z->aB x v->aB y u->R x y j->wpAny (model X.prog X.w) X.A (f v u) Q X.xe z) :
  wpAny (model X.prog X.w) X.A (eval a X.env) (λv q=>wpAny (model X.prog X.w) X.A (eval b X.env) (λu l=>wpAny (model X.prog X.w) X.A (f v u) Q X.xe l) X.xe q) X.xe s:=by
 refine thn (J d s k H _ I h) λv L ⟨x,B,C,r1,O⟩=>?_;refine thn (hb d L k B _ C O) λu z ⟨y,j,U,r2,T⟩=>?_;exact Y v u z x y j U r1 r2 T
def Pe{op:Vh}{r:R2}(L:OpR X (VO op) r)(k:PE X a ta)(hb:PE X b tb):PE X (.BinOp a op b pos) (tOp r ta tb):=by
 intro d s J H Q I h;exact wpAny_BinOp (Kg k hb I h λv u l x y j C z B q=>L d l J j x y v u Q C z B q)
def AB(z:UnR X (unaryOp op) r)(q:PE X a ta):PE X (.UnaryOp op a pos) (tUn r ta):=by
 intro d s j H Q I h;exact UnaryOp_ (thn (q d s j H _ I h) λv u ⟨x,k,l,r1,y⟩=>z d u j k x v Q l r1 y)
def opI{f:Value->Value->Sem Value}{C:Int->Int->Prop}{g:Int->Int->Int}
  (rule:∀ (i j:Int) (t u:Tok) (s:Shared) (Q:Value->Shared->Prop) (E:Value->Shared->Prop),C i j->Q (.int (g i j) s.toks) { s with toks:=s.toks+1 }->wpAny (model X.prog X.w) X.A (f (.int i t) (.int j u)) Q E s) :
  OpR X f (rI C λi j=>.int (g i j)):=by
 intro d s B H x y v u Q I l z h;obtain⟨i,j,rfl,rfl,k,q⟩:=h;obtain⟨t,rfl⟩:=l;obtain⟨T,rfl⟩:=z;exact rule i j t T s _ _ k ⟨.int (g i j),H,I.tok _,⟨_,rfl⟩,q⟩
def Pf{f:Value->Value->Sem Value}{g:Int->Int->Int}
  (rule:∀ (i j:Int) (t u:Tok) (s:Shared) (Q:Value->Shared->Prop) (E:Value->Shared->Prop),Q (.int (g i j) s.toks) { s with toks:=s.toks+1 }->wpAny (model X.prog X.w) X.A (f (.int i t) (.int j u)) Q E s) :
  OpR X f (rI0 λi j=>.int (g i j)):=by
 intro d s z H x y v u Q I k l h;obtain⟨i,j,rfl,rfl,q⟩:=h;obtain⟨t,rfl⟩:=k;obtain⟨T,rfl⟩:=l;exact rule i j t T s _ _ ⟨.int (g i j),H,I.tok _,⟨_,rfl⟩,q⟩
def EC{f:Value->Value->Sem Value}{g:Int->Int->Bool}
  (rule:∀ (i j:Int) (t u:Tok) (s:Shared) (Q:Value->Shared->Prop) (E:Value->Shared->Prop),Q (.bool (g i j)) s->wpAny (model X.prog X.w) X.A (f (.int i t) (.int j u)) Q E s) :
  OpR X f (rI0 λi j=>.bl (g i j)):=by
 intro d s z H x y v u Q I k l h;obtain⟨i,j,rfl,rfl,q⟩:=h;obtain⟨t,rfl⟩:=k;obtain⟨T,rfl⟩:=l;exact rule i j t T s _ _ ⟨.bl (g i j),H,I,rfl,q⟩
abbrev Si(i j:Int):Prop:=0<=j/\j<=1000000/\i.natAbs < 2 ^ 64
abbrev Pg(i j:Int):Prop:=(-(2 ^ 64) < i/\i < 2 ^ 64)\/(-(2 ^ 64) < j/\j < 2 ^ 64)
def Pg.ok{i j:Int}(h:Pg i j):IntMulOk i j:=by
 rcases h with ⟨d,k⟩ |⟨d,k⟩
 ·exact .of_left (intBits_le_64 d k)
 ·exact .of_right (intBits_le_64 d k)
def Kh:OpR X (VO .Add) (rI0 λi j=>.int (i+j)):=Pf λ_ _ _ _ _ _ _ q=>add_int q
def Ki:OpR X (VO .Sub) (rI0 λi j=>.int (i - j)):=Pf λ_ _ _ _ _ _ _ q=>sub_int q
def Kj:OpR X (VO .Mult) (rI Pg λi j=>.int (i * j)):=opI λ_ _ _ _ _ _ _ d q=>mul_int q d.ok
def Kk:OpR X (VO .Mod) (rI (λ_ j=>0 < j) λi j=>.int (i % j)):=opI λi j _ _ _ _ _ d q=>by
 have k:(0:Int) < j:=d;exact mod_int' (by lia) (by rw[Int.fmod_eq_emod_of_nonneg i (by lia)];exact q)
def Kl:OpR X (VO .Pow) (rI Si λi j=>.int (i ^ j.toNat)):=opI λ_ _ _ _ _ _ _ d q=>pow_int_small d.1 d.2.1 d.2.2 q
def unI{f:Value->Sem Value}{g:Int->Int}
  (rule:∀ (i:Int) (t:Tok) (s:Shared) (Q:Value->Shared->Prop) (E:Value->Shared->Prop),Q (.int (g i) s.toks) { s with toks:=s.toks+1 }->wpAny (model X.prog X.w) X.A (f (.int i t)) Q E s) :
  UnR X f (rU λi=>.int (g i)):=by
 intro d s k H x v Q I j h;obtain⟨i,rfl,q⟩:=h;obtain⟨t,rfl⟩:=j;exact rule i t s _ _ ⟨.int (g i),H,I.tok _,⟨_,rfl⟩,q⟩
def uI:UnR X (unaryOp .USub) (rU λi=>.int (-i)):=unI λ_ _ _ _ _ q=>neg_int q
end
section
variable {X:Cx} {a b c:Expr} {ta tb tc:TE} {pos:Pos}
def AC(I:Inv X d l H s)(q:Q (.bl k) H)(e:k=j):EP X d l Q (.bool j) s:=by
 subst e;exact⟨.bl k,H,I,rfl,q⟩
def Ph:OpR X (V1 .Lt) (rI0 λi j=>.bl (decide (i < j))):=EC λ_ _ _ _ _ _ _ q=>lt_int q
def Pj:OpR X (V1 .LtE) (rI0 λi j=>.bl (decide (i<=j))):=EC λ_ _ _ _ _ _ _ q=>le_int q
def Pk:OpR X (V1 .Gt) (rI0 λi j=>.bl (decide (j < i))):=EC λ_ _ _ _ _ _ _ q=>gt_int q
def Pl:OpR X (V1 .GtE) (rI0 λi j=>.bl (decide (j<=i))):=EC λ_ _ _ _ _ _ _ q=>ge_int q
def Km:OpR X (V1 .Is) (λx y H Q=>y = .non/\Q (.bl (decide (x = .non))) H):=by
 intro j s l H x y v u Q I d k h;obtain⟨rfl,q⟩:=h;cases k;refine is_none_gen (AC I q ?_)
 cases x <;> first
  |(cases d;rfl)
  |(obtain⟨t,rfl⟩:=d;rfl)
def ED:OpR X (V1 .IsNot) (λx y H Q=>y = .non/\Q (.bl (!decide (x = .non))) H):=by
 intro j s l H x y v u Q I d k h;obtain⟨rfl,q⟩:=h;cases k;refine isnot_none_gen (AC I q ?_)
 cases x <;> first
  |(cases d;rfl)
  |(obtain⟨t,rfl⟩:=d;rfl)
def EF{op:CmpOp}{r:R2}(O:OpR X (V1 op) r)(l:PE X a ta)(hb:PE X b tb)(k:VN op b=aS):PE X (.Compare a [op] [b] pos) (tOp r ta tb):=by
 intro d s L H Q I h;exact wpAny_Compare1 (Kg l hb I h λv u z x y j J B C q=>O d z L j x y v u Q J B C q) k
abbrev IT(t:TE):TT:=λj H Q=>t j H λx d=>∃k,x = .bl k/\Q k d
def EG(Z:OpR X (V1 op) r)(q:PE X a ta)(hb:PE X b tb)(L:VN op b=aS):PT X (.Compare a [op] [b] pos) (IT (tOp r ta tb)):=by
 intro d s j H Q I h
 refine wpAny_isTrue_Compare1 (thn (q d s j H _ I h) λv C ⟨x,l,I1,r1,T⟩=>thn (hb d C j l _ I1 T) λu s2 ⟨y,H2,Y,r2,q2⟩=>
  thn (Z d s2 j H2 x y v u _ Y r1 r2 q2) λc s3 ⟨z,B,U,J,k,e,O⟩=>?_) L
 subst e;cases J;exact U2 ⟨B,U,O⟩
abbrev uJ(r v:R2)(ta tb tc:TE):TE:=λd H Q=>ta d H λx l=>tb d l λy q=>r x y q λz j=>∃k,z = .bl k ∧
 (if k=aN then tc d j λB u=>v y B u Q else Q (.bl aS) j)
def AE(ho:OpR X (V1 op) r)(q:OpR X (V1 O) r')(T:PE X a ta)(hb:PE X b tb)(hc:PE X c tc)
  (hm:lastMarks [op,O] [b,c]=aS:=by with_unfolding_all rfl):PE X (.Compare a [op,O] [b,c] pos) (uJ r r' ta tb tc):=by
 intro j s l H Q I h
 refine Compare_chain (thn (T j s l H _ I h) λv U ⟨x,L,I1,r1,q1⟩=>chain_link (thn (hb j U l L _ I1 q1) λu s2 ⟨y,H2,I2,r2,q2⟩=>
  thn (ho j s2 l H2 x y v u _ I2 r1 r2 q2) λd s3 ⟨z,B,J,Z,k,e,C⟩=>?_)) hm
 subst e;cases Z;refine U2 ?_;cases k with
 |false=>exact ite_ff ⟨.bl aS,B,J,rfl,C⟩
 |true=>exact ite_tt (chain_last (thn (hc j s3 l B _ J C) λw' s4 ⟨z',Y,I4,r4,q4⟩=>q j s4 l Y y z' u w' Q I4 r2 r4 q4))
def AF(ho:OpR X (V1 op) r)(q:OpR X (V1 O) r')(U:PE X a ta)(hb:PE X b tb)(hc:PE X c tc)
  (hm:lastMarks [op,O] [b,c]=aS:=by with_unfolding_all rfl):PT X (.Compare a [op,O] [b,c] pos) (IT (uJ r r' ta tb tc)):=by
 intro j s l H Q I h
 refine isTrue_chain (thn (U j s l H _ I h) λv Y ⟨x,L,I1,r1,q1⟩=>test_link (thn (hb j Y l L _ I1 q1) λu s2 ⟨y,H2,I2,r2,q2⟩=>
  thn (ho j s2 l H2 x y v u _ I2 r1 r2 q2) λd s3 ⟨z,B,J,r3,k,e,C⟩=>?_)) hm
 subst e;cases r3;refine U2 ?_;cases k with
 |false=>
  obtain⟨k',T,q'⟩:=C;cases T;exact ite_ff ⟨B,J,q'⟩
 |true=>
  refine ite_tt (test_last (thn (hc j s3 l B _ J C) λw' s4 ⟨z',Z,I4,r4,q4⟩=>thn (q j s4 l Z y z' u w' _ I4 r2 r4 q4) λd' s5 ⟨z2,H5,I5,r5,k2,e2,q5⟩=>?_));subst e2;cases r5;exact U2 ⟨H5,I5,q5⟩
abbrev EH(K:Vp)(x:V)(H:Hp)(k:Bool):Prop:=
 match x with
 |.non=>k=aS
 |.bl b=>k=b
 |.int i=>k=(i != 0)
 |.str y=>y.length<=sizeLine/\k=((y.length:Int) != 0)
 |.byt y=>y.size<=sizeLine/\k=((y.size:Int) != 0)
 |.ref p=>(∃d,SqL K H p d/\k = !d.isEmpty)\/(∃d,SqT K H p d/\k = !d.isEmpty)\/∃j,H p=aw (.dK j)/\k = !j.isEmpty
 |_=>False
def uK{d:Type}{k:List (d × V)}{v:List (d × Value)}(r:KV k v):(!v.isEmpty) = !k.isEmpty:=by
 cases r <;> rfl
def kZ{xs:List V}{its:List Value}(r:aM xs its):(!its.toArray.isEmpty) = !xs.isEmpty:=by
 cases r <;> simp
def jg:(sizeLine:Nat) < 2 ^ 63:=by rw[Ut];decide
def Ko:Sh X (λx H Q=>∃k,EH X.K x H k/\Q k H):=by
 intro L s Z H x v Q I z h;obtain⟨k,e,q⟩:=h;have Y:=jg;have hs:sizeLine=16777216:=Ut;cases x with
 |non=>
  cases z;have d:k=aS:=e;subst d;exact truthy_none ⟨H,I,q⟩
 |bl b=>
  cases z;have d:k=b:=e;subst d;exact U2 ⟨H,I,q⟩
 |int i=>
  obtain⟨t,rfl⟩:=z;have d:k=(i != 0):=e;subst d;exact PySem.P.truthy_int ⟨H,I,q⟩
 |str y=>
  obtain⟨t,rfl⟩:=z;obtain⟨U,d⟩:y.length<=sizeLine/\k=((y.length:Int) != 0):=e;subst d;exact PySem.P.truthy_str (by lia) ⟨H,I.tok _,q⟩
 |byt y=>
  obtain⟨t,rfl⟩:=z;obtain⟨U,d⟩:y.size<=sizeLine/\k=((y.size:Int) != 0):=e;subst d;exact PySem.W.truthy_bytes (by lia) ⟨H,I.tok _,q⟩
 |ref p=>
  cases z;have d:(∃u,SqL X.K H p u/\k = !u.isEmpty)\/(∃u,SqT X.K H p u/\k = !u.isEmpty)\/∃j,H p=aw (.dK j)/\k = !j.isEmpty:=e;rcases d with ⟨u,B,d⟩ |⟨u,B,d⟩ |⟨j,B,d⟩
  ·subst d;obtain⟨J,r,C,O⟩:=I.list B;have l:=r.length;exact wpAny_truthy_list C.isList (by simp only[Zk];lia) ⟨H,I.tok _,by rw[kZ r];exact q⟩
  ·subst d;obtain⟨J,r,C,O⟩:=I.tuple B;have l:=r.length;exact truthy_tuple C (by simp only[Zk];lia) ⟨H,I.tok _,by rw[kZ r];exact q⟩
  ·subst d;obtain⟨O,T,vs,r,m⟩:j.length<=sizeLine/\(p == Uz)=aS/\∃vs,KV j vs/\s.heap.DictOf (ba X.prog X.w) p vs:=I.hok p _ B;have l:j.length=vs.length:=Paired.length r;exact wpAny_truthy_dict T m (by lia) ⟨H,I.tok _,by rw[uK r];exact q⟩
 |_=>exact(show False from e).elim
def AG(z:PE X a ta)(B:∀d,isTrue a X.env d=(do let v <-d;standAt a.pos;holding [v] (truthy v))) :
  PT X a (λl H Q=>ta l H λx q=>∃k,EH X.K x q k/\Q k q):=by
 intro j s l H Q I h;exact isTrue_plain (thn (z j s l H _ I h) λv C ⟨x,u,y,r1,J⟩=>Ko j C l u x v Q y r1 J) (B _)
def uL:OpR X (VO .Add) (λx y H Q=>∃i j,x = .str i/\y = .str j/\i.length+j.length<=sizeLine/\Q (.str (i++j)) H):=by
 intro d s C H x y v u Q I k l h;obtain⟨i,j,rfl,rfl,z,q⟩:=h;obtain⟨t,rfl⟩:=k;obtain⟨T,rfl⟩:=l;exact add_str (λT B=>⟨.str (i++j),H,I.tok _,⟨_,rfl⟩,q⟩) z
def cb(r:aM [x] U):∃u,U=[u]/\aB x u:=by
 cases r with
 |cons r1 r2=>cases r2;exact⟨_,rfl,r1⟩
def nQ(r:aM [x,y] U):∃u w',U=[u,w']/\aB x u/\aB y w':=by
 cases r with
 |cons r1 r2=>
  cases r2 with
  |cons j d=>cases d;exact⟨_,_,rfl,r1,j⟩
def yH(hc:X.calm=aN):aX X (.builtin "max") (λxs H Q=>∃i j,xs=[.int i,.int j]/\Q (.int (if j > i then j else i)) H):=by
 intro l s y H xs U Q I r h;obtain⟨i,j,rfl,q⟩:=h;obtain⟨u,z,rfl,⟨t,rfl⟩,⟨T,rfl⟩⟩:=nQ r;refine max_two_ints (I.ok.hd hc) λB v k=>⟨_,H,I.kept k,?_,q⟩;by_cases d:j > i
 ·rw[if_pos d,if_pos d];exact⟨_,rfl⟩
 ·rw[if_neg d,if_neg d];exact⟨_,rfl⟩
def yI(hc:X.calm=aN):aX X (.builtin "min") (λxs H Q=>∃i j,xs=[.int i,.int j]/\Q (.int (if j < i then j else i)) H):=by
 intro l s y H xs U Q I r h;obtain⟨i,j,rfl,q⟩:=h;obtain⟨u,z,rfl,⟨t,rfl⟩,⟨T,rfl⟩⟩:=nQ r;refine min_two_ints (I.ok.hd hc) λB v k=>⟨_,H,I.kept k,?_,q⟩;by_cases d:j < i
 ·rw[if_pos d,if_pos d];exact⟨_,rfl⟩
 ·rw[if_neg d,if_neg d];exact⟨_,rfl⟩
end
structure ObjM(h:Heap)(x dx C:Addr)(mA:Str->Option Value):Prop where
 obj:h.get? x=aw (Vu C dx)
 ns:h.Ns1 dx mA
 ne:dx ≠ x
def yJ{h:Heap}{d:Addr}{j:Str->Option Value}(n:h.Ns1 d j):∃O,h.get? d=aw O/\∀name,VE name O=aw (j name):=by
 obtain⟨o,c,C,B,hd,v,_,k⟩:=n;refine⟨o,B,λname=>?_⟩;have e:=k name;unfold nsFind findBy at e;rw[<-Array.find?_toList] at e;unfold VE;rw[hd];dsimp only;split
 ·rename_i y q;rw[q] at e;exact congrArg aw e
 ·rename_i q;rw[q] at e
  have a:c.toList.any (·.refKey)=aS:=by
   rw[List.any_eq_false];intro y l;obtain⟨z,t,b⟩:=v y (Array.mem_toList_iff.mp l);simp[DictEntry.refKey,b]
  have u:¬ c.toList.any (·.refKey)=aN:=by rw[a];exact Zh
  rw[if_neg u];exact congrArg aw e
def ObjM.look(I:ObjM h x d C b):∃O,PySem.W.InstAt h x (Vu C d) C (aw O)/\∀name,VE name O=aw (b name):=
 let ⟨O,ho,hl⟩:=yJ I.ns
 ⟨O,⟨I.obj,rfl,rfl,ho⟩,hl⟩
def uD.some_of(r:uD (aw v) o):∃u,o=aw u/\aB v u:=by
 cases o with
 |none=>exact(show False from r).elim
 |some u=>exact⟨u,rfl,r⟩
section
variable {P:Program} {w:World} {H H':Hp} {h h':Heap} {a C dx:Addr} {fs fs':List (Str × V)}
def EI(hok:HOk P w H h)(e:H a=aw (.ins C dx fs)):∃b,ObjM h a dx C b/\(∀f,uD (fs.lookup f) (b f))/\PySem.Within b (fs.map (·.1))/\fs.length<=1000/\H dx=aw (.own a):=by
 obtain⟨d,z,ne,ob,b,n,r,q⟩:=(show a9 P w H h a (.ins C dx fs) from hok a _ e);exact⟨b,⟨ob,n,ne⟩,r,q,z,d⟩
end
structure Cls(K:Vp)(C:Addr):Prop where
 pg:VG K C Str.empty=aN
 hd:PySem.W.hasDictIn K C=aN
 po:PySem.W.plainOver K C=aN
 sa:Vs K (.ref C) "__setattr__" = aw (aw (.builtin "object.__setattr__"))
def Cls.get{K:Vp}{C:Addr}(c:Cls K C)(f:Str):VG K C f=aN:=c.pg
section
variable {X:Cx} {pins:List (Addr × Obj)} {σ:St} {H:Hp} {s:Shared} {A:Around} {E:Value->Shared->Prop} {Q:Value->Shared->Prop} {c:Value} {b:Bool}
inductive TyOf(K:Vp)(H:Hp):V->Value->Prop where
 |non:TyOf K H .non (.type "NoneType")
 |bl (x:Bool):TyOf K H (.bl x) (.type "bool")
 |int (i:Int):TyOf K H (.int i) (.type "int")
 |str (x:Str):TyOf K H (.str x) (.type "str")
 |flt (x:UInt64):TyOf K H (.flt x) (.type "float")
 |lst {a:Addr} {xs:List V} (e:H a=aw (.lst xs)):TyOf K H (.ref a) (.type "list")
 |frz {a:Addr} {o:Obj} {xs:List V} (e:H a=aw (.frz o (.lst xs))):TyOf K H (.ref a) (.type "list")
 |tup {a:Addr} {xs:List V} (e:H a=aw (.tup xs)):TyOf K H (.ref a) (.type "tuple")
 |dK {a:Addr} {kvs:List (Key × V)} (e:H a=aw (.dK kvs)):TyOf K H (.ref a) (.type "dict")
 |dT {a:Addr} {kvs:List (List NK × V)} (e:H a=aw (.dT kvs)):TyOf K H (.ref a) (.type "dict")
 |ins {a C dx:Addr} {fs:List (Str × V)} (e:H a=aw (.ins C dx fs)) (cl:Cls K C) (ha:Vs K (.ref C) "__class__" = aw (aw (.builtin "object.__class__")))
   (hn:PySem.W.specialIn K (.builtin "object.__class__") "__get__" = aw (aw (.builtin "getset_descriptor.__get__"))) (htk:PySem.W.takesIn K (.builtin "object.__class__")=aw aN)
   (hm:PySem.W.mroIn K C (.type "object")=aw aN):TyOf K H (.ref a) (.ref C)
def yK(I:Inv X pins σ H s)(d:aB x u)(ty:TyOf X.K H x t)(e:VA X.K t c=aw b)(h:∀T,Q (.bool b) { s with toks:=T }) :
  wpAny (model X.prog X.w) A (call (.builtin "isinstance") [u,c]) Q E s:=by
 cases ty with
 |non=>cases (show u=Value.none from d);exact Vz PySem.W.kitx_none I.kIn True.intro e (λz=>nomatch z) h
 |bl y=>cases (show u=Value.bool y from d);exact Vz PySem.W.kitx_bool I.kIn True.intro e (λz=>nomatch z) h
 |int i=>obtain⟨t,q⟩:=(show ∃t,u=Value.int i t from d);cases q;exact Vz PySem.W.kitx_int I.kIn True.intro e (λz=>nomatch z) h
 |str y=>obtain⟨t,q⟩:=(show ∃t,u=Value.str y t from d);cases q;exact Vz PySem.W.kitx_str I.kIn True.intro e (λz=>nomatch z) h
 |flt y=>obtain⟨t,q⟩:=(show ∃t,u=Value.float y t from d);cases q;exact Vz PySem.W.kitx_float I.kIn True.intro e (λz=>nomatch z) h
 |@lst a k ea=>
  cases (show u=Value.ref a from d);obtain⟨_,_,n,_,j⟩:=(show a9 X.prog X.w H s.heap a (.lst k) from I.hok a _ ea);exact Vz VC I.kIn ⟨_,j,rfl⟩ e (λz=>nomatch z) h
 |@frz a ob k ea=>
  cases (show u=Value.ref a from d);obtain⟨_,_,_,n,_,j⟩:=(show a9 X.prog X.w H s.heap a (.frz ob (.lst k)) from I.hok a _ ea);exact Vz VC I.kIn ⟨_,j,rfl⟩ e (λz=>nomatch z) h
 |@tup a k ea=>
  cases (show u=Value.ref a from d);obtain⟨_,_,_,p⟩:=(show a9 X.prog X.w H s.heap a (.tup k) from I.hok a _ ea);obtain⟨o,j,l,_⟩:=p;exact Vz PySem.W.kitx_tuple I.kIn ⟨o,j,l⟩ e (λz=>nomatch z) h
 |@dK a kvs ea=>
  cases (show u=Value.ref a from d);obtain⟨_,_,Y,_,p⟩:=(show a9 X.prog X.w H s.heap a (.dK kvs) from I.hok a _ ea);obtain⟨o,v,B,j,l,_⟩:=p;exact Vz VB I.kIn ⟨o,j,l.1⟩ e (λz=>nomatch z) h
 |@dT a kvs ea=>
  cases (show u=Value.ref a from d);obtain⟨_,_,k,_,o,v,B,j,l,_⟩:=(show a9 X.prog X.w H s.heap a (.dT kvs) from I.hok a _ ea);exact Vz VB I.kIn ⟨o,j,l.1⟩ e (λz=>nomatch z) h
 |@ins a C dx fs ea cl ha hn htk hm=>
  cases (show u=Value.ref a from d);obtain⟨U,O,_⟩:=EI I.hok ea;obtain⟨L,J,_⟩:=O.look;exact Vz (PySem.W.kitx_own (cl.get _) cl.hd ha hn htk hm) I.kIn J e (λz=>nomatch z) h
end
structure Room(k:Nat)(A:Around):Prop where
 hd:A.handled=aD
 dp:A.depth+3 * k+5 < recursionLimit
 un:A.units+16 * k+200 < cLine
 gd:A.guards=aw []
def Room.deeper{k:Nat}(r:Room (k+1) A)(env:Env):Room k (A.deeper env):=
 ⟨r.hd,by have:=r.dp;show A.depth+1+3 * k+5 < _;lia,by have:=r.un;show A.units+3+16 * k+200 < _;lia,r.gd⟩
def Room.in1{k:Nat}(r:Room (k+1) A):Room k A.in1:=
 ⟨r.hd,by have:=r.dp;show A.depth+3 * k+5 < _;lia,by have:=r.un;show A.units+1+16 * k+200 < _;lia,r.gd⟩
def Room.depth{k:Nat}(r:Room k A):A.depth < recursionLimit:=by have:=r.dp;lia
def Room.units{k:Nat}(r:Room k A):A.units+64 < cLine:=by have:=r.un;lia
def Room.units0{k:Nat}(r:Room k A):A.units < cLine:=by have:=r.un;lia
abbrev jh:TA:=λ_ H Q=>Q [] H
abbrev cf(T:TE)(tr:TA):TA:=λb H Q=>T b H λx c=>tr b c λX d=>Q (x::X) d
section
variable {X:Cx} {e:Expr} {es:List Expr} {te:TE} {t:TA} {pos:Pos}
def pG:PA X [] jh:=λ_ _ _ _ H Q I h=>Calls.spliced_nil ⟨[],H,I,.nil,h⟩
def kF(q:PE X e te)(j:PA X es t)(hs:Uv (e::es) X.env=(aS,eval e X.env)::Uv es X.env:=by rfl):PA X (e::es) (cf te t):=by
 intro pos b s c H Q I h;rw[hs];show wpAny _ _ (spliced ((aS,eval e X.env)::backTo pos (Uv es X.env))) _ _ s;refine Calls.spliced_cons (thn (q b s c H _ I h) λu v ⟨x,d,k,r1,y⟩=>?_);exact thn (j pos b v c d _ k y) λU J ⟨B,l,C,r2,z⟩=>⟨x::B,l,C,.cons r1 r2,z⟩
abbrev Kq(t:TA):TE:=λd H Q=>t d H λc b=>c.length<=sizeLine/\∀p,b p=aD->Q (.ref p) (upd b p (.tup c))
abbrev Pn(t:TA):TE:=λd H Q=>t d H λc b=>c.length<=sizeLine/\∀p,b p=aD->Q (.ref p) (upd b p (.lst c))
def AH{B}(h:PA X es t):PE X (.Tuple es B pos) (Kq t):=by
 intro c s y H Q I v;refine wpAny_Tuple_spliced (thn (h pos c s y H _ I v) λU d ⟨l,j,k,r,z,q⟩=>⟨by rw[<-r.length];exact z,?_⟩);have C:j d.heap.objs.size=aD:=k.hok.fresh (Zj _);refine⟨.ref d.heap.objs.size,upd j d.heap.objs.size (.tup l),k.laid (t':=d.toks) (λb u e=>Zd _ e) (Zj _) ?_,rfl,q _ C⟩;exact⟨z,U,r,pE.new _ _⟩
def Kr(h:PA X es t):PE X (.List es pos) (Pn t):=by
 intro c s y H Q I v;refine wpAny_List_spliced (thn (h pos c s y H _ I v) λU d ⟨l,j,k,r,z,q⟩=>⟨by rw[<-r.length];exact z,?_⟩);have B:j d.heap.objs.size=aD:=k.hok.fresh (Zj _);refine⟨.ref d.heap.objs.size,upd j d.heap.objs.size (.lst l),k.laid (t':=d.toks) (λb u e=>Zd _ e) (Zj _) ?_,rfl,q _ B⟩;exact⟨z,U,0,r,Zu _ rfl⟩
end
@[inline]abbrev Sp:=List V->Hp->VK->XK->Prop
@[inline]abbrev CXT:=List Env->Hp->Shared->XK->Value->Shared->Prop
structure Env0(P:Program)(w:World)(K:Vp)(mg:Str->Option Value)(base:Heap)(A:Around)(outer:List Env)(s:Shared)(H:Hp):Prop where
 frames:A.frames=aw outer
 mod:Mod K mg base
 bs:∀b o,base.get? b=aw o->s.heap.get? b=aw o/\H b=aD
 bsz:base.objs.size<=s.heap.objs.size
 funs:s.heap.FunFrames base outer
 frf:∀b ∈ frs outer,H b=aD
 hok:HOk P w H s.heap
 bare:AllBare s.gens
abbrev CE(outer:List Env)(P:Program)(w:World)(H:Hp)(s:Shared)(Q:VK)(u:Value)(b:Shared):Prop:=
 ∃v c,b.os=s.os/\AllBare b.gens/\Un (frs outer) [] H c s.heap b.heap/\HOk P w c b.heap/\aB v u/\Q v c
abbrev CR(C:CXT)(outer:List Env)(P:Program)(w:World)(H:Hp)(s:Shared)(Q:VK)(E:XK)(r:Result)(b:Shared):Prop:=
 match r with
 |.ok (.ret u)=>CE outer P w H s Q u b
 |.ok _=>False
 |.error e=>C outer H s E e b
structure FnOk(P:Program)(w:World)(K:Vp)(mg:Str->Option Value)(base:Heap)(CX:CXT)(k:Nat)(f:Addr)(fd:Ve)(ps:List Str)(sp:Sp):Prop where
 len:∀vs H Q E,sp vs H Q E->vs.length=ps.length
 run:∀ (A:Around) (outer:List Env) (s:Shared) (H:Hp) (args:Args) (us:List Value) (vs:List V) (Q:VK) (E:XK),Room k A->Env0 P w K mg base A outer s H->BindsTo s fd args (ps.zip us)->aM vs us->sp vs H Q E ->
  codeAny (model P w) A (.call (.ref f) args) (CR CX outer P w H s Q E) s
def Env0.in1{P:Program}{w:World}{K:Vp}{mg:Str->Option Value}{base:Heap}{A:Around}{outer:List Env}{s:Shared}{H:Hp}(e:Env0 P w K mg base A outer s H) :
  Env0 P w K mg base A.in1 outer s H:=⟨e.frames,e.mod,e.bs,e.bsz,e.funs,e.frf,e.hok,e.bare⟩
section
variable {X:Cx} {pins:List (Addr × Obj)} {σ:St} {H:Hp} {s s':Shared}
def Inv.env0(I:Inv X pins σ H s):Env0 X.prog X.w X.K X.mg X.base X.A X.stack s H:=
 ⟨I.ok.frames,I.ok.mod,I.bs,ZX I.ok.bsz I.sz,I.stack,I.stkFree,I.hok,I.bare⟩
def Inv.after(I:Inv X pins σ H s)(h:CE X.stack X.prog X.w H s Q u s'):EP X pins σ Q u s':=by
 obtain⟨v,c,os,bare,un,hok,r,q⟩:=h;obtain⟨j,g,d,t,O⟩:=s';obtain rfl:O=s.os:=os;exact⟨v,c,I.call (h':=j) (g':=g) (d':=d) (t':=t) (ch:=[]) un hok bare (λb z=>absurd z (by simp)),r,q⟩
end
abbrev IU(c:Sp)(d:List V)(E:XK)(t:TA):TE:=λj H Q=>t j H λv b=>c (v++d) b Q E
abbrev nR(K:Vp)(b:Ve)(ps:List Str)(d:List Value):Prop:=
 ∀ (s:Shared) (u:List Value),K.In s.heap->(u++d).length=ps.length->BindsTo s b ⟨u,[]⟩ (ps.zip (u++d))
def nR.all{K:Vp}{b:Ve}{ps:List Str}(h:∀u:List Value,u.length=ps.length->VP b ⟨u,[]⟩=pure (ps.zip u)):nR K b ps []:=λs u _ c=>by
 rw[Z0] at c ⊢;exact .of_eq (h u c)
abbrev uM(C:CXT)(X:Cx)(E:XK):Prop:=∀ (b:List (Addr × Obj)) (d:St) (H:Hp) (s:Shared) (e:Value) (c:Shared),Inv X b d H s->C X.stack H s E e c->X.xe e c
section
variable {X:Cx} {CX:CXT} {k:Nat} {f C:Addr} {fd:Ve} {ps:List Str} {sp:Sp} {dvs:List V} {ds:List Value} {E:XK} {x m:Str} {p pos apos:Pos} {e o:Expr} {es:List Expr} {ta:TE} {t:TA}
def Ks(F:FnOk X.prog X.w X.K X.mg X.base CX k f fd ps sp)(j:Room k X.A)(hb:nR X.K fd ps ds)(hd:aM dvs ds)(y:uM CX X E)
  (I:Inv X b d H s) (r:aM v U) (h:sp (v++dvs) H Q E):wpAny (model X.prog X.w) X.A (call (.ref f) U) (EP X b d Q) X.xe s:=by
 have r2:aM (v++dvs) (U++ds):=r.append hd;have z:(U++ds).length=ps.length:=by rw[<-r2.length];exact F.len _ _ _ _ h
 refine wpAny_call (V0 (F.run X.A X.stack s H ⟨U,[]⟩ (U++ds) (v++dvs) Q E j I.env0 (hb s U I.kIn z) r2 h) λr q c=>?_);cases r with
 |error e=>exact y b d H s e q I c
 |ok l=>
  cases l with
  |ret u=>exact I.after c
  |next=>exact False.elim c
  |brk=>exact False.elim c
  |cont=>exact False.elim c
def EJ(F:FnOk X.prog X.w X.K X.mg X.base CX k f fd ps sp)(J:Room k X.A)(z:Gl X x)(y:X.mg x=aw (.ref f))(v:Vy X.K (.ref f)=aN)(hb:nR X.K fd ps ds)(hd:aM dvs ds)(B:uM CX X E)
  (l:PA X (e::es) t) (d:(x == ("__debug__" : Str))=aS:=by decide) (L:Uv (e::es) X.env=(aS,eval e X.env)::Uv es X.env:=by rfl) (c:(backTo pos (Uv es X.env)).any (·.1)=aS:=by rfl) :
  PE X (.Call (.Name x p) (e::es) [] pos) (IU sp dvs E t):=by
 intro b s u H Q I h;refine UB (wU I z y ?_ d);refine PySem.W.callWith_K (h₀:=X.base) I.ok.mod.kin v (thn (l pos b s u H _ I h) λU T ⟨Y,O,j,r,q⟩=>⟨j.kIn,?_⟩) L c;exact Ks F J hb hd B j r q
end
abbrev PK(X:Cx)(k:List Keyword)(t:TA):Prop:=
 ∀ (c:Pos) (b:List (Addr × Obj)) (s:Shared) (d:St) (H:Hp) (Q:List V->Hp->Prop),Inv X b d H s->t d H Q->wpAny (model X.prog X.w) X.A (evalAll ((VM c (Ub k X.env)).map (·.2))) (AP X b d Q) X.xe s
section
variable {X:Cx} {CX:CXT} {k:Nat} {f C:Addr} {fd:Ve} {ps ks:List Str} {sp:Sp} {E:XK} {x m:Str} {p pos apos kpos:Pos} {e o:Expr} {es:List Expr} {kws:List Keyword} {te ta:TE} {t tk:TA} {nm:Option Str}
def AI:PK X [] jh:=λ_ _ _ _ H Q I h=>wpAny_evalAll_nil ⟨[],H,I,.nil,h⟩
def wX(y:PE X e te)(j:PK X kws t):PK X (⟨nm,e,kpos⟩::kws) (cf te t):=by
 intro pos b s c H Q I h;show wpAny _ _ (evalAll ((do let v <-eval e X.env;standAt pos;pure v)::(VM pos (Ub kws X.env)).map (·.2))) _ _ s;refine wpAny_evalAll_cons (UC (thn (y b s c H _ I h) λu z ⟨x,d,l,r1,J⟩=>UC (U1 (US ?_))));exact thn (j pos b z c d _ l J) λU T ⟨O,q,L,r2,B⟩=>⟨x::O,q,L,.cons r1 r2,B⟩
variable {g:List Value->List Value->List Value} {gV:List V->List V->List V}
end
structure FnScope(N P:List Str)(sc:Scope):Prop where
 kind:sc.kind = .function
 co:sc.isCoroutine=aS
 gen:sc.isGenerator=aS
 nd:N.Nodup
 pre:N.take P.length=P
 par:∀x ∈ P,sc.names.lookup x=aw .local\/sc.names.lookup x=aw .cell
 nofree:∀y ∈ sc.names,y.2 ≠ .free
def nS{kindOf:Str->Option Vg}{x:Str}:∀ {binds:List (Str × Value)} {m:Str->Option Value},(∀v,(x,v) ∉ binds)->bindL kindOf binds m x=m x
 |[],_,_=>rfl
 |(n,v)::r,m,h=>by
  unfold bindL;rw[nS λw b=>h w (Ze _ b)];split
  ·have:x ≠ n:=by rintro rfl;exact h v Zi
   simp[this]
  ·rfl
def nU{kindOf:Str->Option Vg}{x:Str}:∀ {binds:List (Str × Value)} {m:Str->Option Value},(∀v,(x,v) ∉ binds)->bindC kindOf binds m x=m x
 |[],_,_=>rfl
 |(n,v)::r,m,h=>by
  unfold bindC;rw[nU λw b=>h w (Ze _ b)];split
  ·rfl
  ·have:x ≠ n:=by rintro rfl;exact h v Zi
   simp[this]
def nV{kindOf:Str->Option Vg}{x:Str}{v:Value}:∀ {P:List Str} {b:List Value} {i:Nat} {m:Str->Option Value},P.Nodup->P[i]?=aw x->b[i]?=aw v->kindOf x=aw .local ->
  bindL kindOf (P.zip b) m x=aw v
 |[],_,_,_,_,h,_,_=>by simp at h
 |_::_,[],_,_,_,_,h,_=>by simp at h
 |p::P,w::b,0,m,nd,h1,h2,hk=>by
  simp at h1 h2;subst h1;subst h2;show bindL kindOf ((p,w)::P.zip b) m p=_;unfold bindL;rw[nS λv c=>(Z1.mp nd).1 (Xn c).1,if_pos hk];simp
 |p::P,w::b,i+1,m,nd,h1,h2,hk=>by
  show bindL kindOf ((p,w)::P.zip b) m x=_;unfold bindL;exact nV (i:=i) (Z1.mp nd).2 (by simpa using h1) (by simpa using h2) hk
def nW{kindOf:Str->Option Vg}{x:Str}{v:Value}:∀ {P:List Str} {b:List Value} {i:Nat} {m:Str->Option Value},P.Nodup->P[i]?=aw x->b[i]?=aw v->kindOf x ≠ aw .local ->
  bindC kindOf (P.zip b) m x=aw v
 |[],_,_,_,_,h,_,_=>by simp at h
 |_::_,[],_,_,_,_,h,_=>by simp at h
 |p::P,w::b,0,m,nd,h1,h2,hk=>by
  simp at h1 h2;subst h1;subst h2;show bindC kindOf ((p,w)::P.zip b) m p=_;unfold bindC;rw[nU λv c=>(Z1.mp nd).1 (Xn c).1,if_neg hk];simp
 |p::P,w::b,i+1,m,nd,h1,h2,hk=>by
  show bindC kindOf ((p,w)::P.zip b) m x=_;unfold bindC;exact nW (i:=i) (Z1.mp nd).2 (by simpa using h1) (by simpa using h2) hk
abbrev dY(N:List Str)(v:List V):St:=v.map aw++ZN (N.length - v.length) aD
abbrev iB(C:CXT)(P:Program)(w:World)(K:Vp)(mg:Str->Option Value)(base:Heap)(N:List Str)(q:Str)(b:Scope)(f:Addr)(cd:Value)(A:Around)(outer:List Env)(s:Shared)(H:Hp)(E:XK):Cx where
 prog:=P
 w:=w
 K:=K
 mg:=mg
 base:=base
 A:=A.deeper (envOfC q b s.heap.objs.size f cd)
 N:=N
 s₀:=s
 H₀:=H
 env:=envOfC q b s.heap.objs.size f cd
 outer:=outer
 stack:=envOfC q b s.heap.objs.size f cd::outer
 ex:=[]
 calm:=true
 fn:=λ_=>aN
 pn:=[]
 xe:=λe j=>wpAny (model P w) (A.deeper (envOfC q b s.heap.objs.size f cd)) (leaving (envOfC q b s.heap.objs.size f cd) e) (λ_ c=>C outer H s E e c) (λd c=>C outer H s E d c) j
def rQ{sc:Scope}{n:Nat}{x:Str}(h:sc.names.lookup x=aw .cell):∃c,(VW n sc.names []).lookup x=aw c:=by
 have q:=Vq sc.names n [] (.inl h);exact Yg.mp q
def nX{T:CXT}{P:Program}{w:World}{K:Vp}{mg:Str->Option Value}{base:Heap}{N ps:List Str}{Q:Str}{d:Scope}{f:Addr}{cd:Value}{A:Around}{outer:List Env}{s s1:Shared}{H:Hp}{E:XK}{U:List Value}{B:List V}
  (S:FnScope N ps d) (hd:A.handled=aD) (l:Env0 P w K mg base A outer s H) (hl:B.length=ps.length) (r:aM B U)
  (x:InCallC s s.heap.objs.size (bindL (envOfC Q d s.heap.objs.size f cd).kindOf (ps.zip U) λ_=>aD) (VW (s.heap.objs.size+1) d.names []) (bindC (envOfC Q d s.heap.objs.size f cd).kindOf (ps.zip U) λ_=>aD) s1) :
  Inv (iB T P w K mg base N Q d f cd A outer s H E) [] (dY N B) H s1:=by
 have Z:ps.length<=N.length:=by have:=congrArg Zw S.pre;rw[Yo] at this;lia
 obtain⟨L,tk,rfl,O⟩:=x.done;have C:∀b:Addr,b ∉ (iB T P w K mg base N Q d f cd A outer s H E).ex:=λb z=>absurd (show b ∈ ([]:List Addr) from z) (by simp)
 refine⟨⟨l.mod,S.kind,rfl,rfl,Zj _,λy z c L j=>?_,λy hy=>?_,λy c _ h=>?_,λ_=>hd,Around.frames_deeper l.frames,.inr ⟨rfl,rfl⟩,λb z=>absurd z (C b),l.bs,l.bsz,λb _ _=>C b,λb z=>absurd z (C b),l.funs,l.frf⟩,
  rfl,l.bare,Un.kept O,⟨_,x.toInCall.ns,λi y v L j h3=>?_⟩,λy c h=>⟨_,x.cell y c h⟩,l.hok.fresh (Zj _),λy c h=>?_,λp J=>absurd (show p ∈ ([]:List (Addr × Obj)) from J) (by simp),l.hok.kept O,?_⟩
 ·exact name_of_addr x.apart (Ue L) (Ue j)
 ·have hy:d.names.lookup y=aw .cell\/d.names.lookup y=aw .free:=hy;rcases hy with hy |hy
  ·exact rQ hy
  ·exact absurd rfl (S.nofree _ (Ue hy))
 ·exact Y4 (x.above y c (Ue h))
 ·have hi:i < B.length:=by
   unfold dY at j;by_cases hi:i < B.length
   ·exact hi
   ·rw[Zp (by simpa using hi)] at j;rw[Yy] at j;split at j <;> cases j
  have Y:B[i]?=aw v:=by
   unfold dY at j;rw[Zv (by simpa using hi),Zl] at j;cases e:B[i]? with
   |none=>rw[e] at j;cases j
   |some a=>rw[e] at j;cases j;rfl
  obtain⟨u,X,rv⟩:=r.get Y
  have J:ps[i]?=aw y:=by
   rw[<-S.pre,XB (by lia)];exact L
  have I:ps.Nodup:=by rw[<-S.pre];exact S.nd.sublist (List.take_sublist _ _)
  refine⟨u,rv,?_⟩;rcases S.par y (Zc J) with k |k
  ·exact .inl ⟨k,nV I J X k⟩
  ·obtain⟨c,e⟩:=rQ (n:=s.heap.objs.size+1) k;refine .inr ⟨.inl k,c,e,?_⟩;have q:=x.cell y c e;rw[nW I J X (by show d.names.lookup y ≠ _;rw[k];decide)] at q;exact q
 ·exact l.hok.fresh (Y4 (x.above y c (Ue h)))
 ·unfold dY;show _=N.length;rw[Zf,Za,XM]
  lia
def IV{Z:CXT}{P:Program}{w:World}{K:Vp}{mg:Str->Option Value}{base:Heap}{k:Nat}{f:Addr}{name d:Str}{j:WO}{body:List Stmt}{c:Scope}{dV kV U pm C ct oc:Value}{an od:Option Addr}
  {osl:Array (Option Value)} {N ps:List Str} {sp:Sp} (lk:K.lookup f=aw ⟨oc,od,.func (Vt name d j body c dV kV U pm an C ct),osl⟩) (hcd:Vr K C d=aN) (S:FnScope N ps c)
  (len:∀z H Q E,sp z H Q E->z.length=ps.length)
  (L:∀ (A:Around) (outer:List Env) (s:Shared) (H:Hp) (z:List V) (Q:VK) (E:XK),Room k (A.deeper (envOfC d c s.heap.objs.size f C))->sp z H Q E ->
   ∃t,PSs (iB Z P w K mg base N d c f C A outer s H E) body t/\t { nx:=λ_ B=>Q .non B,rt:=Q } (dY N z) H) :
  FnOk P w K mg base Z (k+1) f (Vt name d j body c dV kV U pm an C ct) ps sp:=by
 refine⟨len,λA outer s H args us z Q E hr T hb r X=>?_⟩;have hl:=len _ _ _ _ X;have KX:K.In s.heap:=T.mod.kin.keeps λb o e=>(T.bs b o e).1;have lim:s.heap.NoLimit:=T.mod.nolimit.keeps λb o e=>(T.bs b o e).1
 have O:∀y ∈ ps.zip us,c.names.lookup y.1=aw .local\/(c.names.lookup y.1=aw .cell/\((VW (s.heap.objs.size+1) c.names []).lookup y.1).isSome=aN):=λ⟨n,v⟩ hy=>by
  rcases S.par n (Xn hy).1 with q |q
  ·exact .inl q
  ·exact .inr ⟨q,Vq _ _ _ (.inl q)⟩
 refine codeAny_call_function hr.depth (KX _ _ lk) rfl S.co S.gen rfl (PySem.W.codeRec_of KX hcd) (hb _ _ _ _ ?_);refine UN S.kind O λenv he s1 x=>?_;subst he;refine⟨lim.keeps x.toInCall.keep,codeAny_func ?_⟩;obtain⟨t,ht,hq⟩:=L A outer s H z Q E (hr.deeper _) X;have I:Inv (iB Z P w K mg base N d c f C A outer s H E) [] (dY N z) H s1:=nX S hr.hd T hl r x;refine UM (ht [] s1 (dY N z) H _ I hq) (λfl s' hs=>?_) λe s' hs=>hs
 have Y:∀ {l:St} {B:Hp} {v:V} {u:Value},Inv (iB Z P w K mg base N d c f C A outer s H E) [] l B s'->aB v u->Q v B->CE outer P w H s Q u s':=
  λ{l B v u} J rv q=>⟨v,B,J.os,J.bare,J.base,J.hok,rv,q⟩
 cases fl with
 |ret u=>
  obtain⟨v,l,B,J,rv,q⟩:=hs;exact Y J rv q
 |next=>
  obtain⟨l,B,J,q⟩:=hs;exact Y (v:=V.non) (u:=Value.none) J rfl q
 |brk=>
  obtain⟨_,_,_,q⟩:=hs;exact False.elim q
 |cont=>
  obtain⟨_,_,_,q⟩:=hs;exact False.elim q
section
variable {X:Cx} {x:Str} {p pos:Pos} {e:Expr} {es:List Expr} {t:TA} {id T:String} {r:List V->Hp->VK->Prop}
abbrev tCB(r:List V->Hp->VK->Prop)(t:TA):TE:=λc H Q=>t c H λv b=>r v b Q
def fI(hc:aX X (.builtin id) r)(l:Gl X x)(q:X.mg x=aD)(J:VR x=aw (.builtin id))(u:PA X (e::es) t)(C:x ≠ "__name__" := by decide)(d:(x == ("__debug__" : Str))=aS:=by decide)
  (y:Uv (e::es) X.env=(aS,eval e X.env)::Uv es X.env:=by rfl) (c:(backTo pos (Uv es X.env)).any (·.1)=aS:=by rfl):PE X (.Call (.Name x p) (e::es) [] pos) (tCB r t):=by
 intro b s j H Q I h;refine UB (eP I l q J ?_ C d);exact PyProof.Rows.callWith_builtin1 (thn (u pos b s j H _ I h) λU z ⟨L,k,v,r1,B⟩=>hc b z j k L U Q v r1 B) y c
def dZ(hc:aX X (.type T) r)(l:Gl X x)(q:X.mg x=aD)(J:VR x=aw (.type T))(u:PA X (e::es) t)(C:x ≠ "__name__" := by decide)(d:(x == ("__debug__" : Str))=aS:=by decide)
  (y:Uv (e::es) X.env=(aS,eval e X.env)::Uv es X.env:=by rfl) (c:(backTo pos (Uv es X.env)).any (·.1)=aS:=by rfl):PE X (.Call (.Name x p) (e::es) [] pos) (tCB r t):=by
 intro b s j H Q I h;refine UB (eP I l q J ?_ C d);exact WM (thn (u pos b s j H _ I h) λU z ⟨L,k,v,r1,B⟩=>hc b z j k L U Q v r1 B) y c
end
end L2
namespace HT
open PySem PyProof.Rows
abbrev c6:List Int->List Int->Bool
 |[],[]=>aS
 |[],_::_=>aN
 |_::_,[]=>aS
 |x::xs,y::ys=>if x=y then c6 xs ys else decide (x < y)
def k6(x y:Int)(xs Y:List Int):c6 (x::xs) (y::Y)=if x=y then c6 xs Y else decide (x < y):=rfl
def nh:c6 [] []=aS:=rfl
def k8(y:Int)(Y:List Int):c6 [] (y::Y)=aN:=rfl
def k9(x:Int)(xs:List Int):c6 (x::xs) []=aS:=rfl
def rR(A:Around)(s:Shared)(a:Int)(t:Tok)(c:Int)(u:Tok):∃e,Vi A s (.int a t) (.int c u) e/\(e=aN ↔ a=c):=
 ⟨(a == c),SeqAt.EqAt.int_int a t c u,by simp⟩
def rV(A:Around)(s:Shared)(a:Int)(t:Tok)(c:Int)(u:Tok)(prog:Program)(w:World)(E:Value->Shared->Prop)(Q:Value->Shared->Prop)(h:Q (.bool (decide (a < c))) s) :
  wpAny (model prog w) A (Um .Lt (.int a t) (.int c u)) Q E s:=
 (PyProof.Rows.lt_int h:wpAny (model prog w) A (V1 .Lt (.int a t) (.int c u)) Q E s)
section
open PySem.SeqAt
open PySem.AutoSeq1 (wpAny_loadPart')
open PySem.MeetsSeq PySem.MeetsSeq2 PySem.MeetsSeq3
def ni(l b:Addr)(j I:Array Value)(n n2:Nat)(dd dd2:Option Addr)(sl sl2:Array (Option Value))(ns ms:List Int)(hi:IntsAre j.toList ns)(hj:IntsAre I.toList ms) :
  Meets (Builtin.«tuple.__lt__» ⟨[.ref l,.ref b],[]⟩)
   (λ_ R s=>s.heap.get? l=aw { cls:=.type "tuple", dict:=dd,data:=.seq j n,slots:=sl }/\s.heap.get? b=aw { cls:=.type "tuple", dict:=dd2,data:=.seq I n2,slots:=sl2 } ∧
    R (.ok (.ret (.bool (c6 ns ms)))) s):=
 .of_wp λprog w A R s h=>by
  obtain⟨Y,g,d,Z,os⟩:=s;obtain⟨hl,hb,h⟩:=h;have f2:=AutoSeq1.sub_tuple_tuple;have z1:j.size=ns.length:=by rw[<-hi.length];simp
  have z2:I.size=ms.length:=by rw[<-hj.length];simp
  wp_walk using UL hl,UL hb,UH _ (λL b s'=>b.1=aD/\s'=⟨Y,g,d,Z,os⟩/\∃ (vs ws:List Value) (v z:List Int),L=vs.zip ws ∧
   IntsAre vs v/\IntsAre ws z/\v.length+I.size=z.length+j.size/\R (.ok (.ret (.bool (c6 v z)))) ⟨Y,g,d,Z,os⟩) _
  case turn=>
   rintro⟨y,x⟩ L b s' ⟨Q,rfl,vs,ws,v,z,B,T,C,k,O⟩;cases T with
   |nil=>rw[List.zip_nil_left] at B;cases B
   |cons a t U=>
    cases C with
    |nil=>rw[List.zip_nil_right] at B;cases B
    |cons c u X=>
     rw[Yj] at B;injection B with hyx hrest;injection hyx with hy hx;subst hy hx;rw[k6] at O;simp only[Zo] at k;obtain⟨e,he,J⟩:=rR A.in1 ⟨Y,g,d,Z,os⟩ a t c u;refine UC (he prog w _ _ ?_);cases e with
     |true=>
      rw[if_pos (J.mp rfl)] at O
      wp_walk
      exact⟨rfl,rfl,_,_,_,_,hrest,U,X,by lia,O⟩
     |false=>
      rw[if_neg (λq=>absurd (J.mpr q) Zh)] at O;have hri:=rV A.in1 ⟨Y,g,d,Z,os⟩ a t c u prog w
      wp_walk using hri
      exact⟨_,rfl,by simpa using O⟩
  case fin=>
   rintro⟨b1,b2⟩ s' ⟨Q,rfl,vs,ws,v,z,B,T,C,k,O⟩;simp only at Q;subst Q
   have hv:c6 v z=decide (j.size < I.size):=by
    cases T with
    |nil=>
     cases C with
     |nil=>
      simp only[Z3] at k;rw[nh];exact(decide_eq_false (by lia)).symm
     |cons c u hw=>
      simp only[Z3,Zo] at k;rw[k8];exact(decide_eq_true (by lia)).symm
    |cons a t hv=>
     cases C with
     |nil=>
      simp only[Z3,Zo] at k;rw[k9];exact(decide_eq_false (by lia)).symm
     |cons c u hw=>
      rw[Yj] at B;cases B
   rw[hv] at O
   wp_walk
   exact⟨_,rfl,by simpa[Builtin.Tuple.tupleCompareSizes] using O⟩
  case h=>
   exact⟨rfl,rfl,j.toList,I.toList,ns,ms,rfl,hi,hj,by lia,h⟩
end
section
variable {prog:Program} {w:World} {A:Around} {E:Value->Shared->Prop} {s:Shared}
def lc(hl:IsTup s.heap l c)(hb:IsTup s.heap b I)(hi:IntsAre c.toList ns)(J:IntsAre I.toList q)
  (U:A.units < cLine) (h:Q (.bool (c6 ns q)) s):wpAny (model prog w) A (V1 .Lt (.ref l) (.ref b)) Q E s:=by
 obtain⟨⟨T,O,z,sl⟩,y,B,n,hd⟩:=id hl;obtain⟨⟨C,v,data2,u⟩,d,k,L,j⟩:=id hb;simp only at B hd k j;subst B hd k j
 exact Uo (op:=.Lt) ⟨_,y,rfl⟩ ⟨_,d,rfl⟩ Vc W1 (WX _ _) (ni l b c I n L O v sl u ns q hi J)
  ⟨y,d,show Value.bool (c6 ns q) ≠ Value.notImplemented/\Q (.bool (c6 ns q)) s from ⟨(λx=>nomatch x),h⟩⟩ U
def EK(O:IsTup s.heap t v.toArray)(hb:IsTup s.heap b d.toArray)(B:v ≠ [])
  (T:d=[]->Q (.ref t) s) (U:d ≠ []->Q (.ref s.heap.objs.size) { s with heap:=s.heap.push { cls:=.type "tuple", data:=.seq (v++d).toArray } })
  (z:v.length+d.length<=sizeLine):wpAny (model prog w) A (VO .Add (.ref t) (.ref b)) Q E s:=by
 obtain⟨⟨cls,L,data,sl⟩,y,J,n,hd⟩:=id O;obtain⟨⟨C,q,data2,j⟩,c,l,I,k⟩:=id hb;simp only at J hd l k;subst J hd l k;have e:v.toArray++d.toArray=(v++d).toArray:=by simp
 by_cases u:d=[]
 ·exact V2 ⟨_,y,rfl⟩ ⟨_,c,rfl⟩ Ug Us W8 WZ (WV _ _)
   (tuple_addW1 t b v.toArray d.toArray n I L q sl j (by simpa using B) (by simp[u])) ⟨y,c,T u⟩
 ·refine V2 ⟨_,y,rfl⟩ ⟨_,c,rfl⟩ Ug Us W8 WZ (WV _ _)
   (tuple_addW2 t b v.toArray d.toArray n I L q sl j (by simpa using B) (by simpa using u) (by rw[Zk,Zk];exact z)) ⟨y,c,?_⟩
  rw[e];exact U u
abbrev sIx(n d:Nat):Option Int->Nat
 |none=>d
 |some v=>if v < 0 then (v+(n:Int)).toNat else min v.toNat n
def Kt(n d:Nat)(hd:d<=n)(o:Option Int):sIx n d o<=n:=by
 cases o with
 |none=>exact hd
 |some v=>
  show(if v < 0 then (v+(n:Int)).toNat else min v.toNat n)<=n;by_cases b:v < 0
  ·rw[if_pos b];lia
  ·rw[if_neg b];exact Nat.min_le_right _ _
def wY(v:Int)(n d:Nat):(if v < 0 then max (v+(n:Int)) 0 else min v (n:Int))=((sIx n d (aw v):Nat):Int):=by
 show(if v < 0 then max (v+(n:Int)) 0 else min v (n:Int))=(((if v < 0 then (v+(n:Int)).toNat else min v.toNat n):Nat):Int);by_cases b:v < 0
 ·simp only[if_pos b];lia
 ·simp only[if_neg b];lia
def uN(lo hi:Option Int)(n:Nat):Builtin.Slice.sliceAdjust lo hi 1 (n:Int)=(((sIx n 0 lo:Nat):Int),((sIx n n hi:Nat):Int)):=by
 have b:¬ ((1:Int) < 0):=by lia
 unfold Builtin.Slice.sliceAdjust;simp only[b,if_false];refine Prod.ext ?_ ?_
 ·cases lo with
  |none=>rfl
  |some v=>exact wY v n 0
 ·cases hi with
  |none=>rfl
  |some v=>exact wY v n n
def uO(i j:Nat):Builtin.Slice.slicePlaces (i:Int) (j:Int) 1=j - i:=by
 unfold Builtin.Slice.slicePlaces;have b:(1:Int) > 0:=by lia
 simp only[b,if_true,Wz];split <;> lia
def lh(p:IsPart v o)(h:Q o s):wpAny (model prog w) A (Builtin.Slice.slicePartIndex v) Q E s:=by
 cases p with
 |none=>exact slicePart_none h
 |int i t=>exact slicePart_int h
def ei{sl:Addr}{d v:Value}{lo hi:Option Int}{n:Nat}{Q:Int × Int × Nat->Shared->Prop}(hs:s.heap.IsSliceOf sl d v .none)(k:IsPart d lo)(l:IsPart v hi)
  (h:Q (((sIx n 0 lo:Nat):Int),1,sIx n n hi - sIx n 0 lo) s):wpAny (model prog w) A (Builtin.Slice.sliceApplied (.ref sl) (pure (n:Int))) Q E s:=by
 obtain⟨os,b,j,c⟩:=id hs;unfold Builtin.Slice.sliceApplied Builtin.Slice.sliceFields;refine UC (UC (UG b c (x:=d) rfl (UC (UG b c (x:=v) rfl (UC (UG b c (x:=.none) rfl (US ?_)))))));refine UC (slicePart_none ?_);show wpAny _ _ (if ((1:Int) == 0)=aN then _ else _) _ _ s;rw[if_neg (by decide)];refine UC (lh k (UC (lh l (UC (US ?_)))));show wpAny _ _ (match Builtin.Slice.sliceAdjust lo hi 1 (n:Int) with |(lo,hi)=>pure (lo,(1:Int),Builtin.Slice.slicePlaces lo hi 1)) _ _ s;rw[uN lo hi n];show wpAny _ _ (pure (((sIx n 0 lo:Nat):Int),(1:Int),Builtin.Slice.slicePlaces ((sIx n 0 lo:Nat):Int) ((sIx n n hi:Nat):Int) 1)) _ _ s;rw[uO];exact US h
def AJ(xs:Array Value)(i k:Nat):((Zg k).filterMap λ(m:Nat)=>xs[((i:Int)+(m:Int) * 1).toNat]?).toArray=((xs.toList.drop i).take k).toArray:=by
 have e:(λ(m:Nat)=>xs[((i:Int)+(m:Int) * 1).toNat]?)=λm=>xs[i+m]?:=by
  funext m
  have:((i:Int)+(m:Int) * 1).toNat=i+m:=by lia
  rw[this]
 rw[e];have:=pick_run xs i k;rw[X3] at this;have b:((λx=>xs[x]?) ∘ λx=>i+x)=λm=>xs[i+m]?:=rfl;rw[b] at this;rw[this]
def iC{t sl:Addr}{I:Array Value}{u v:Value}{lo hi:Option Int}{Q:Value->Shared->Prop}(c:IsTup s.heap t I)(hs:s.heap.IsSliceOf sl u v .none)(z:IsPart u lo)(C:IsPart v hi)
  (hw:¬ (sIx I.size 0 lo=0/\sIx I.size I.size hi=I.size))
  (h:Q (.ref s.heap.objs.size) { s with heap:=s.heap.push { cls:=.type "tuple", data:=.seq ((I.toList.drop (sIx I.size 0 lo)).take (sIx I.size I.size hi - sIx I.size 0 lo)).toArray } })
  (y:I.size<=sizeLine):wpAny (model prog w) A (getItem (.ref t) (.ref sl)) Q E s:=by
 have b:sizeOk (.seq ((I.toList.drop (sIx I.size 0 lo)).take (sIx I.size I.size hi - sIx I.size 0 lo)).toArray):=by
  show((I.toList.drop (sIx I.size 0 lo)).take (sIx I.size I.size hi - sIx I.size 0 lo)).toArray.size<=sizeLine;rw[Zk,Yo,Wc,Zt]
  lia
 have J:sIx I.size I.size hi<=I.size:=Kt _ _ (Zj _) hi;obtain⟨os,j,d,B⟩:=id hs;have k:s.TypeIs (.ref sl) "slice" := ⟨os,j,d⟩;unfold getItem
 try with_reducible refine UJ ?_
 first |refine UC (US ?_) |skip
 refine UC (UZ c.typeIs (by decide) ?_)
 refine UC (wpAny_callSpecial?_slot (name:=Str.ofString "__getitem__") c.typeIs WN
  (UD WN c.typeIs entry_tuple_getitem ?_ (args_tuple_getitem _ _)))
 show wpAny _ _ (Builtin.Tuple.tupleItemsOf (.ref t) >>= _) _ _ s;refine UC (tupleItemsOf_ c ?_);refine UC (U4 k ?_);rw[if_pos (by decide)];refine UC (ei hs z C ?_)
 have l:¬ ((((sIx I.size 0 lo:Nat):Int) == 0 && (1:Int) == 1 && (sIx I.size I.size hi - sIx I.size 0 lo) == I.size)=aN):=by
  intro q;rw[bAE,bAE] at q;have L:((sIx I.size 0 lo:Nat):Int)=0:=eq_of_beq q.1.1;have O:sIx I.size I.size hi - sIx I.size 0 lo=I.size:=eq_of_beq q.2;exact hw ⟨by lia,by lia⟩
 show wpAny _ _ (if (((sIx I.size 0 lo:Nat):Int) == 0 && (1:Int) == 1 && (sIx I.size I.size hi - sIx I.size 0 lo) == I.size)=aN then _ else _) _ _ s;rw[if_neg l,AJ]
 first
  |exact UC (m:=Builtin.Tuple.tupleExact _) (UP (US ⟨_,rfl,US h⟩) b)
  |exact UC (m:=Builtin.Tuple.tupleExact _) (UP (UC (US (US ⟨_,rfl,US h⟩))) b)
  |exact UC (UC (m:=Builtin.Tuple.tupleExact _) (UP (US (US ⟨_,rfl,US h⟩)) b))
  |exact UC (UC (m:=Builtin.Tuple.tupleExact _) (UP (US ⟨_,rfl,US h⟩) b))
end
end HT
namespace L2
open PySem PySem.Spec PyProof.Rows
@[inline]abbrev TO:=St->Hp->(Option Int->Hp->Prop)->Prop
abbrev PO(X:Cx)(e:Option Expr)(t:TO):Prop:=
 ∀ (b:List (Addr × Obj)) (s:Shared) (c:St) (H:Hp) (Q:Option Int->Hp->Prop),Inv X b c H s->t c H Q ->
  wpAny (model X.prog X.w) X.A (evalPart e X.env) (λu j=>∃o d,Inv X b c d j/\IsPart u o/\Q o d) X.xe s
abbrev wZ:TO:=λ_ H Q=>Q aD H
abbrev IW(t:TE):TO:=λc H Q=>t c H λx b=>∃i,x = .int i/\Q (aw i) b
def uQ:∀ {u:List Value},aM (ns.map V.int) u->IntsAre u ns:=by
 induction ns with
 |nil=>intro u r;rw[Z7] at r;cases r;exact .nil
 |cons n ns I=>
  intro u r;rw[Zz] at r;cases r with
  |cons r1 r2=>
   obtain⟨t,e⟩:=r1;subst e;exact .cons n t (I r2)
section
variable {X:Cx} {e:Expr} {te:TE} {lo hi:Option Expr} {tl th:TO} {pos p2:Pos}
def EL:PO X aD wZ:=by
 intro b s c H Q I h;rw[V6];exact US ⟨aD,H,I,.none,h⟩
def w4(h:PE X e te):PO X (aw e) (IW te):=by
 intro b s l H Q I c;rw[evalPart_some];refine thn (h b s l H _ I c) λu v ⟨x,d,j,r1,k⟩=>?_;obtain⟨i,rfl,q⟩:=k;obtain⟨t,rfl⟩:=r1;exact⟨aw i,d,j,.int i t,q⟩
abbrev SlR(X:Cx)(r:V->Option Int->Option Int->Hp->VK->Prop):Prop:=
 ∀ (b:List (Addr × Obj)) (s:Shared) (j:St) (H:Hp) (x:V) (v d c:Value) (lo hi:Option Int) (sl:Addr) (Q:VK),Inv X b j H s->aB x v->s.heap.IsSliceOf sl d c .none->IsPart d lo->IsPart c hi->r x lo hi H Q ->
  ∃T id,typeLookup (.type T) "__getitem__" = pure (aw (.builtin id))/\s.TypeIs v T/\wpAny (model X.prog X.w) X.A (getItem v (.ref sl)) (EP X b j Q) X.xe s
def SlR.or{r l:V->Option Int->Option Int->Hp->VK->Prop}(h:SlR X r)(h':SlR X l):SlR X (λx lo hi H Q=>r x lo hi H Q\/l x lo hi H Q):=by
 intro b s u H x v k c lo hi sl Q I j hs d y q;rcases q with q |q
 ·exact h b s u H x v k c lo hi sl Q I j hs d y q
 ·exact h' b s u H x v k c lo hi sl Q I j hs d y q
abbrev tSl(r:V->Option Int->Option Int->Hp->VK->Prop)(te:TE)(tl th:TO):TE:=λb H Q=>te b H λx c=>tl b c λl d=>th b d λu j=>r x l u j Q
def AK(hr:SlR X r)(he:PE X e te)(hl:PO X lo tl)(hu:PO X hi th):PE X (.Subscript e (.Slice lo hi aD p2) pos) (tSl r te tl th):=by
 intro c s j H Q I h;refine Subscript_ (thn (he c s j H _ I h) λv J ⟨x,B,I1,r1,Z⟩=>?_);refine wpAny_Slice (thn (hl c J j B _ I1 Z) λk s2 ⟨l,H2,I2,U,q2⟩=>thn (hu c s2 j H2 _ I2 q2) λy d ⟨u,z,I3,L,Y⟩=>?_);rw[V6];refine US ?_;have O:Inv X c j z { d with heap:=d.heap.push { cls:=.type "slice", data:=.fields #[k,y,.none] } }:=I3.kept (t':=d.toks) λb ob q=>Zd _ q;obtain⟨T,id,hT,C,hg⟩:=hr c { d with heap:=d.heap.push { cls:=.type "slice", data:=.fields #[k,y,.none] } } j z x v k y l u d.heap.objs.size Q O r1 (Heap.IsSliceOf.new ..) U L Y;show wpAny (model X.prog X.w) X.A (subscriptTail e (.Slice lo hi aD p2) v (.ref d.heap.objs.size)) (EP X c j Q) X.xe { d with heap:=d.heap.push { cls:=.type "slice", data:=.fields #[k,y,.none] } };exact tail_any (ops:=[.ref d.heap.objs.size,v]) C hT hg (by with_unfolding_all rfl)
abbrev lj(xs:List V)(lo hi:Option Int):List V:=(xs.drop (HT.sIx xs.length 0 lo)).take (HT.sIx xs.length xs.length hi - HT.sIx xs.length 0 lo)
def jT(xs:List V)(lo hi:Option Int):(lj xs lo hi).length<=xs.length:=by
 unfold lj;rw[Yo,Wc]
 lia
abbrev Sj(K:Vp):V->Option Int->Option Int->Hp->VK->Prop:=λx lo hi H Q=>∃a b,x = .ref a/\SqT K H a b ∧
 ¬ (HT.sIx b.length 0 lo=0/\HT.sIx b.length b.length hi=b.length)/\∀p,H p=aD->Q (.ref p) (upd H p (.tup (lj b lo hi)))
def Ku:SlR X (Sj X.K):=by
 intro u s O H x v L T lo hi sl Q I z hs C B h;obtain⟨a,d,rfl,J,y,q⟩:=h;cases z;obtain⟨j,r,k,l⟩:=I.tuple J;have c:j.toArray.size=d.length:=by rw[Zk];exact r.length.symm
 refine⟨"tuple", _,PyProof.Rows.slot_tuple_getitem.lookup,k.typeIs,?_⟩;refine HT.iC k hs C B (by rw[c];exact y) ?_ (by rw[c];exact l);rw[c];refine⟨.ref s.heap.objs.size,_,I.laid (t':=s.toks) (o:=.tup (lj d lo hi)) (λb ob q=>Zd _ q) (Zj _) ?_,rfl,q _ (I.hok.fresh (Zj _))⟩;exact⟨ZX (jT d lo hi) l,_,(r.drop (HT.sIx d.length 0 lo)).take (HT.sIx d.length d.length hi - HT.sIx d.length 0 lo),pE.new _ _⟩
abbrev Po(K:Vp):R2:=λx y H Q=>∃a b c Y,x = .ref a/\y = .ref b/\SqT K H a c/\SqT K H b Y/\c ≠ []/\c.length+Y.length<=sizeLine ∧
 (Y=[]->Q (.ref a) H)/\(Y ≠ []->∀p,H p=aD->Q (.ref p) (upd H p (.tup (c++Y))))
def aM.nil_iff(r:aM xs u):u=[] ↔ xs=[]:=by
 cases r with
 |nil=>simp
 |cons _ _=>simp
def EM:OpR X (VO .Add) (Po X.K):=by
 intro j s Z H x y v u Q I B U h;obtain⟨a,b,O,Y,rfl,rfl,k,hb,J,d,C,L⟩:=h;cases B;cases U;obtain⟨T,r1,l,_⟩:=I.tuple k;obtain⟨c,r2,p2,_⟩:=I.tuple hb;refine HT.EK l p2 (λz=>J (r1.nil_iff.mp z)) (λz=>⟨.ref a,H,I,rfl,C (r2.nil_iff.mp z)⟩) (λz=>?_) (by rw[<-r1.length,<-r2.length];exact d);refine⟨.ref s.heap.objs.size,_,I.laid (t':=s.toks) (o:=.tup (O++Y)) (λb ob q=>Zd _ q) (Zj _) ?_,rfl,L (λw=>z (r2.nil_iff.mpr w)) _ (I.hok.fresh (Zj _))⟩;exact⟨by rw[Zf];exact d,_,r1.append r2,pE.new _ _⟩
end
abbrev ixN(n:Nat)(i:Int):Option Nat:=if 0<=i then (if i < n then aw i.toNat else aD) else if -(n:Int)<=i then aw (i+n).toNat else aD
abbrev atI{α:Type}(xs:List α)(i:Int):Option α:=(ixN xs.length i).bind λj=>xs[j]?
def pH{n:Nat}{i:Int}{j:Nat}(h:ixN n i=aw j):seqIndex? i n=aw j/\j < n/\-(n:Int)<=i/\i < n:=by
 unfold ixN at h;by_cases c:0<=i
 ·rw[if_pos c] at h;by_cases b:i < n
  ·rw[if_pos b] at h;have e:i.toNat=j:=Option.some.inj h;exact⟨by rw[Uq c b,e],by lia,by lia,b⟩
  ·rw[if_neg b] at h;cases h
 ·rw[if_neg c] at h;by_cases b:-(n:Int)<=i
  ·rw[if_pos b] at h;have e:(i+n).toNat=j:=Option.some.inj h;exact⟨by rw[Up (by lia) b,e],by lia,b,by lia⟩
  ·rw[if_neg b] at h;cases h
def pJ{b:Type}{xs:List b}{i:Int}{v:b}(h:atI xs i=aw v):∃j,seqIndex? i xs.length=aw j/\xs[j]?=aw v/\j < xs.length/\-(xs.length:Int)<=i/\i < xs.length:=by
 unfold atI at h;cases e:ixN xs.length i with
 |none=>rw[e] at h;cases h
 |some j=>
  rw[e] at h;obtain⟨k,d,c,h4⟩:=pH e;exact⟨j,k,h,d,c,h4⟩
def w5{b:Type}{xs:List b}{j:Nat}{v:b}(h:xs[j]?=aw v):atI xs (j:Int)=aw v:=by
 have c:j < xs.length:=(Zb.mp h).1
 have e:ixN xs.length (j:Int)=aw j:=by
  unfold ixN;rw[if_pos (by lia),if_pos (by lia)];simp
 unfold atI;rw[e];exact h
abbrev w6(b:Expr):Prop:=∀o i,subscripted b aS o i=operate [o,i] (getItem o i)
abbrev IxR(X:Cx)(r:R2):Prop:=
 ∀ (d b:Expr) (c:List (Addr × Obj)) (s:Shared) (j:St) (H:Hp) (x y:V) (v u:Value) (Q:VK),Inv X c j H s->aB x v->aB y u->r x y H Q ->
  subscripted b aS v u=operate [v,u] (getItem v u)->wpAny (model X.prog X.w) X.A (subscriptTail d b v u) (EP X c j Q) X.xe s
abbrev MtR(X:Cx)(id:String)(r:V->List V->Hp->VK->Prop):Prop:=
 ∀ (b:List (Addr × Obj)) (s:Shared) (d:St) (H:Hp) (x:V) (c:List V) (v:Value) (u:List Value) (Q:VK),Inv X b d H s->aB x v->aM c u->r x c H Q ->
  wpAny (model X.prog X.w) X.A (call (.builtin id) (v::u)) (EP X b d Q) X.xe s
section
variable {X:Cx} {a b:Expr} {ta tb:TE} {pos:Pos}
def IxR.or{r z:R2}(h:IxR X r)(h':IxR X z):IxR X (λx y H Q=>r x y H Q\/z x y H Q):=by
 intro c d j s B H x y v u Q I k l q hs;rcases q with q |q
 ·exact h c d j s B H x y v u Q I k l q hs
 ·exact h' c d j s B H x y v u Q I k l q hs
def IX(d:IxR X r)(k:PE X a ta)(hb:PE X b tb)(hs:w6 b):PE X (.Subscript a b pos) (tOp r ta tb):=by
 intro c s J H Q I h;exact Subscript_ (Kg k hb I h λv u l x y j C z B q=>d a b c l J j x y v u Q C z B q (hs _ _))
abbrev Pp(K:Vp):R2:=λx y H Q=>∃p c i v,x = .ref p/\y = .int i/\SqL K H p c/\atI c i=aw v/\Q v H
abbrev Pq(K:Vp):R2:=λx y H Q=>∃p c i v,x = .ref p/\y = .int i/\SqT K H p c/\atI c i=aw v/\Q v H
abbrev Pr:R2:=λx y H Q=>∃z i c,x = .str z/\y = .int i/\z.length<=sizeLine/\atI z.cps.toList i=aw c/\Q (.str ⟨#[c]⟩) H
def R9:IxR X (Pp X.K):=by
 intro J L c s T H x y v u Q I rx ry h hs;obtain⟨p,xs,i,z,rfl,rfl,hq,he,q⟩:=h;cases rx;obtain⟨t,rfl⟩:=ry;obtain⟨O,r,B,hz⟩:=I.list hq;obtain⟨j,k,h2,h3,h4,h5⟩:=pJ he;obtain⟨w,Y,C⟩:=r.get h2;have Z:=r.length;have hn:=jg;have d:EP X c T Q w s:=⟨z,H,I,C,q⟩;by_cases U:0<=i
 ·have l:i.toNat=j:=by
   rw[Uq U h5] at k;exact Option.some.inj k
  exact item_listR B.isList U (by lia) (by rw[l];simpa using Y) d hs
 ·have l:(i+(O.toArray.size:Int)).toNat=j:=by
   rw[Up (by lia) h4] at k;rw[Zk,<-Z];exact Option.some.inj k
  exact subscriptTail_builtinR (x:=w) B.isList.typeIs slot_list_getitem.lookup
   (wpAny_getItem_list_neg (Q:=λr s'=>r=w/\EP X c T Q r s') B.isList (by lia) (by rw[Zk] <;> lia) (by lia) (by rw[l];simpa using Y) ⟨rfl,d⟩) hs
def AL:IxR X (Pq X.K):=by
 intro k l c s C H x y v u Q I O ry h hs;obtain⟨p,xs,i,z,rfl,rfl,T,he,q⟩:=h;cases O;obtain⟨t,rfl⟩:=ry;obtain⟨its,r,J,hz⟩:=I.tuple T;obtain⟨j,U,h2,h3,h4,h5⟩:=pJ he;obtain⟨w,Z,d⟩:=r.get h2;have L:=r.length;have hn:=jg;have B:EP X c C Q w s:=⟨z,H,I,d,q⟩
 exact subscriptTail_builtinR (x:=w) J.typeIs slot_tuple_getitem.lookup
  (getItem_tuple (j:=j) (Q:=λr Y=>r=w/\EP X c C Q r Y) J (by lia) (by lia) (by rw[Zk,<-L];exact U) (by simpa using Z) ⟨rfl,B⟩) hs
def Kv:IxR X Pr:=by
 intro d k B s σ H x y v u Q I L Z h hs;obtain⟨z,i,c,rfl,rfl,hz,U,q⟩:=h;obtain⟨t,rfl⟩:=L;obtain⟨t',rfl⟩:=Z;obtain⟨j,l,T,h3,h4,Y⟩:=pJ U;have J:z.cps.toList.length=z.length:=by simp[Str.length]
 rw[J] at l h4 Y;have hn:=jg
 exact tail_any (typeIs_str s z t) slot_str_getitem.lookup (getItem_str (c:=c) (by
  have C:decide (i < -(2 ^ 63:Int))=aS:=decide_eq_false (by lia);have O:decide (i ≥ 2 ^ 63)=aS:=decide_eq_false (by lia);rw[C,O,Wv]) (by rw[l];simpa using T) ⟨.str ⟨#[c]⟩,H,I.tok _,⟨_,rfl⟩,q⟩) hs
abbrev rIx(K:Vp):R2:=λx y H Q=>Pp K x y H Q\/Pq K x y H Q\/Pr x y H Q
def AM:IxR X (rIx X.K):=R9.or (AL.or Kv)
def uR(its:List Value)(n j:Nat)(u:Value):Obj.mapSeq (·.setIfInBounds j u) { cls:=.type "list", data:=.seq its.toArray n }={ cls:=.type "list", data:=.seq (its.set j u).toArray n }:=by
 simp[Obj.mapSeq]
def Inv.lst{c:List (Addr × Obj)}{d:St}{H:Hp}{s:Shared}{p:Addr}{xs:List V}(I:Inv X c d H s)(h:H p=aw (.lst xs)) :
  ∃ (its:List Value) (n:Nat),aM xs its/\s.heap.get? p=aw { cls:=.type "list", data:=.seq its.toArray n }/\xs.length<=sizeLine:=by
 obtain⟨z,its,n,r,e⟩:=I.hok p _ h;exact⟨its,n,r,e,z⟩
def Inv.lstUpd{c:List (Addr × Obj)}{k:St}{H:Hp}{s:Shared}{p:Addr}{xs y:List V}{its its':List Value}{n d:Nat}{f:Obj->Obj}(I:Inv X c k H s)(h:H p=aw (.lst xs))
  (l:s.heap.get? p=aw { cls:=.type "list", data:=.seq its.toArray n }) (j:f { cls:=.type "list", data:=.seq its.toArray n }={ cls:=.type "list", data:=.seq its'.toArray d }) (r:aM y its') (v:y.length<=sizeLine) (t:Nat) :
  Inv X c k (upd H p (.lst y)) { s with heap:=s.heap.update p f,toks:=t }:=by
 have e:(s.heap.update p f).get? p=aw { cls:=.type "list", data:=.seq its'.toArray d }:=by
  rw[YJ f l (by rw[j] <;> rfl),j]
 refine I.write (x:=p) (e:=p) (by rw[h];trivial) (.inl rfl) (λb u hb q=>(ZY _ _ (Ne.symm hb)).trans q) ⟨_,e⟩ ?_;exact⟨v,its',d,r,e⟩
abbrev Ps:V->V->V->Hp->(Hp->Prop)->Prop:=λo i v H Q=>∃p c k j,o = .ref p/\i = .int k/\H p=aw (.lst c)/\ixN c.length k=aw j/\Q (upd H p (.lst (c.set j v)))
def AN:J9 X Ps:=by
 intro c s T H o i v ov iv u Q I ro Y Z h;obtain⟨p,xs,k,j,rfl,rfl,C,U,q⟩:=h;cases ro;obtain⟨t,rfl⟩:=Y;obtain⟨d,n,r,B,hz⟩:=I.lst C;obtain⟨l,h2,L,h4⟩:=pH U;have y:=r.length;have hn:=jg
 have O:Inv X c T (upd H p (.lst (xs.set j v))) { s with heap:=s.heap.update p (Obj.mapSeq (·.setIfInBounds j u)) }:=
  I.lstUpd C B (uR d n j u) (r.set Z j) (by rw[Yc];exact hz) s.toks
 by_cases J:0<=k
 ·have z:k.toNat=j:=by
   rw[Uq J h4] at l;exact Option.some.inj l
  exact PySem.W.ki_setAt B J (by lia) (by rw[Zk,<-y];exact h4) (by rw[z];exact⟨_,O,q⟩)
 ·have z:(k+(d.toArray.size:Int)).toNat=j:=by
   rw[Up (by lia) L] at l;rw[Zk,<-y];exact Option.some.inj l
  exact PySem.W.ki_setBack B (by lia) (by rw[Zk,<-y];exact L) (by lia) (by rw[z];exact⟨_,O,q⟩)
def pK(lo hi:Option Int)(n:Nat):(Uu lo hi aD n).1=((HT.sIx n 0 lo:Nat):Int)/\(Uu lo hi aD n).2.1=((HT.sIx n n hi:Nat):Int)/\(Uu lo hi aD n).2.2=1:=by
 refine⟨?_,?_,rfl⟩
 ·cases lo with
  |none=>simp[Uu,HT.sIx]
  |some i=>
   simp only[Uu,HT.sIx,Wd,show(1:Int) > 0 by decide,if_true];by_cases h:i < 0
   ·simp only[h,if_true] <;> lia
   ·simp only[h,if_false] <;> lia
 ·cases hi with
  |none=>simp[Uu,HT.sIx]
  |some i=>
   simp only[Uu,HT.sIx,Wd,show(1:Int) > 0 by decide,if_true];by_cases h:i < 0
   ·simp only[h,if_true] <;> lia
   ·simp only[h,if_false] <;> lia
def nj(its:List Value)(lo hi:Option Int):slicePick its.toArray lo hi aD=((its.drop (HT.sIx its.length 0 lo)).take (HT.sIx its.length its.length hi - HT.sIx its.length 0 lo)).toArray:=by
 obtain⟨d,j,c⟩:=pK lo hi its.toArray.size;unfold slicePick;rw[d,j,c];simp only[sliceRange_one,pick_run,Zk] <;> rfl
abbrev Sk(K:Vp):V->Option Int->Option Int->Hp->VK->Prop:=λx lo hi H Q=>∃a c,x = .ref a/\SqL K H a c/\∀p,H p=aD->Q (.ref p) (upd H p (.lst (lj c lo hi)))
def EN:SlR X (Sk X.K):=by
 intro k s O H x v L J lo hi sl Q I B hs u l h;obtain⟨a,c,rfl,y,q⟩:=h;cases B;obtain⟨z,r,j,C⟩:=I.list y;have d:=r.length;refine⟨"list", _,slot_list_getitem.lookup,j.isList.typeIs,?_⟩;refine UI j.isList hs u l .none (by simp) ?_ (by rw[Zk] <;> lia);rw[nj,<-d];refine⟨.ref s.heap.objs.size,_,I.laid (t':=s.toks) (o:=.lst (lj c lo hi)) (λb ob q=>Zd _ q) (Zj _) ?_,rfl,q _ (I.hok.fresh (Zj _))⟩;exact⟨ZX (jT c lo hi) C,_,0,(r.drop (HT.sIx c.length 0 lo)).take (HT.sIx c.length c.length hi - HT.sIx c.length 0 lo),Zu _ rfl⟩
abbrev dr:V->Bool
 |.non=>aN
 |.bl _=>aN
 |.int _=>aN
 |.str _=>aN
 |_=>aS
abbrev eqV:V->V->Bool
 |.non,.non=>aN
 |.bl a,.bl b=>a == b
 |.bl a,.int b=>(if a then 1 else 0) == b
 |.int a,.bl b=>a == (if b then 1 else 0)
 |.int a,.int b=>a == b
 |.str a,.str b=>a == b
 |_,_=>aS
def Kw(d:aB y u)(c:aB x v)(j:dr y=aN)(fx:dr x=aN):Vi A s u v (eqV y x):=by
 cases y with
 |non=>
  cases d;cases x with
  |non=>cases c;exact SeqAt.EqAt.same _
  |bl b=>cases c;exact SeqAt.EqAt.none_bool b
  |int b=>obtain⟨t,rfl⟩:=c;exact SeqAt.EqAt.none_int b t
  |str b=>obtain⟨t,rfl⟩:=c;exact SeqAt.EqAt.none_str b t
  |_=>exact absurd (show aS=aN from fx) Zh
 |bl a=>
  cases d;cases x with
  |non=>cases c;exact SeqAt.EqAt.bool_none a
  |bl b=>cases c;exact SeqAt.EqAt.bool_bool a b
  |int b=>obtain⟨t,rfl⟩:=c;exact SeqAt.EqAt.bool_int a b t
  |str b=>obtain⟨t,rfl⟩:=c;exact SeqAt.EqAt.bool_str a b t
  |_=>exact absurd (show aS=aN from fx) Zh
 |int a=>
  obtain⟨T,rfl⟩:=d;cases x with
  |non=>cases c;exact SeqAt.EqAt.int_none a T
  |bl b=>cases c;exact SeqAt.EqAt.int_bool a T b
  |int b=>obtain⟨t,rfl⟩:=c;exact SeqAt.EqAt.int_int a T b t
  |str b=>obtain⟨t,rfl⟩:=c;exact SeqAt.EqAt.int_str a T b t
  |_=>exact absurd (show aS=aN from fx) Zh
 |str a=>
  obtain⟨T,rfl⟩:=d;cases x with
  |non=>cases c;exact SeqAt.EqAt.str_none a T
  |bl b=>cases c;exact SeqAt.EqAt.str_bool a T b
  |int b=>obtain⟨t,rfl⟩:=c;exact SeqAt.EqAt.str_int a T b t
  |str b=>obtain⟨t,rfl⟩:=c;exact SeqAt.EqAt.str_str a T b t
  |_=>exact absurd (show aS=aN from fx) Zh
 |_=>exact absurd (show aS=aN from j) Zh
abbrev eqU(x:V)(u:Value):Bool:=match u with
 |.none=>eqV .non x
 |.bool b=>eqV (.bl b) x
 |.int i _=>eqV (.int i) x
 |.str z _=>eqV (.str z) x
 |_=>aS
def uS(r:aB y u)(f:dr y=aN):eqU x u=eqV y x:=by
 cases y with
 |non=>cases r;rfl
 |bl b=>cases r;rfl
 |int i=>obtain⟨t,rfl⟩:=r;rfl
 |str z=>obtain⟨t,rfl⟩:=r;rfl
 |_=>exact absurd (show aS=aN from f) Zh
def iE:∀ {xs:List V} {U:List Value},aM xs U->xs.all dr=aN->U.any (eqU x)=xs.any λy=>eqV y x
 |_,_,.nil,_=>rfl
 |y::xs,u::U,.cons r t,f=>by
  rw[Yn,bAE] at f;rw[YI,YI,uS r f.1,iE t f.2]
def c7(c:aB x v)(fx:dr x=aN):∀ {xs:List V} {U:List Value},aM xs U->xs.all dr=aN->∀u ∈ U,Vi A s u v (eqU x u)
 |_,_,.nil,_=>λu hu=>by cases hu
 |y::xs,u::U,.cons r t,f=>λd hu=>by
  rw[Yn,bAE] at f;rcases Zn.mp hu with rfl |hu
  ·rw[uS r f.1];exact Kw r c f.1 fx
  ·exact c7 c fx t f.2 d hu
abbrev inV(x:V)(xs:List V):Bool:=xs.any λy=>eqV y x
abbrev rIn(K:Vp)(neg:Bool):R2:=λx y H Q=>∃p c,y = .ref p/\(SqL K H p c\/SqT K H p c)/\dr x=aN/\c.all dr=aN/\Q (.bl (if neg then !inV x c else inV x c)) H
def yL:OpR X (V1 .In) (rIn X.K aS):=by
 intro k s J H x y v u Q I l z h;obtain⟨p,C,rfl,hq,fx,fs,q⟩:=h;cases z;rcases hq with hq |hq
 ·obtain⟨c,r,j,B⟩:=I.list hq;refine Vk (eqU x) j.isList (λw d=>c7 l fx r fs w (by simpa using d)) ⟨.bl _,H,I,rfl,?_⟩;rw[show c.toArray.any (eqU x)=c.any (eqU x) by simp,iE r fs];exact q
 ·obtain⟨c,r,j,B⟩:=I.tuple hq;refine Vl (eqU x) j (λw d=>c7 l fx r fs w (by simpa using d)) ⟨.bl _,H,I,rfl,?_⟩;rw[show c.toArray.any (eqU x)=c.any (eqU x) by simp,iE r fs];exact q
def pL:OpR X (V1 .NotIn) (rIn X.K aN):=by
 intro k s J H x y v u Q I l z h;obtain⟨p,C,rfl,hq,fx,fs,q⟩:=h;cases z;rcases hq with hq |hq
 ·obtain⟨c,r,j,B⟩:=I.list hq;refine SeqAt.notIn_listAt (eqU x) j.isList (λw d=>c7 l fx r fs w (by simpa using d)) ⟨.bl _,H,I,rfl,?_⟩;rw[show c.toArray.any (eqU x)=c.any (eqU x) by simp,iE r fs];exact q
 ·obtain⟨c,r,j,B⟩:=I.tuple hq;refine SeqAt.notIn_tupleAt (eqU x) j (λw d=>c7 l fx r fs w (by simpa using d)) ⟨.bl _,H,I,rfl,?_⟩;rw[show c.toArray.any (eqU x)=c.any (eqU x) by simp,iE r fs];exact q
def iG:aX X (.builtin "len") (λxs H Q=>∃p y,xs=[.ref p]/\(SqL X.K H p y\/SqT X.K H p y)/\Q (.int y.length) H):=by
 intro l s C H xs U Q I r h;obtain⟨p,y,rfl,hq,q⟩:=h;obtain⟨u,rfl,v⟩:=cb r;cases v;have B:=jg;rcases hq with hq |hq
 ·obtain⟨k,j,d,z⟩:=I.list hq;have c:=j.length;exact Calls.call_len_list d.isList (by simp only[Zk] <;> lia) ⟨.int y.length,H,I.tok _,⟨s.toks+1,by rw[Zk,c]⟩,q⟩
 ·obtain⟨k,j,d,z⟩:=I.tuple hq;have c:=j.length;exact len_tuple d (by simp only[Zk] <;> lia) ⟨.int y.length,H,I.tok _,⟨s.toks+1,by rw[Zk,c]⟩,q⟩
def pM:aX X (.type "list") (λxs H Q=>∃p y,xs=[.ref p]/\(SqL X.K H p y\/SqT X.K H p y)/\∀l,H l=aD->Q (.ref l) (upd H l (.lst y))):=by
 intro v s Y H xs Z Q I r h;obtain⟨p,y,rfl,hq,q⟩:=h;obtain⟨u,rfl,U⟩:=cb r;cases U
 have z:∀ (c:List Value),aM y c->y.length<=sizeLine->∀ (d:Heap) (C:Nat),(∀b T,s.heap.get? b=aw T->d.get? b=aw T) ->
   d.get? s.heap.objs.size=aw { cls:=.type "list", dict:=aD,data:=.seq c.toArray C,slots:=#[] }->EP X v Y Q (.ref s.heap.objs.size) { s with heap:=d }:=λc j k d C kp e=>
  ⟨.ref s.heap.objs.size,_,I.laid (t':=s.toks) kp (Zj _) (show a9 X.prog X.w _ d _ (.lst y) from ⟨k,c,C,j,e⟩),rfl,q _ (I.hok.fresh (Zj _))⟩
 rcases hq with hq |hq
 ·obtain⟨c,j,J,k⟩:=I.list hq;have B:=j.length;obtain⟨o,L,O,n,hd⟩:=J.isList;exact call_list_seq p (.inl rfl) L O hd (λd C kp e=>z c j k d C kp e) (by simp only[Zk] <;> lia)
 ·obtain⟨c,j,J,k⟩:=I.tuple hq;have B:=j.length;obtain⟨o,L,O,n,hd⟩:=J;exact call_list_seq p (.inr rfl) L O hd (λd C kp e=>z c j k d C kp e) (by simp only[Zk] <;> lia)
def nk:aX X (.type "tuple") (λxs H Q=>∃p y,xs=[.ref p]/\((SqL X.K H p y/\∀l,H l=aD->Q (.ref l) (upd H l (.tup y)))\/(SqT X.K H p y/\Q (.ref p) H))):=by
 intro c s C H xs U Q I r h;obtain⟨p,y,rfl,h⟩:=h;obtain⟨u,rfl,T⟩:=cb r;cases T;rcases h with ⟨v,q⟩ |⟨v,q⟩
 ·obtain⟨d,z,k,L⟩:=I.list v;have J:=z.length;refine call_tuple_list k.isList (λj kp=>?_) (by simp only[Zk] <;> lia);have B:Inv X c C H { s with heap:=j }:=I.kept (t':=s.toks) kp
  have O:Inv X c C (upd H j.objs.size (.tup y)) { s with heap:=j.push { cls:=.type "tuple", data:=.seq d.toArray } }:=
   B.laid (t':=s.toks) (λb o e=>Zd _ e) (Zj _) (show a9 X.prog X.w _ _ _ (.tup y) from ⟨L,d,z,pE.new _ _⟩)
  exact⟨.ref j.objs.size,_,O,rfl,q _ (B.hok.fresh (Zj _))⟩
 ·obtain⟨d,z,k,L⟩:=I.tuple v;exact call_tuple_same k ⟨.ref p,H,I,rfl,q⟩
abbrev tyV(K:Vp)(T:String)(x:V)(H:Hp):Prop:=match x with
 |.str _=>T = "str"
 |.int _=>T = "int"
 |.ref p=>(T = "list"/\∃c,SqL K H p c)\/(T = "tuple"/\((∃o,K.lookup p=aw o/\o.cls = .type "tuple"/\o.dict=aD)\/∃c,H p=aw (.tup c))) ∨
   (T = "dict"/\((∃k,H p=aw (.dK k))\/∃k,H p=aw (.dT k)))\/(T = "set"/\∃S n,H p=aw (.set S n))
 |_=>False
def Kx(I:Inv X y J H s)(r:aB x v)(ty:tyV X.K T x H) :
  s.TypeIs v T/\∀a,v = .ref a->∃ob,s.heap.get? a=aw ob/\ob.dict=aD:=by
 cases x with
 |str z=>
  obtain⟨t,rfl⟩:=r;cases (show T = "str" from ty);exact⟨typeIs_str s z t,λ_ e=>nomatch e⟩
 |int i=>
  obtain⟨t,rfl⟩:=r;cases (show T = "int" from ty);exact⟨typeIs_int s i t,λ_ e=>nomatch e⟩
 |ref p=>
  cases r;rcases ty with ⟨rfl,B,C⟩ |⟨rfl,⟨o,d,l,hd⟩ |⟨B,d⟩⟩ |⟨rfl,d⟩ |⟨rfl,S,n,d⟩
  ·obtain⟨q,_,u,_⟩:=I.list C;refine⟨u.isList.typeIs,λa e=>?_⟩;cases e;obtain⟨o,n,e,c,hd,_⟩:=u;exact⟨o,e,hd⟩
  ·refine⟨⟨o,I.kIn p o d,l⟩,λa e=>?_⟩;cases e;exact⟨o,I.kIn _ o d,hd⟩
  ·obtain⟨_,q,_,o,e,l,_,_,hd⟩:=I.hok p _ d;refine⟨⟨o,e,l⟩,λa j=>?_⟩;cases j;exact⟨o,e,hd⟩
  ·have z:∃o,s.heap.get? p=aw o/\o.ExactDict:=by
    rcases d with ⟨k,d⟩ |⟨k,d⟩
    ·obtain⟨_,_,_,_,o,_,_,e,ex,_⟩:=I.hok p _ d;exact⟨o,e,ex⟩
    ·obtain⟨_,_,_,_,o,_,_,e,ex,_⟩:=I.hok p _ d;exact⟨o,e,ex⟩
   obtain⟨o,e,ex⟩:=z;refine⟨⟨o,e,ex.1⟩,λa j=>?_⟩;cases j;exact⟨o,e,ex.2.1⟩
  ·obtain⟨o,_,_,_,e,ex,_⟩:=I.hok p _ d;refine⟨⟨o,e,ex.1⟩,λa j=>?_⟩;cases j;exact⟨o,e,ex.2.1⟩
 |_=>exact False.elim ty
abbrev tBM(K:Vp)(T:String)(r:V->List V->Hp->VK->Prop)(j:TE)(t:TA):TE:=λd H Q=>j d H λx c=>tyV K T x c/\t d c λl k=>r x l k Q
variable {o e:Expr} {es:List Expr} {to:TE} {t:TA} {name:Str} {apos cpos:Pos} {T id:String} {r:V->List V->Hp->VK->Prop}
def w8(pa:PlainAttrs T)(slot:Slot T name id)(u:typeOf (.builtin id)=pure (.type "method_descriptor"))(L:MtR X id r)(Y:PE X o to)(C:PA X (e::es) t)
  (k:attributeBase o name X.env (eval o X.env)=eval o X.env:=by rfl)
  (l:((backTo cpos (Uv (e::es) X.env)).all (λx=>!x.1) && (VM cpos (Ub [] X.env)).all (λx=>x.1.isSome)
   && decide ((e::es).length+([]:List Keyword).length+(if ([]:List Keyword).isEmpty then 0 else 1) < 30))=aN:=by rfl)
  (j:(apos.endLine == cpos.line)=aN:=by rfl) (hs:Uv (e::es) X.env=(aS,eval e X.env)::Uv es X.env:=by rfl) (d:(backTo cpos (Uv es X.env)).any (·.1)=aS:=by rfl) :
  PE X (.Call (.Attribute o name apos) (e::es) [] cpos) (tBM X.K T r to t):=by
 intro c s q H Q I h;refine wpAny_Call_method_late k l j rfl (thn (Y c s q H _ I h) λv J ⟨x,B,z,r1,ty,O⟩=>?_);obtain⟨Z,h2⟩:=Kx z r1 ty;refine⟨T,id,pa,slot,u,Z,h2,?_⟩;have y:=C cpos c J q B _ z O;rw[hs] at y ⊢;refine Calls.callWith_builtin (by show(aS || (backTo cpos (Uv es X.env)).any (·.1))=aS;rw[d] <;> rfl) (Calls.evalArgs_plain ?_);exact thn y λus s2 ⟨vs,H2,U,r2,q2⟩=>L c s2 q H2 x vs v us Q U r1 r2 q2
end
abbrev MtM(X:Cx)(id:String)(r:V->List V->Hp->VK->Prop):Prop:=
 ∀ (b:List (Addr × Obj)) (s:Shared) (d:St) (H:Hp) (x:V) (c:List V) (v:Value) (u:List Value) (Q:VK),Inv X b d H s->aB x v->aM c u->r x c H Q ->
  wpAny (model X.prog X.w) X.A (call (.builtin id) (v::u)) (EP X b d Q) X.xe s
def aM.one:∀ {x:V} {U:List Value},aM [x] U->∃u,U=[u]/\aB x u
 |_,_,.cons r .nil=>⟨_,rfl,r⟩
def aM.eraseIdx:∀ {xs:List V} {u:List Value} (i:Nat),aM xs u->aM (xs.eraseIdx i) (u.eraseIdx i)
 |_,_,_,.nil=>.nil
 |_,_,0,.cons _ t=>t
 |_,_,i+1,.cons r t=>.cons r (aM.eraseIdx i t)
def nY{b:Type}:∀ (l:List b) (i:Nat),(l.eraseIdx i).length<=l.length
 |[],_=>Zj _
 |_::_,0=>Yt _
 |_::r,i+1=>We (nY r i)
section
variable {X:Cx} {pins:List (Addr × Obj)} {σ:St} {H:Hp} {s:Shared} {l b:Addr} {xs ys zs:List V}
def Inv.lset{its its':List Value}{n:Nat}{f:Array Value->Array Value}{t':Nat}(I:Inv X pins σ H s)(c:H l=aw (.lst xs))
  (e:s.heap.get? l=aw { cls:=.type "list", data:=.seq its.toArray n }) (d:f its.toArray=its'.toArray) (j:aM ys its') (v:ys.length<=sizeLine) :
  Inv X pins σ (upd H l (.lst ys)) { s with heap:=s.heap.update l (Obj.mapSeq f),toks:=t' }:=by
 have q:=PySem.IsL.update e f;rw[d] at q;refine I.write (x:=l) (e:=l) (by rw[c];exact trivial) (.inl rfl) (λB u hb k=>(ZY s.heap (Obj.mapSeq f) (Ne.symm hb)).trans k) ⟨_,q⟩ ?_;exact⟨v,its',_,j,q⟩
def Inv.lnew{t':Nat}(I:Inv X pins σ H s)(c:aM ys its)(d:ys.length<=sizeLine) :
  Inv X pins σ (upd H s.heap.objs.size (.lst ys)) { s with heap:=s.heap.push { cls:=.type "list", data:=.seq its.toArray },toks:=t' }:=
 I.laid (λ_ _ q=>Zd _ q) (Zj _) ⟨d,its,0,c,Zu _ rfl⟩
def Inv.fresh(I:Inv X pins σ H s):H s.heap.objs.size=aD:=I.hok.fresh (Zj _)
def Inv.lstM(I:Inv X pins σ H s)(c:H l=aw (.lst xs)):xs.length<=sizeLine/\∃ (its:List Value) (n:Nat),aM xs its/\xs.length=its.length/\s.heap.get? l=aw { cls:=.type "list", data:=.seq its.toArray n }:=by
 obtain⟨z,its,n,r,e⟩:=I.hok l _ c;exact⟨z,its,n,r,r.length,e⟩
end
section
variable {X:Cx}
abbrev EO:V->List V->Hp->VK->Prop:=λx v H Q=>∃l b y,x = .ref l/\v=[y]/\H l=aw (.lst b)/\b.length < sizeLine/\Q .non (upd H l (.lst (b++[y])))
def nZ:MtM X "list.append" EO:=by
 intro c s J H x O v U Q I k B h;obtain⟨l,T,y,rfl,rfl,d,L,q⟩:=h;cases k;obtain⟨u,rfl,j⟩:=B.one;obtain⟨z,b,n,r,C,e⟩:=I.lstM d;refine VV W6 ⟨_,e,rfl⟩ F.entry_list_append (F.args_list_append_2 _ _) (PySem.list_append l b.toArray n u (by rw[Zk];lia)) ⟨e,?_⟩;refine⟨.non,_,I.lset (its':=b++[u]) d e (by simp) (r.append (.cons j .nil)) ?_,rfl,q⟩;rw[Zf,Zq]
 lia
abbrev Ky:V->List V->Hp->VK->Prop:=λx v H Q=>∃l b i k y,x = .ref l/\v=[.int i]/\H l=aw (.lst b)/\-(2 ^ 63)<=i/\i < 2 ^ 63/\seqIndex? i b.length=aw k/\b[k]?=aw y/\Q y (upd H l (.lst (b.eraseIdx k)))
def AO:MtM X "list.pop" Ky:=by
 intro d s σ H x vs v us Q I L T h;obtain⟨l,xs,i,k,y,rfl,rfl,j,U,Y,O,Z,q⟩:=h;cases L;obtain⟨u,rfl,C⟩:=T.one;obtain⟨t,rfl⟩:=C;obtain⟨z,b,n,r,J,e⟩:=I.lstM j;obtain⟨w,B,c⟩:=r.get Z
 refine VV W7 ⟨_,e,rfl⟩ F.entry_list_pop (F.args_list_pop_2 _ _)
  (MeetsSeq.list_pop_at l b.toArray n i t k w (fitsIndex_both U Y) (by rw[Zk,<-J];exact O) (by rw[<-Array.getElem?_toList];exact B) (by rw[Zk];lia)) ⟨e,?_⟩
 refine⟨y,_,I.lset (its':=b.eraseIdx k) j e ?_ (r.eraseIdx k) ?_,c,q⟩
 ·show b.toArray.eraseIdxIfInBounds k=(b.eraseIdx k).toArray;rw[List.eraseIdxIfInBounds_toArray]
 ·have:=nY xs k
  lia
abbrev Sl:R2:=λx y H Q=>∃l b c z,x = .ref l/\y = .ref b/\H l=aw (.lst c)/\H b=aw (.lst z)/\c.length+z.length<=sizeLine/\∀p,H p=aD->Q (.ref p) (upd H p (.lst (c++z)))
def Kz:OpR X (VO .Add) Sl:=by
 intro j s Y H x y v u Q I k T h;obtain⟨l,b,xs,Z,rfl,rfl,L,J,hz,q⟩:=h;cases k;cases T;obtain⟨z,d,n,r,U,e⟩:=I.lstM L;obtain⟨z2,c,n2,r2,C,B⟩:=I.lstM J;refine PySem.P.add_list e B ?_ (by rw[Zk,Zk];lia);have O:d.toArray++c.toArray=(d++c).toArray:=by simp
 rw[O];exact⟨.ref _,_,I.lnew (t':=s.toks) (r.append r2) (by rw[Zf];lia),rfl,q _ I.fresh⟩
end
end L2
namespace Att
open PySem PySem.W PySem.Calls PyProof.Rows
def kB:∀ (ns:List Int) (v:List Value),WellAll P h v (ns.map WData.int)->IntsAre v ns:=by
 intro ns
 induction ns with
 |nil=>
  intro v w;rw[Z7] at w;cases w;exact .nil
 |cons n ns I=>
  intro v w;rw[Zz] at w;cases w with
  |cons a b=>
   cases a;exact .cons _ _ (I _ b)
def yM{l:OpenLaw}{n:Nat}(T:l.most=aw n){P:Params}{h:Heap}{args:List WData}{v:List Value}
  (b:l.row.toRowW.claim.pre args=aN) (y:WellAll P h v args) :
  ∃a B ns,v=[Value.ref a]/\args=[WData.list (ns.map WData.int)]/\h.get? a=aw { cls:=.type "list", data:=.seq B.toArray }/\IntsAre B ns/\ns.length<=n:=by
 have u:WShape.hasAll [] args [.list .int]=aN:=(pre_splitW b).1;have z:l.pre.holds [] { args:=args }=aN:=(pre_splitW b).2;obtain⟨d,r,rfl,L,O⟩:=hasAllW_cons u;obtain rfl:=hasAllW_nil O;obtain⟨X,rfl,I⟩:=hasW_list L;obtain⟨ns,rfl⟩:=items_int I
 have j:ns.length<=n:=by
  unfold OpenLaw.pre at z
  have h4:(WTm.not (.lt (.lit (.int (n:Int))) (.len (.arg 0)))).holds [] { args:=[.list (ns.map .int)] }=aN:=by
   have h4:=(holds_andW z).1;rw[T] at h4;exact h4
  have k:=condW_of h4 (w_not (w_lt w_lit (w_len_list (w_arg rfl))));rw[Za] at k;refine Nat.le_of_not_lt λq=>?_;have Q:(n:Int) < ((ns.length:Nat):Int):=by lia
  first
   |(rw[decide_eq_true Q] at k;exact absurd k (by decide))
   |(simp at k;lia)
 cases y with
 |cons C w2=>
  cases w2;cases C with
  |list J c=>exact⟨_,_,ns,rfl,rfl,J,kB ns _ c,j⟩
def yN(l:OpenLaw)(args:List WData):l.row.toRowW.claim.post args (.bool aN) args=aN:=
 postW_of (r:=l.row.toRowW) (X:=(aN == aN))
  (show WShape.has [] (.bool aN) .bool=aN by first |rfl |decide |simp[WShape.has,WShape.arms,WShape.armsAll])
  (show(WTm.eq .res (.lit (.bool aN))).value [] { args:=args,res:=aw (.bool aN),after:=args }=aw (.bool (aN == aN)) from w_eq_bool (w_res rfl) w_lit) rfl
def attach_call{l:OpenLaw}{n:Nat}{q:Program}{loose:List Str}{Z:(Str->Option Value)->Heap->Prop}{T:World->Heap->Prop}{d:DefRec}
  (hn:l.most=aw n) (C:d.params.defaults=[])
  (call:∀ (w:World) (s₀ b:Shared) (mg I:Str->Option Value) (k:Addr) (o:Obj) (pm cd c:Value) (a:Addr) (v:List Value) (ns:List Int),
   Ground q loose [] Z w s₀ mg I b.heap->T w b.heap ->
   b.heap.get? k=aw o->o.data = .func (docDef d.name d.params d.body d.scope pm cd c)->b.heap.CodeRec cd d.name->mg d.name=aw (.ref k) ->
   b.heap.get? a=aw { cls:=.type "list", data:=.seq v.toArray }->IntsAre v ns->ns.length<=n->b.gens=#[] ->
   codeAny (model l.prog w) callerA (.call (.ref k) ⟨[.ref a],[]⟩) (λr B=>r = .ok (.ret (.bool aN))/\OldK b.heap B.heap/\B.os=b.os/\AllBare B.gens) b) :
  WalkO q loose Z T l.row.toRowW d [] (λf v=>PySem.call f v):=by
 intro w s₀ b mg I G Y k o pm cd c dV kV ho hd L hD J hg U X as u Q hrd O hlo;obtain rfl:dV = .none:=Dflts.none hD C;obtain rfl:kV = .none:=Dflts.noKw hD;obtain⟨a,v,ns,rfl,rfl,y,j,z⟩:=yM hn u O;refine enter_call (V0 (call w s₀ b mg I k o pm cd c a v ns G Y ho (fd_plain hd) L J y j z hg) λr B hq=>?_);obtain⟨rfl,h2,h3,h4⟩:=hq;exact⟨.inl ⟨.bool aN,.bool aN,[],rfl,λ_=>rfl,.bool aN,yN l _,λ_=>⟨List.Pairwise.nil,λ_ hm=>(nomatch hm)⟩⟩,h2,h3,h4⟩
end Att
namespace L2
open PySem PySem.Spec PyProof.Rows
def gx:∀ {v:List Value} {ns:List Int},IntsAre v ns->aM (ns.map V.int) v
 |_,_,.nil=>.nil
 |_,_,.cons n t h=>.cons ⟨t,rfl⟩ (gx h)
abbrev eU(s:Stmt):WO:=match s with
 |.FunctionDef _ a _ _ _ _ _ _ _ _=>a
 |_=>{ posonlyargs:=[],args:=[],vararg:=aD,kwonlyargs:=[],kw_defaults:=[],kwarg:=aD,defaults:=[] }
abbrev bU(s:Stmt):List Stmt:=match s with
 |.FunctionDef _ _ b _ _ _ _ _ _ _=>b
 |_=>[]
abbrev aE(s:Stmt):Scope:=match s with
 |.FunctionDef _ _ _ _ _ _ sc _ _ _=>sc
 |_=>{ kind:=.function,names:=[],isGenerator:=false,isCoroutine:=false }
@[inline]abbrev CX0:CXT:=λ_ _ _ _ _ _=>False
@[inline]abbrev E0:XK:=λ_ _ _=>False
def Pt:uM CX0 X E0:=λ_ _ _ _ _ _ _ h=>h.elim
structure Fun(K:Vp)(x qual:Str)(st:Stmt)(f:Addr)(fd:Ve):Prop where
 ex:∃ (oc:Value) (od:Option Addr) (kV doc pm:Value) (an:Option Addr) (cdv ct:Value) (osl:Array (Option Value)),
  fd=Vt x qual (eU st) (bU st) (aE st) .none kV doc pm an cdv ct/\K.lookup f=aw ⟨oc,od,.func fd,osl⟩/\Vr K cdv qual=aN
 kp:Vy K (.ref f)=aN
section
variable {P:Program} {w:World} {K:Vp} {mg:Str->Option Value} {base:Heap}
def Fun.ok{x b:Str}{st:Stmt}{f:Addr}{u:Ve}{N ps:List Str}{k:Nat}{sp:Sp}(F:Fun K x b st f u)(S:FnScope N ps (aE st))(len:∀v H Q E,sp v H Q E->v.length=ps.length)
  (d:∀ (c:Value) (A:Around) (outer:List Env) (s:Shared) (H:Hp) (v:List V) (Q:VK) (E:XK),Room k (A.deeper (envOfC b (aE st) s.heap.objs.size f c))->sp v H Q E ->
   ∃t,PSs (iB CX0 P w K mg base N b (aE st) f c A outer s H E).nox (bU st) t/\t { nx:=λ_ B=>Q .non B,rt:=Q } (dY N v) H):FnOk P w K mg base CX0 (k+1) f u ps sp:=by
 obtain⟨J,C,kV,y,pm,I,c,ct,O,rfl,L,j⟩:=F.ex;refine IV L j S len λA outer s H v Q E z l=>?_;obtain⟨t,h,q⟩:=d c A outer s H v Q E z l;exact⟨t,h.nox,q⟩
def Fun.binds{x q:Str}{st:Stmt}{f:Addr}{j:Ve}{ps:List Str}(F:Fun K x q st f j)
  (h:∀ (kV d pm:Value) (b:Option Addr) (c ct:Value) (u:List Value),u.length=ps.length->VP (Vt x q (eU st) (bU st) (aE st) .none kV d pm b c ct) ⟨u,[]⟩=pure (ps.zip u)):nR K j ps []:=by
 obtain⟨v,l,kV,d,pm,b,c,ct,O,rfl,L,k⟩:=F.ex;exact .all (h kV d pm b c ct)
def KA{x qual:Str}{st:Stmt}{f:Addr}{q:Value}{j b:Option Addr}{O:Array (Option Value)}{kV d pm C ct:Value}(l:K.lookup f=aw ⟨q,j,.func (Vt x qual (eU st) (bU st) (aE st) .none kV d pm b C ct),O⟩)
  (c:Vr K C qual=aN) (k:Vy K (.ref f)=aN):Fun K x qual st f (Vt x qual (eU st) (bU st) (aE st) .none kV d pm b C ct):=⟨⟨q,j,kV,d,pm,b,C,ct,O,rfl,l,c⟩,k⟩
end
def yO{n:Nat}(h:n<=1000):n < sizeLine:=Y0 h (by decide)
abbrev cdO(c:Addr)(q:Str):HO:=.ext λh=>h.CodeRec (.ref c) q
structure TabOk(T:Addr)(pos:Pos)(qual:Str)(H:Hp)(ps:Array Value):Prop where
 at_:H T=aw (.tbl ps)
 tr:Vn ps.toList
 cd:∀cv,VY pos ps.toList=aw cv->∃c',cv = .ref c'/\H c'=aw (cdO c' qual)
abbrev ER(K:Vp)(x:Str)(a:Addr):Prop:=∀ (f:Addr) (o:Obj) (b:Ve) (c:Addr) (O:Obj) (v:Array Value) (P:Addr),K.lookup f=aw o->o.data = .func b->b.qualname=x->b.code = .ref c->K.lookup c=aw O->O.data = .fields v->v[11]?=aw (.ref P)->P=a
abbrev pO(ifs:List Expr)(env:Env):Sem Bool:=
 forIn ifs aN λc r=>if r=aN then do let ok <-isTrue c env (eval c env);pure (ForInStep.yield ok) else pure (ForInStep.yield r)
def ES{d:Nat}
  (hg:b[d]?=aw ⟨U,Z,ifs,0⟩)
  (h:wpAny M A (pyNext it) (λr z=>match r with
   |none=>Q (.done .next) z
   | some v=>wpAny M A (Uc U it v) (λ_ Y=>wpAny M A (assign U env v) (λ_ T=>wpAny M A (pO ifs env) (λok y=>if ok=aN then (match b[d+1]? with
     |none=>wpAny M A (eval k env) (λx q=>wpAny M A (call (.builtin "list.append") [j,x]) (λ_ u=>Q (.again (.compLoop (.ListComp k b c l) d it j env)) u) E q) E y
     | some g'=>g'.is_async=0/\wpAny M A (eval g'.iter env) (λx q=>wpAny M A (V7 g'.iter env x) (λX u=>wpAny M A (pyIter X) (λI L=>
       wpAny M A (runOwn (.compStart (.ListComp k b c l) (d+1) I j env) env) (λ_ J=>Q (.again (.compLoop (.ListComp k b c l) d it j env)) J) E L) E u) E q) E y)
    else Q (.again (.compLoop (.ListComp k b c l) d it j env)) y) E T) E Y) E z) E s) :
  wpAny M A (compTurn (.ListComp k b c l) d it j env) Q E s:=by
 unfold compTurn;simp only[hg];refine UC (U1 ?_);show wpAny M A (pyNext it >>= _) Q E s;refine UC (UM h (λr z O=>?_) λ_ _ x=>x);cases r with
 |none=>exact US O
 |some v=>
  refine UC (UM O (λ_ Y h2=>?_) λ_ _ x=>x);refine UC (UM h2 (λ_ T h3=>?_) λ_ _ x=>x);refine UC (UM h3 (λok y h4=>?_) λ_ _ x=>x);cases ok with
  |false=>exact US h4
  |true=>
   simp only[if_true] at h4 ⊢;cases hn:b[d+1]? with
   |none=>
    rw[hn] at h4;refine UC (UC (UM h4 (λx q C=>?_) λ_ _ x=>x));exact UC (UM C (λ_ u B=>US (US B)) λ_ _ x=>x)
   |some g'=>
    rw[hn] at h4;obtain⟨ha,h4⟩:=h4;refine UC (UM h4 (λx q C=>UC (U1 ?_)) λ_ _ x=>x);rw[ha];show wpAny M A (V7 g'.iter env x >>= _) Q E q;refine UC (UM C (λX u B=>?_) λ_ _ x=>x);refine UC (UJ (UM B (λI L h7=>?_) λ_ _ x=>x));exact UC (UM h7 (λ_ J h8=>US h8) λ_ _ x=>x)
abbrev cg(c:List (Str × Addr)):List (Str × Vg)->List (Str × Addr)->List (Str × Addr)
 |[],acc=>acc
 |(n,k)::r,acc=>if k == .free then cg c r ((n,(c.lookup n).getD 0)::acc) else cg c r acc
def hX:∀ (b:List (Str × Vg)) (d:List (Str × Addr)),(∀y ∈ b,y.2 = .free->∃c,env.cells.lookup y.1=aw c) ->
  (forIn b d λ(x:Str × Vg) (C:List (Str × Addr))=>(match x with |(name,kind)=>if kind == .free then (do let a <-cellOf env name;pure (ForInStep.yield ((name,a)::C))) else pure (ForInStep.yield C):Sem (ForInStep (List (Str × Addr)))))
   = (pure (cg env.cells b d):Sem (List (Str × Addr)))
 |[],d,_=>by rw[Xv];rfl
 |(n,k)::r,d,h=>by
  rw[Wm];have l:∀y ∈ r,y.2 = .free->∃c,env.cells.lookup y.1=aw c:=λy u=>h y (Ze _ u);cases j:(k == NameKind.free) with
  |true=>
   obtain⟨c,q⟩:=h (n,k) Zi (by simpa using j);have e:cellOf env n=pure c:=by unfold cellOf;rw[show env.cells.lookup n=aw c from q]
   simp only[j,if_true,e,pure_bind];rw[hX r _ l]
   conv=>rhs;rw[cg]
   simp only[j,if_true];rw[show env.cells.lookup n=aw c from q];rfl
  |false=>
   simp only[j,ZR,if_false,pure_bind];rw[hX r _ l]
   conv=>rhs;rw[cg]
   simp only[j,ZR,if_false]
def w9(h:∀y ∈ b.names,y.2 = .free->∃c,env.cells.lookup y.1=aw c):VX b env=pure (cg env.cells b.names []):=by
 have e:=hX (env:=env) b.names [] h;unfold VX;refine Eq.trans ?_ e
 first
  |rfl
  |(rw[bind_pure])
  |(simp only[bind_pure])
def ji:∀ {b:List (Str × Vg)} {d:List (Str × Addr)} {x:Str} {c:Addr},(x,c) ∈ cg C b d->(x,c) ∈ d\/((x,NameKind.free) ∈ b/\c=(C.lookup x).getD 0)
 |[],_,_,_,h=>.inl h
 |(n,k)::r,d,x,c,h=>by
  unfold cg at h;split at h
  ·rename_i l;have j:k = .free:=by simpa using l
   rcases ji h with e |⟨e,q⟩
   ·rcases Zn.mp e with e |e
    ·cases e;exact .inr ⟨by rw[j];exact Zi,rfl⟩
    ·exact .inl e
   ·exact .inr ⟨Ze _ e,q⟩
  ·rcases ji h with e |⟨e,q⟩
   ·exact .inl e
   ·exact .inr ⟨Ze _ e,q⟩
def fJ:∀ {l:List (Str × Addr)},(∃c,(x,c) ∈ l)->∃c,l.lookup x=aw c
 |[],⟨_,h⟩=>nomatch h
 |(n,c)::r,⟨c',h⟩=>by
  rw[Yp];cases hb:x == n with
  |true=>exact⟨c,rfl⟩
  |false=>
   rcases Zn.mp h with e |e
   ·cases e;simp at hb
   ·exact fJ ⟨c',e⟩
def gy:∀ {b:List (Str × Vg)} {acc:List (Str × Addr)},(x,NameKind.free) ∈ b\/(∃c,(x,c) ∈ acc)->∃c,(x,c) ∈ cg cells b acc
 |[],_,h=>h.elim (λe=>nomatch e) id
 |(n,k)::r,acc,h=>by
  unfold cg;split
  ·rename_i d;refine gy ?_;rcases h with h |⟨c,h⟩
   ·rcases Zn.mp h with e |e
    ·cases e;exact .inr ⟨_,Zi⟩
    ·exact .inl e
   ·exact .inr ⟨c,Ze _ h⟩
  ·rename_i d;refine gy ?_;rcases h with h |⟨c,h⟩
   ·rcases Zn.mp h with e |e
    ·cases e;exact absurd rfl d
    ·exact .inl e
   ·exact .inr ⟨c,h⟩
def cH:∀ (c:List (Str × Vg)) (n:Nat) (b:List (Str × Addr)),VW n c b=VW n c []++b
 |[],_,_=>rfl
 |(y,k)::r,n,b=>by
  unfold VW;split
  ·rw[cH r (n+1) ((y,n)::b),cH r (n+1) [(y,n)],Yu];rfl
  ·exact cH r n b
def dJ:∀ (b:List (Str × Vg)) (n:Nat) (d:List (Str × Addr)) (x:Str) (c:Addr),(x,c) ∈ VW n b d->(x,c) ∈ d\/(x,NameKind.cell) ∈ b
 |[],_,_,_,_,h=>.inl h
 |(y,k)::r,n,d,x,c,h=>by
  unfold VW at h;split at h
  ·rename_i l;have j:k = .cell:=by simpa using l
   rcases dJ r _ _ x c h with e |e
   ·rcases Zn.mp e with e |e
    ·cases e;exact .inr (by rw[j];exact Zi)
    ·exact .inl e
   ·exact .inr (Ze _ e)
  ·rcases dJ r _ _ x c h with e |e
   ·exact .inl e
   ·exact .inr (Ze _ e)
abbrev np(sc:Scope)(n:Str)(k:Vg):Vg:=if (k == .free && sc.kind == .function && sc.names.lookup n == aw .cell) then .cell else k
abbrev fK(b sc:Scope):Scope:={ b with names:=b.names.map λy=>(y.1,np sc y.1 y.2) }
def ET(b:Scope)(env:Env):relabel b env=fK b env.scope:=by
 unfold relabel fK
 congr 1
 refine ZZ λy _=>?_;obtain⟨n,k⟩:=y;unfold np;dsimp only;show(if (k == NameKind.free && env.scope.kind == ScopeKind.function && List.lookup n env.scope.names == aw NameKind.cell)=aN then (n,NameKind.cell) else (n,k))=_;split <;> rfl
def fL(sc:Scope)(x:Str):∀b:List (Str × Vg),(b.map λy=>(y.1,np sc y.1 y.2)).lookup x=(b.lookup x).map (np sc x)
 |[]=>rfl
 |(n,k)::r=>by
  rw[Zz,Yp,Yp];dsimp only;cases hb:x == n with
  |true=>
   have q:x=n:=by simpa using hb
   subst q;rfl
  |false=>exact fL sc x r
abbrev uT(scope:Scope)(C:Addr)(env:Env):Env:=
 { scope:=fK scope env.scope,locals:=C,globals:=env.globals,cells:=VW (C+1) scope.names (cg env.cells scope.names []),qual:=env.qual,func:=aD,code:=env.code,frame:=env.frame,builtins:=env.builtins }
def yP
  (h:Q { scope:=scope,locals:=s.heap.objs.size,globals:=env.globals,cells:=VW (s.heap.objs.size+1) scope.names cl,qual:=env.qual,func:=aD,code:=env.code,frame:=env.frame,builtins:=env.builtins }
   { s with heap:=Uj (s.heap.push { cls:=.type "dict", data:=.dict #[] }) scope.names }) :
  wpAny M A (Uf scope env.globals cl [] env.qual aD .none (aw env)) Q E s:=by
 simp only[Uf,X4,if_true];refine UC (wpAny_alloc ?_);refine UC (wpAny_layCells _ (λname kind cells=>by cases b:kind == NameKind.cell <;> simp[b]) _ _ _ _ ?_);rw[show({ s with heap:=s.heap.push { cls:=.type "dict", data:=.dict #[] } }:Shared).heap.objs.size=s.heap.objs.size+1 from Yq ..];simp only[Xv]
 first
  |exact UC (US (US h))
  |exact US h
abbrev AQ(i:Nat):Str:=⟨#[i]⟩
abbrev c8:List Nat->List Str->List Str
 |[],N=>N
 |i::hs,N=>c8 hs (N.set i (AQ i))
def jj:∀ (hs:List Nat) (N:List Str),(c8 hs N).length=N.length
 |[],_=>rfl
 |i::hs,N=>by rw[c8,jj hs,Yc]
def n4:∀ (hs:List Nat) (N:List Str) {i:Nat} {x:Str},(c8 hs N)[i]?=aw x->N[i]?=aw x\/∃j ∈ hs,x=AQ j
 |[],_,_,_,h=>.inl h
 |k::hs,N,i,x,h=>by
  rw[c8] at h;rcases n4 hs (N.set k (AQ k)) h with e |⟨j,hj,e⟩
  ·rw[Yv] at e;split at e
   ·split at e
    ·exact .inr ⟨k,Zi,(Option.some.inj e).symm⟩
    ·cases e
   ·exact .inl e
  ·exact .inr ⟨j,Ze _ hj,e⟩
structure CmScope(own:List Str)(hs:List Nat)(N:List Str)(scope sc:Scope):Prop where
 kind:scope.kind = .function
 nd:(c8 hs N++own).Nodup
 uniq:(scope.names.map (·.1)).Nodup
 dis:∀x ∈ c8 hs N,scope.names.lookup x ≠ aw .local/\scope.names.lookup x ≠ aw .cell
 fr:∀y ∈ scope.names,y.2 = .free->sc.names.lookup y.1=aw .cell\/sc.names.lookup y.1=aw .free
 hd:∀i ∈ hs,scope.names.lookup (AQ i)=aD
def cZ:∀ {l:List (Str × Vg)} {x:Str} {k:Vg},(l.map (·.1)).Nodup->(x,k) ∈ l->l.lookup x=aw k
 |(n,k')::r,x,k,nd,h=>by
  rw[Zz,Z1] at nd;rw[Yp];rcases Zn.mp h with e |e
  ·cases e;simp
  ·have ne:(x == n)=aS:=by
    cases hb:x == n with
    |false=>rfl
    |true=>
     have q:x=n:=by simpa using hb
     subst q;exact absurd (Zy.mpr ⟨(x,k),e,rfl⟩) nd.1
   rw[ne];exact cZ nd.2 e
abbrev cxC(X:Cx)(own:List Str)(hs:List Nat)(b:Scope)(C:Addr)(ex:List Addr)(s:Shared)(H:Hp):Cx where
 prog:=X.prog
 w:=X.w
 K:=X.K
 mg:=X.mg
 base:=X.base
 A:=X.A
 N:=c8 hs X.N++own
 s₀:=s
 H₀:=H
 env:=uT b C X.env
 outer:=X.stack
 stack:=X.stack
 ex:=ex
 fn:=λx=>b.names.lookup x == aw .cell
 calm:=X.calm
 pn:=[]
 xe:=λ_ _=>False
section
variable {X:Cx} {pins:List (Addr × Obj)} {σ:St} {H:Hp} {s:Shared} {own:List Str} {hs:List Nat} {scope:Scope} {fp:List Addr}
def Inv.compStart(I:Inv X pins σ H s)(S:CmScope own hs X.N scope X.env.scope)(hf:∀b ∈ fp,hV X pins H b)(hfo:∀b ∈ fp,b < s.heap.objs.size) :
  Inv (cxC X own hs scope s.heap.objs.size fp s H) [] (σ++ZN own.length aD) H { s with heap:=Uj (s.heap.push { cls:=.type "dict", data:=.dict #[] }) scope.names }:=by
 have keep:∀b o,s.heap.get? b=aw o->(Uj (s.heap.push { cls:=.type "dict", data:=.dict #[] }) scope.names).get? b=aw o:=λb o e=>Uk _ _ b o (Zd _ e);have ok:=cellsFrom_ok scope.names (s.heap.push { cls:=.type "dict", data:=.dict #[] }) (s.heap.objs.size+1) [] ⟨λ_ _ hm=>(nomatch hm),List.Pairwise.nil⟩ (by rw[Yq];exact Zj _);rw[Yq] at ok;have C:(uT scope s.heap.objs.size X.env).cells=VW (s.heap.objs.size+1) scope.names []++cg X.env.cells scope.names []:=cH _ _ _;have hasX:∀x,(x,NameKind.free) ∈ scope.names->∃c,X.env.cells.lookup x=aw c:=λx h=>I.ok.has x (S.fr (x,.free) h rfl)
 have old:∀x c,(x,c) ∈ cg X.env.cells scope.names []->X.env.cells.lookup x=aw c/\(x,NameKind.free) ∈ scope.names:=λx c h=>by
  rcases ji h with e |⟨e,q⟩
  ·exact nomatch e
  ·obtain⟨c',Z⟩:=hasX x e;rw[Z] at q;exact⟨by rw[Z,q];rfl,e⟩
 have O:∀x c,X.env.cells.lookup x=aw c->c < s.heap.objs.size:=λx c h=>let ⟨_,z⟩:=I.cell x c h;z.lt
 have d:∀x c,(uT scope s.heap.objs.size X.env).cells.lookup x=aw c->((x,c) ∈ VW (s.heap.objs.size+1) scope.names [])\/(X.env.cells.lookup x=aw c/\(x,NameKind.free) ∈ scope.names):=λx c h=>by
  have m:=Ue h;rw[C] at m;rcases ZP.mp m with e |e
  ·exact .inl e
  ·exact .inr (old x c e)
 have J:∀x c,(x,c) ∈ VW (s.heap.objs.size+1) scope.names []->s.heap.objs.size+1<=c:=λx c h=>(ok.empty x c h).2
 have noFs:∀b ∈ fp,b ∉ frs X.stack:=λb hb z=>by
  rcases Zn.mp (I.stkSub b z) with e |e
  ·exact(hf b hb).2.1 e
  ·exact(hf b hb).2.2.1 e
 have xok:(cxC X own hs scope s.heap.objs.size fp s H).Ok:=by
  refine⟨I.ok.mod,S.kind,I.ok.glob,I.ok.blt,Zj _,?_,?_,?_,I.ok.hd,I.ok.frames,.inl rfl,?_,I.bs,ZX I.ok.bsz I.sz,?_,noFs,I.stack,I.stkFree⟩
  ·intro x y c U Y;rcases d x c U with a |⟨a,_⟩ <;> rcases d y c Y with b |⟨b,_⟩
   ·exact name_of_addr ok.apart a b
   ·exact absurd (ZC (O y c b) (Xx (J x c a))) (ZL _)
   ·exact absurd (ZC (O x c a) (Xx (J y c b))) (ZL _)
   ·exact I.ok.inj x y c a b
  ·intro x hx;have hx':(fK scope X.env.scope).names.lookup x=aw .cell\/(fK scope X.env.scope).names.lookup x=aw .free:=hx;have e:=fL X.env.scope x scope.names
   have key:(x,NameKind.cell) ∈ scope.names\/(x,NameKind.free) ∈ scope.names:=by
    cases Q:scope.names.lookup x with
    |none=>rw[Q] at e;rcases hx' with z |z <;> (rw[show(fK scope X.env.scope).names.lookup x=aD from e] at z;cases z)
    |some k=>
     have m:=Ue Q;rw[Q] at e;cases k with
     |cell=>exact .inl m
     |free=>exact .inr m
     |_=>rcases hx' with z |z <;> (rw[show(fK scope X.env.scope).names.lookup x=_ from e] at z;simp[np] at z)
   rcases key with h |h
   ·have q:=Vq scope.names (s.heap.objs.size+1) (cg X.env.cells scope.names []) (x:=x) (.inl (cZ S.uniq h));exact Yg.mp q
   ·obtain⟨c,Z⟩:=gy (cells:=X.env.cells) (acc:=[]) (.inl h);have q:∃c,(x,c) ∈ (uT scope s.heap.objs.size X.env).cells:=⟨c,by rw[C];exact ZA _ Z⟩;exact fJ q
  ·intro x c hfn Q
   have T:scope.names.lookup x=aw .cell:=by
    have z:(scope.names.lookup x == aw NameKind.cell)=aN:=hfn
    simpa using z
   rcases d x c Q with a |⟨_,b⟩
   ·exact ZX (Yt _) (J x c a)
   ·rw[cZ S.uniq b] at T;cases T
  ·intro b hb;refine⟨ZH (hfo b hb),λx c h z=>?_⟩;rcases d x c h with a |⟨a,_⟩
   ·exact absurd (ZC (z ▸ hfo b hb) (Xx (J x c a))) (ZL _)
   ·exact(hf b hb).2.2.2.2.1 x c a z
  ·intro b o e hb;rcases (hf b hb).2.2.2.1 with z |z
   ·exact I.ok.noex b o e z
   ·have U:=Zs e;exact absurd (ZC U (ZX I.ok.bsz z)) (ZL _)
 have m0:(Uj (s.heap.push { cls:=.type "dict", data:=.dict #[] }) scope.names).Ns s.heap.objs.size (λ_=>aD):=(Heap.Ns.new s.heap (.type "dict")).keeps (Uk _ _);refine⟨xok,rfl,I.bare,Un.kept keep,⟨_,m0,?_⟩,?_,I.hok.fresh (Zj _),?_,λp hp=>absurd (show p ∈ ([]:List (Addr × Obj)) from hp) (by simp),I.hok.kept keep,?_⟩
 ·intro i x v U Y h3
  have hi:i < σ.length:=by
   by_cases hi:i < σ.length
   ·exact hi
   ·rw[Zp (by lia),Yy] at Y;split at Y <;> cases Y
  rw[Zv hi] at Y;have hN:i < X.N.length:=by rw[<-I.len];exact hi
  have h1h:(c8 hs X.N)[i]?=aw x:=by
   have U:(c8 hs X.N++own)[i]?=aw x:=U
   rwa [Zv (by rw[jj];exact hN)] at U
  have dx:=S.dis x (Zc h1h);have e:=fL X.env.scope x scope.names;have h3':(fK scope X.env.scope).names.lookup x=aw .local\/(fK scope X.env.scope).names.lookup x=aw .cell\/(fK scope X.env.scope).names.lookup x=aw .free:=h3
  have B:scope.names.lookup x=aw .free:=by
   cases Q:scope.names.lookup x with
   |none=>rw[Q] at e;rcases h3' with z |z |z <;> (rw[show(fK scope X.env.scope).names.lookup x=aD from e] at z;cases z)
   |some k=>
    rw[Q] at e dx;cases k with
    |free=>rfl
    |«local»=>exact absurd rfl dx.1
    |cell=>exact absurd rfl dx.2
    |_=>rcases h3' with z |z |z <;> (rw[show(fK scope X.env.scope).names.lookup x=_ from e] at z;simp[np] at z)
  have h1':X.N[i]?=aw x:=by
   rcases n4 hs X.N h1h with z |⟨j,hj,z⟩
   ·exact z
   ·rw[z,S.hd j hj] at B;cases B
  have L:=Ue B;have kX:=S.fr (x,.free) L rfl;obtain⟨m,hn,Q⟩:=I.loc;obtain⟨u,r,l⟩:=Q i x v h1' Y (kX.elim (λz=>.inr (.inl z)) λz=>.inr (.inr z));refine⟨u,r,.inr ⟨?_,?_⟩⟩
  ·have k3:(fK scope X.env.scope).names.lookup x=aw (np X.env.scope x .free):=by rw[B] at e;exact e
   have k4:np X.env.scope x .free = .cell\/np X.env.scope x .free = .free:=by unfold np;split <;> simp
   rcases k4 with z |z
   ·exact .inl (by show(fK scope X.env.scope).names.lookup x=_;rw[k3,z])
   ·exact .inr (by show(fK scope X.env.scope).names.lookup x=_;rw[k3,z])
  ·rcases l with ⟨lk,_⟩ |⟨_,c,Z,z⟩
   ·have lk':X.env.scope.names.lookup x=aw .local:=lk;rcases kX with q |q <;> (rw[q] at lk';cases lk')
   ·refine⟨c,?_,z.keeps keep⟩;obtain⟨c',hc'⟩:=gy (cells:=X.env.cells) (acc:=[]) (.inl L);obtain⟨c2,hl2⟩:=fJ (l:=(uT scope s.heap.objs.size X.env).cells) ⟨c',by rw[C];exact ZA _ hc'⟩;rcases d x c2 hl2 with a |⟨a,_⟩
    ·rcases dJ _ _ _ _ _ a with q |q
     ·exact nomatch q
     ·rw[cZ S.uniq q] at B;cases B
    ·rw[Z] at a;cases a;exact hl2
 ·intro x c h;rcases d x c h with a |⟨a,_⟩
  ·exact⟨_,(ok.empty x c a).1⟩
  ·obtain⟨v,z⟩:=I.cell x c a;exact⟨v,z.keeps keep⟩
 ·intro x c h;rcases d x c h with a |⟨a,_⟩
  ·exact I.hok.fresh (ZX (Yt _) (J x c a))
  ·exact I.freeC x c a
 ·show(σ++ZN own.length aD).length=(c8 hs X.N++own).length;rw[Zf,Zf,XM,jj,I.len]
end
abbrev rX(J:It)(g:TG)(T:TS)(D:Ends)(d:St)(H:Hp):Prop:=∃W:Nat->Nat->St->Hp->Prop,(∃m,W 0 m d H)/\∀i m d H,W i m d H ->
 (J.stop i H/\D.nx d H)\/(J.go i H/\∃N:St->Hp->Prop,(∀b c,N b c->∃k,k < m/\W (i+1) k b c)/\∀x c,J.yld i H x c->g x d c λj l=>T { D with nx:=N,ct:=N,bk:=D.nx } j l)
abbrev PTs(Y:Cx)(ifs:List Expr)(t:TT):Prop:=
 ∀ (b:List (Addr × Obj)) (s:Shared) (c:St) (H:Hp) (Q:Bool->Hp->Prop),Inv Y b c H s->t c H Q->wpAny (model Y.prog Y.w) Y.A (pO ifs Y.env) (TP Y b c Q) Y.xe s
abbrev EU:TT:=λ_ H Q=>Q aN H
def EV:PTs Y [] EU:=λ_ _ _ H _ I h=>by
 unfold pO;rw[Xv];exact US ⟨H,I,h⟩
def EW(hc:PT Y c t):PTs Y [c] t:=λd s j H Q I h=>by
 unfold pO;rw[Wm];simp only[if_true,Xv];refine UC (UC (thn (hc d s j H Q I h) λb k q=>US ?_));exact US q
abbrev PTl(Y:Cx)(q:Expr)(j:List WT)(k:Scope)(z:Pos)(l:Addr)(d:Nat)(t:TS):Prop:=
 ∀ (c:List (Addr × Obj)) (s:Shared) (C:St) (H:Hp) (D:Ends),Inv Y c C H s->t D C H ->
  match j[d+1]? with
  |none=>wpAny (model Y.prog Y.w) Y.A (eval q Y.env) (λx v=>wpAny (model Y.prog Y.w) Y.A (call (.builtin "list.append") [.ref l,x]) (λ_ y=>∃b u,Inv Y c b u y/\D.nx b u) (λ_ _=>False) v) (λ_ _=>False) s
  | some B=>B.is_async=0/\wpAny (model Y.prog Y.w) Y.A (eval B.iter Y.env) (λx v=>wpAny (model Y.prog Y.w) Y.A (V7 B.iter Y.env x) (λX y=>wpAny (model Y.prog Y.w) Y.A (pyIter X) (λI L=>
    wpAny (model Y.prog Y.w) Y.A (runOwn (.compStart (.ListComp q j k z) (d+1) I (.ref l) Y.env) Y.env) (λ_ J=>∃b u,Inv Y c b u J/\D.nx b u) (λ_ _=>False) L) (λ_ _=>False) y) (λ_ _=>False) v) (λ_ _=>False) s
abbrev fv(T:TT)(t:TS):TS:=λD b H=>T b H λc d=>if c=aN then t D b d else D.nx b d
abbrev IY(b:Addr)(T:TE):TS:=λD d H=>T d H λx c=>∃X,c b=aw (.lst X)/\X.length < sizeLine/\D.nx d (upd c b (.lst (X++[x])))
section
variable {Y:Cx} {elt:Expr} {gens:List WT} {scope:Scope} {pos:Pos} {acc:Addr} {d:Nat}
def AR(k:Y.xe=λ_ _=>False)(hn:gens[d+1]?=aD)(U:PE Y elt T):PTl Y elt gens scope pos acc d (IY acc T):=by
 intro b s c H D I h;rw[hn];have j:=U b s c H _ I h;rw[k] at j;refine thn j λx J ⟨v,l,C,u,xs,L,Q,q⟩=>?_;have z:=nZ b J c l (.ref acc) [v] (.ref acc) [x] (λy Z=>y = .non/\D.nx c Z) C rfl (.cons u .nil) ⟨acc,xs,v,rfl,rfl,L,Q,rfl,q⟩;rw[k] at z;exact thn z λy s6 ⟨v6,B,O,r6,e6,X⟩=>⟨c,B,O,X⟩
def ll{A:Around}{R:Result->Shared->Prop}{prog:Program}{w:World}{s:Shared}{T I:Expr}{ifs:List Expr}{it acc:Value}{env:Env}(q:gens[d]?=aw ⟨T,I,ifs,0⟩)
  (l:codeAny (model prog w) A (.compLoop (.ListComp elt gens scope pos) d it acc env) R s)
  (h:wpAny (model prog w) A (pyIter it) (λb c=>codeAny (model prog w) A (.compLoop (.ListComp elt gens scope pos) d b acc env) R c) (notedBy (model prog w) A env λx c=>R (.error x) c) s) :
  codeAny (model prog w) A (.compStart (.ListComp elt gens scope pos) d it acc env) R s:=by
 refine codeAny_of_tree ?_;show wpAny _ _ ((compStart (.ListComp elt gens scope pos) d it acc env).onRaise (λx=>do noteFrame x env;standAt theWindowsPlace)) _ _ s;refine wpAny_notedAt ?_;unfold compStart;have k:(clausesOf (.ListComp elt gens scope pos))[d]?=aw ⟨T,I,ifs,0⟩:=q;simp only[k,Option.elim];show wpAny _ _ (ask >>= _) _ _ s;refine UC (wpAny_askSetting (wpAny_ite ?_));split
 ·first
   |exact UC (US (US (And.intro rfl l)))
   |exact US (And.intro rfl l)
 ·first
   |exact UC (UX (UC (U1 (UC (UM h (λb c j=>US (And.intro rfl j)) λ_ _ x=>x)))))
   |(refine UC (UX ?_);show wpAny _ _ (standAt I.pos >>= _) _ _ s;exact UC (U1 (UC (UM h (λb c j=>US (And.intro rfl j)) λ_ _ x=>x))))
def n5
  (hx:Y.xe=λ_ _=>False) (hc:Y.calm=aN) (hg:gens[d]?=aw ⟨tg,iter,ifs,0⟩) (T:Turn Y.prog Y.w Y.K tg J I it tn) (I2:Inv Y c σ H s) (st2:tn 0 s.heap) (f2:∀b ∈ I,hV Y c H b)
  (hgt:PG Y tg g) (hts:PTs Y ifs ti) (htl:PTl Y elt gens scope pos acc d t) (hW:rX J g (fv ti t) D σ H) :
  codeAny (model Y.prog Y.w) Y.A (.compLoop (.ListComp elt gens scope pos) d (.ref it) (.ref acc) Y.env) (λr s'=>r = .ok .next/\∃j H',Inv Y c j H' s'/\D.nx j H') s:=by
 obtain⟨W,⟨m0,w0⟩,X⟩:=hW;have v:∀ {H':Hp},(∀b ∈ I,H' b=aD)->∀b ∈ I,hV Y c H' b:=λhn b hb=>⟨hn b hb,(f2 b hb).2⟩;refine codeAny_loop rfl (λn s'=>∃i j H',Inv Y c j H' s'/\tn i s'.heap/\(∀b ∈ I,H' b=aD)/\W i n j H') (λn s3 hI=>?_) m0 ⟨0,σ,H,I2,st2,λb hb=>(f2 b hb).1,w0⟩;obtain⟨i,k,H3,I3,Z,Q,w3⟩:=hI;show wpAny _ _ ((compTurn (.ListComp elt gens scope pos) d (.ref it) (.ref acc) Y.env).onRaise (λx=>do noteFrame x Y.env;theTreesLotGoes x)) _ _ s3;refine wpAny_noted (UM (E:=λ_ _=>False) ?_ (λ_ _ q=>q) λ_ _ z=>z.elim);refine ES hg ?_;rcases X i n k H3 w3 with ⟨stop,qn⟩ |⟨go,N,hN,step⟩
 ·refine thn (T.done Y rfl rfl rfl hc i c s3 k H3 _ I3 (v Q) Z stop) λr s4 ⟨hr,I4⟩=>?_;subst hr;exact⟨rfl,k,H3,I4,qn⟩
 ·refine thn (T.item Y rfl rfl rfl hc i c s3 k H3 _ I3 (v Q) Z go) λr s4 ⟨u,hr,h4⟩=>?_;subst hr;refine thn h4 λ_ s5 ⟨x,H5,I5,r5,y5,y,fr5⟩=>?_;have I5':=I5.pinned (v fr5) (T.obj _ _ y)
  have again:∀ {l:St} {B:Hp} {L:Shared},Inv Y (c++kY I s5.heap) l B L->N l B->∃m,m < n/\∃i j H',Inv Y c j H' L/\tn i L.heap/\(∀b ∈ I,H' b=aD)/\W i m j H':=λ{l B L} O n7=>by
   obtain⟨m',hm,w7⟩:=hN l B n7;refine⟨m',hm,i+1,l,B,O.unpinned,T.keep _ _ _ y λb hb o e=>(O.pin (b,o) (ZA _ (ZA _ (eS hb e)))).1,λb hb=>?_,w7⟩;obtain⟨o,e,dd⟩:=T.obj _ _ y b hb;exact(O.pin (b,o) (ZA _ (ZA _ (eS hb e)))).2.1
  have hG:=hgt _ s5 k H5 x u _ I5' r5 (step x H5 y5);rw[hx] at hG;refine thn hG λ_ s6 ⟨U,H6,I6,q6⟩=>?_;have hT:=hts _ s6 U H6 _ I6 q6;rw[hx] at hT;refine thn hT λok L ⟨B,O,q7⟩=>?_;cases ok with
  |false=>
   simp only[ZR,if_false] at q7 ⊢;exact⟨by trivial,again O q7⟩
  |true=>
   simp only[if_true] at q7 ⊢;have C:=htl _ L U B _ O q7;cases hn:gens[d+1]? with
   |none=>
    rw[hn] at C;exact thn C λx s8 h8=>thn h8 λ_ s9 ⟨σ9,H9,I9,q9⟩=>⟨by trivial,again I9 q9⟩
   |some g'=>
    rw[hn] at C;obtain⟨ha,C⟩:=C;exact⟨ha,thn C λx s8 h8=>thn h8 λx' s9 h9=>thn h9 λit' s10 h10=>thn h10 λ_ s11 ⟨σ9,H9,I9,q9⟩=>⟨by trivial,again I9 q9⟩⟩
abbrev AS(j:TI)(g:TG)(T:TT)(t:TS):TS:=λD b H=>j b H λJ c=>rX J g (fv T t) D b c
def EX(u:gens[d+1]?=aw ⟨B,b,ifs,0⟩)
  (hi:PI Y B b wi) (y:PG Y B g) (k:PTs Y ifs O) (l:PTl Y elt gens scope pos acc (d+1) t) (C:Y.xe=λ_ _=>False:=by rfl) (hc:Y.calm=aN:=by rfl) (hs:∀x,V7 b Y.env x=pure x:=by intro _;rfl) :
  PTl Y elt gens scope pos acc d (AS wi g O t):=by
 intro c s Q H D I h;rw[u];refine⟨rfl,?_⟩;have z:=hi c s Q H _ I h;rw[C] at z;refine thn z λv s5 h5=>UQ (hs v) (thn h5 λitv s6 X=>?_);obtain⟨it,fp,tn,J,H6,e,Z,T,j,U,W⟩:=X;subst e;have L:=n5 (elt:=elt) (gens:=gens) (scope:=scope) (pos:=pos) (acc:=acc) C hc u T Z j U y k l W;refine wpAny_runOwn (V0 (ll u L (T.self _ 0 s6 _ _ j L)) λr s8 hr=>?_);obtain⟨rfl,q⟩:=hr;exact q
end
abbrev AU(own:Nat)(j:TI)(g:TG)(T:Addr->TS):TE:=λd H Q=>j d H λJ c=>∀b,c b=aD ->
 rX J g (T b) { nx:=λ_ k=>Q (.ref b) k,rt:=λ_ _=>False } (d++ZN own aD) (upd c b (.lst []))
section
variable {X:Cx} {elt tg iter:Expr} {ifs:List Expr} {rest:List WT} {scope:Scope} {pos:Pos} {own:List Str} {hs:List Nat} {wi:TI} {g:TG} {ti:TT} {t:Addr->TS}
def lm{l:List (Addr × Obj)}{σ:St}{Q:VK}{itv:Value}{s2:Shared}{E:Value->Shared->Prop}(hc:X.calm=aN)(S:CmScope own hs X.N scope X.env.scope)
  (hgt:∀C ex s H,PG (cxC X own hs scope C ex s H) tg g) (hts:∀C ex s H,PTs (cxC X own hs scope C ex s H) ifs ti)
  (htl:∀C ex s H j,PTl (cxC X own hs scope C ex s H) elt (⟨tg,iter,ifs,0⟩::rest) scope pos j 0 (t j))
  (h2:PIE X l σ tg (λJ H1=>∀j,H1 j=aD->rX J g (fv ti (t j)) { nx:=λ_ v=>Q (.ref j) v,rt:=λ_ _=>False } (σ++ZN own.length aD) (upd H1 j (.lst []))) itv s2)
  {RR:Value->Addr->Result->Shared->Prop} (hRR:∀j C v s',Inv X l σ v s'->hV X l v C->(∃m,s'.heap.Ns C m)->Q (.ref j) v->RR (.ref j) C (.ok .next) s') :
  wpAny (model X.prog X.w) X.A (newList []) (λj k=>wpAny (model X.prog X.w) X.A (Uf scope X.env.globals (cg X.env.cells scope.names []) [] X.env.qual aD .none (aw X.env)) (λu B=>
   codeAny (model X.prog X.w) X.A (.compStart (.ListComp elt (⟨tg,iter,ifs,0⟩::rest) scope pos) 0 itv j { u with scope:=relabel scope X.env }) (RR j u.locals) B) E k) E s2:=by
 obtain⟨it,y,tn,J,H2,e,I2,T,st2,f2,R⟩:=h2;subst e;refine UP ?_;have U:Inv X l σ (upd H2 s2.heap.objs.size (.lst [])) { s2 with heap:=s2.heap.push { cls:=.type "list", dict:=aD,data:=.seq ([]:List Value).toArray } }:=I2.lnew (its:=[]) (t':=s2.toks) .nil (Z5 _);have W:=R s2.heap.objs.size (I2.hok.fresh (Zj _));generalize hs3:({ s2 with heap:=s2.heap.push { cls:=.type "list", dict:=aD,data:=.seq ([]:List Value).toArray } }:Shared)=k at U ⊢;have e3:k.heap=s2.heap.push { cls:=.type "list", dict:=aD,data:=.seq ([]:List Value).toArray }:=by rw[<-hs3]
 have k3:∀b o,s2.heap.get? b=aw o->k.heap.get? b=aw o:=λb o e=>by rw[e3];exact Zd _ e
 have st3:tn 0 k.heap:=T.keep _ _ _ st2 λb _ o e=>k3 b o e;have fne:∀b ∈ y,b < s2.heap.objs.size:=λb hb=>let ⟨o,e,_⟩:=T.obj _ _ st2 b hb;Zs e;have z:∀b ∈ y,hV X l (upd H2 s2.heap.objs.size (.lst [])) b:=λb hb=>⟨by rw[ac (ZH (fne b hb))];exact(f2 b hb).1,(f2 b hb).2⟩;have Z:∀b ∈ y,b < k.heap.objs.size:=λb hb=>let ⟨o,e,_⟩:=T.obj _ _ st3 b hb;Zs e;refine yP ?_;have O:=U.compStart S z Z;generalize hH3:upd H2 s2.heap.objs.size (.lst [])=H3 at U O z W
 have eE:({ scope:=relabel scope X.env,locals:=k.heap.objs.size,globals:=X.env.globals,cells:=VW (k.heap.objs.size+1) scope.names (cg X.env.cells scope.names []),qual:=X.env.qual,func:=aD,code:=X.env.code,frame:=X.env.frame,builtins:=X.env.builtins }:Env)=uT scope k.heap.objs.size X.env:=by
  unfold uT;rw[ET]
 generalize hs4:({ k with heap:=Uj (k.heap.push { cls:=.type "dict", data:=.dict #[] }) scope.names }:Shared)=B at O ⊢;have k4:∀b o,k.heap.get? b=aw o->B.heap.get? b=aw o:=λb o e=>by rw[<-hs4];exact Uk _ _ b o (Zd _ e)
 have st4:tn 0 B.heap:=T.keep _ _ _ st3 λb _ o e=>k4 b o e
 have f4:∀b ∈ y,hV (cxC X own hs scope k.heap.objs.size y k H3) [] H3 b:=λb hb=>by
  refine⟨(z b hb).1,ZH (Z b hb),O.ok.exfs b hb,.inl hb,λx c hl=>(O.ok.exf b hb).2 x c hl,λp hp=>absurd (show p ∈ ([]:List (Addr × Obj)) from hp) (by simp)⟩
 have L:=n5 (Y:=cxC X own hs scope k.heap.objs.size y k H3) (elt:=elt) (gens:=⟨tg,iter,ifs,0⟩::rest) (d:=0) (scope:=scope) (pos:=pos) (acc:=s2.heap.objs.size) rfl hc rfl T O st4 f4 (hgt _ _ _ _) (hts _ _ _ _) (htl _ _ _ _ _) W;have C:=ll (elt:=elt) (gens:=⟨tg,iter,ifs,0⟩::rest) (d:=0) (scope:=scope) (pos:=pos) rfl L (T.self _ 0 B _ _ st4 L);show codeAny (model X.prog X.w) X.A (.compStart (.ListComp elt (⟨tg,iter,ifs,0⟩::rest) scope pos) 0 (.ref it) (.ref s2.heap.objs.size) { scope:=relabel scope X.env,locals:=k.heap.objs.size,globals:=X.env.globals,cells:=VW (k.heap.objs.size+1) scope.names (cg X.env.cells scope.names []),qual:=X.env.qual,func:=aD,code:=X.env.code,frame:=X.env.frame,builtins:=X.env.builtins }) (RR (.ref s2.heap.objs.size) k.heap.objs.size) B;rw[eE];refine V0 C λr s' hr=>?_;obtain⟨rfl,σ',v,I,q⟩:=hr;obtain⟨mC,nC,_⟩:=id I.loc;have freeC:v k.heap.objs.size=aD:=I.free;refine hRR _ _ v s' ?_ (U.fpOk (Zj _) freeC) ⟨mC,nC⟩ q;exact U.call' (ch:=y) I.os I.base I.hok I.bare λb hb=>⟨(z b hb).2.2.2.1,(z b hb).2.1,(z b hb).2.2.2.2.1,(z b hb).2.2.2.2.2⟩
def EY(hc:X.calm=aN)(S:CmScope own hs X.N scope X.env.scope)(hi:PI X tg iter wi)
  (B:∀C ex s H,PG (cxC X own hs scope C ex s H) tg g) (k:∀C ex s H,PTs (cxC X own hs scope C ex s H) ifs ti)
  (u:∀C ex s H c,PTl (cxC X own hs scope C ex s H) elt (⟨tg,iter,ifs,0⟩::rest) scope pos c 0 (t c))
  (hs:∀x,V7 iter X.env x=pure x:=by intro _;rfl) :
  PE X (.ListComp elt (⟨tg,iter,ifs,0⟩::rest) scope pos) (AU own.length wi g λc=>fv ti (t c)):=by
 intro d s J H Q I h;rw[eval_ListComp];refine UE (use:=aD) (cl:=cg X.env.cells scope.names []) rfl hs (w9 λy z l=>I.ok.has y.1 (S.fr y z l)) S.kind (λy z l=>cZ S.uniq (by rw[<-l];exact z)) ?_;refine thn (hi d s J H _ I h) λv s1 O=>thn O λitv s2 Y=>?_;refine lm hc S B k u Y (RR:=λc C=>compPost (model X.prog X.w) X.A X.xe aD (EP X d J Q) c C) λc C Z T I' j L q=>?_;obtain⟨m,nm⟩:=L;refine⟨m,nm,λh' U=>⟨.ref c,Z,?_,rfl,q⟩⟩;exact I'.turned (t':=T.toks) (λb o hb e=>(U.2 b hb).trans e) j.1 j.2.1 j.2.2.2.1 j.2.2.2.2.1 j.2.2.2.2.2
def EZ{i:Nat}(hc:X.calm=aN)(S:CmScope own hs X.N scope X.env.scope)(hN:X.N.Nodup)(T:X.N[i]?=aw x)(hx:X.env.scope.names.lookup x=aw .local)(hi:PI X tg iter wi)
  (hgt:∀C ex s H,PG (cxC X own hs scope C ex s H) tg g) (J:∀C ex s H,PTs (cxC X own hs scope C ex s H) ifs ti)
  (U:∀C ex s H c,PTl (cxC X own hs scope C ex s H) elt (⟨tg,iter,ifs,0⟩::rest) scope pos c 0 (t c))
  (L:Ux (.ListComp elt (⟨tg,iter,ifs,0⟩::rest) scope pos) (aw (.Name x d)) u.line X.env=pure aN:=by rfl)
  (hs:∀x,V7 iter X.env x=pure x:=by intro _;rfl) :
  PS X (.Assign [.Name x d] (.ListComp elt (⟨tg,iter,ifs,0⟩::rest) scope pos) u) (Ay (AU own.length wi g λc=>fv ti (t c)) (rO i)):=by
 intro j s σ H D I h;rw[exec_Assign_Name_used _ _ _ _ L];refine UC (U1 (UC ?_));show wpAny _ X.A (do let _ <-comprehension (.ListComp elt (⟨tg,iter,ifs,0⟩::rest) scope pos) scope X.env _ (newList []) aS (eval iter X.env) (aw (assign (.Name x d) X.env))) _ _ s
 refine UC (UM (UE (use:=aw (assign (.Name x d) X.env)) (Q:=λ_ l=>SP X j D .next l) (cl:=cg X.env.cells scope.names []) rfl hs (w9 λy hy O=>I.ok.has y.1 (S.fr y hy O)) S.kind (λy hy O=>cZ S.uniq (by rw[<-O];exact hy))
  ?_) (λ_ l hq=>US (US hq)) λ_ _ e=>e)
 refine thn (hi j s σ H _ I h) λv s1 h1=>thn h1 λitv s2 h2=>?_;refine lm (Q:=λy H'=>rO i y σ H' D.nx) hc S hgt J U h2 (RR:=λc C=>compPost (model X.prog X.w) X.A X.xe (aw (assign (.Name x d) X.env)) (λ_ l=>SP X j D .next l) c C) λc C H' l I' k m' q=>?_;obtain⟨m,nm⟩:=m';show wpAny _ X.A (assign (.Name x d) X.env (.ref c)) _ _ _;refine wpAny_assign_Name (nP (v:=.ref c) I' hN T (.inl hx) rfl (λZ Y B=>?_) (.inr hx));obtain⟨a,sb1,ha⟩:=B
 have ne:C ≠ a:=by
  rcases ha with e |e
  ·rw[e];exact k.2.1
  ·exactλz=>k.2.2.2.2.1 x a e z.symm
 refine⟨m,nm.sameBut sb1 ne,λh' sb=>⟨_,H',?_,q⟩⟩;exact Y.turned (t':=Z.toks) (λb o hb e=>(sb.2 b hb).trans e) k.1 k.2.1 k.2.2.2.1 k.2.2.2.2.1 k.2.2.2.2.2
end
end L2
namespace HT
open PySem PyProof.Rows
section
variable {prog:Program} {w:World} {A:Around} {E:Value->Shared->Prop} {s:Shared}
def AV{t b:Addr}{q:List Value}{Q:Value->Shared->Prop}(z:IsTup s.heap t ([]:List Value).toArray)(hb:IsTup s.heap b q.toArray)(h:Q (.ref b) s):wpAny (model prog w) A (VO .Add (.ref t) (.ref b)) Q E s:=by
 obtain⟨⟨I,B,u,sl⟩,y,v,n,hd⟩:=id z;obtain⟨⟨C,k,data2,l⟩,j,d,J,c⟩:=id hb;simp only at v hd d c;subst v hd d c
 exact V2 ⟨_,y,rfl⟩ ⟨_,j,rfl⟩ Ug Us W8 WZ (WV _ _)
   (tuple_addW0 t b _ q.toArray n J B k sl l (by simp)) ⟨y,j,h⟩
def gJ{t sl:Addr}{I:Array Value}{l v:Value}{lo hi:Option Int}{Q:Value->Shared->Prop}(b:IsTup s.heap t I)(hs:s.heap.IsSliceOf sl l v .none)(u:IsPart l lo)(q:IsPart v hi)
  (hw:sIx I.size 0 lo=0/\sIx I.size I.size hi=I.size) (h:Q (.ref t) s):wpAny (model prog w) A (getItem (.ref t) (.ref sl)) Q E s:=by
 obtain⟨os,d,j,y⟩:=id hs;have k:s.TypeIs (.ref sl) "slice" := ⟨os,d,j⟩;obtain⟨o,C,B,n,hd⟩:=id b;unfold getItem
 try with_reducible refine UJ ?_
 first |refine UC (US ?_) |skip
 refine UC (UZ b.typeIs (by decide) ?_)
 refine UC (wpAny_callSpecial?_slot (name:=Str.ofString "__getitem__") b.typeIs WN
  (UD WN b.typeIs entry_tuple_getitem ?_ (args_tuple_getitem _ _)))
 show wpAny _ _ (Builtin.Tuple.tupleItemsOf (.ref t) >>= _) _ _ s;refine UC (tupleItemsOf_ b ?_);refine UC (U4 k ?_);rw[if_pos (by decide)];refine UC (ei hs u q ?_)
 have c:((((sIx I.size 0 lo:Nat):Int) == 0 && (1:Int) == 1 && (sIx I.size I.size hi - sIx I.size 0 lo) == I.size)=aN):=by
  rw[hw.1,hw.2];simp
 show wpAny _ _ (if (((sIx I.size 0 lo:Nat):Int) == 0 && (1:Int) == 1 && (sIx I.size I.size hi - sIx I.size 0 lo) == I.size)=aN then _ else _) _ _ s;rw[if_pos c];have z:s.TypeIs (.ref t) "tuple" := b.typeIs
 first
  | (refine UC (m:=Builtin.Tuple.tupleIsExact _) ?_
     unfold Builtin.Tuple.tupleIsExact;refine UC (U4 z (US ?_));rw[if_pos (by decide)];exact UC (UX (US ⟨_,rfl,US h⟩)))
end
end HT
namespace L2
open PySem PySem.Spec PyProof.Rows
def rY{s:Shared}{h':Heap}{o:Obj}(d:∀b x,b ∉ [s.heap.objs.size]->(s.heap.push o).get? b=aw x->h'.get? b=aw x):∀b x,s.heap.get? b=aw x->h'.get? b=aw x:=
 λb x e=>d b x (λc=>by rw[ZE.mp c] at e;exact ZL _ (Zs e)) (Zd _ e)
section
variable {X:Cx}
abbrev Pu(K:Vp):R2:=λx y H Q=>∃a b c Y,x = .ref a/\y = .ref b/\SqT K H a c/\SqT K H b Y/\c.length+Y.length<=sizeLine ∧
 (c=[]->Q (.ref b) H)/\(c ≠ []->Y=[]->Q (.ref a) H)/\(c ≠ []->Y ≠ []->∀p,H p=aD->Q (.ref p) (upd H p (.tup (c++Y))))
def E5:OpR X (VO .Add) (Pu X.K):=by
 intro c s J H x y v u Q I k z h;obtain⟨a,b,q,Y,rfl,rfl,j,hb,O,U,L,T⟩:=h;by_cases d:q=[]
 ·subst d;cases k;cases z;obtain⟨Z,r1,C,_⟩:=I.tuple j;obtain⟨l,r2,B,_⟩:=I.tuple hb;cases r1;exact HT.AV C B ⟨.ref b,H,I,rfl,U rfl⟩
 ·exact EM c s J H _ _ v u Q I k z ⟨a,b,q,Y,rfl,rfl,j,hb,d,O,L d,T d⟩
abbrev So(K:Vp):V->Option Int->Option Int->Hp->VK->Prop:=λx lo hi H Q=>∃a b,x = .ref a/\SqT K H a b ∧
 ((HT.sIx b.length 0 lo=0/\HT.sIx b.length b.length hi=b.length)->Q (.ref a) H) ∧
 (¬ (HT.sIx b.length 0 lo=0/\HT.sIx b.length b.length hi=b.length)->∀p,H p=aD->Q (.ref p) (upd H p (.tup (lj b lo hi))))
def E6:SlR X (So X.K):=by
 intro c s C H x v B L lo hi sl Q I q hs y u h;obtain⟨a,b,rfl,z,J,O⟩:=h;by_cases j:(HT.sIx b.length 0 lo=0/\HT.sIx b.length b.length hi=b.length)
 ·cases q;obtain⟨k,r,l,T⟩:=I.tuple z;have d:k.toArray.size=b.length:=by rw[Zk];exact r.length.symm
  refine⟨"tuple", _,PyProof.Rows.slot_tuple_getitem.lookup,l.typeIs,?_⟩;exact HT.gJ l hs y u (by rw[d];exact j) ⟨.ref a,H,I,rfl,J j⟩
 ·exact Ku c s C H _ v B L lo hi sl Q I q hs y u ⟨a,b,rfl,z,j,O j⟩
def rZ:aX X (.builtin "isinstance") (λxs H Q=>∃x n t b,xs=[x,.ty n]/\TyOf X.K H x t/\VA X.K t (.type n)=aw b/\Q (.bl b) H):=by
 intro c s k H xs U Q I r h;obtain⟨x,n,t,b,rfl,ty,e,q⟩:=h;obtain⟨u,l,rfl,j,d⟩:=nQ r;cases d;exact yK I j ty e λT=>⟨.bl b,H,I.tok T,rfl,q⟩
def hY:∀ {bs:List Bool} {u:List Value},aM (bs.map V.bl) u->u=bs.map Value.bool
 |[],_,.nil=>rfl
 |_::_,_,.cons r t=>by rw[Zz,hY t];cases r;rfl
def yQ(hc:X.calm=aN):aX X (.builtin "all") (λxs H Q=>∃ (l:Addr) (bs:List Bool),xs=[.ref l]/\SqL X.K H l (bs.map V.bl)/\Q (.bl (bs.all id)) H):=by
 intro y s Y H xs us Q I r h;obtain⟨l,bs,rfl,B,q⟩:=h;obtain⟨u,rfl,z⟩:=cb r;cases z;obtain⟨O,J,p,hz⟩:=I.list B;have e:=hY J;subst e;have d:=p.isList;have j:l < s.heap.objs.size:=by obtain⟨_,e,_⟩:=d;exact Zs e
 refine call_all_walk (UT d ?_)
 refine⟨s.heap.objs.size,[s.heap.objs.size,l],[s.heap.objs.size],_,_,_,λi=>(bs[i]?).getD aN,rfl,Walks.list (A:=X.A.in1) (I.ok.hd hc) _ l (ZH j) _,
  ⟨⟨_,Zu _ rfl,rfl,rfl⟩,d.push _⟩,λi v s' Z E' L k=>?_,λh' T C=>?_⟩
 ·have c:(bs.map Value.bool)[i]?=aw v:=by simpa using L
  rw[Zl] at c;cases hb:bs[i]? with
  |none=>rw[hb] at c;cases c
  |some b=>
   rw[hb] at c;have U:Value.bool b=v:=Option.some.inj c;subst U;simp only[hb,ZT] at k;exact U2 k
 ·have e:((Zg (bs.map Value.bool).toArray.size).all λi=>(bs[i]?).getD aN)=bs.all id:=by
   rw[Zk,Za,Yh];simp only[ZW,ZJ,id];constructor
   ·intro h b hb;obtain⟨i,hi,rfl⟩:=XQ.mp hb;have:=h i hi
    rwa [gEG hi,ZT] at this
   ·intro h i hi;rw[gEG hi,ZT];exact h _ (ZM hi)
  rw[e];exact⟨.bl (bs.all id),H,I.kept (t':=T) (rY C),rfl,q⟩
def yR(hc:X.calm=aN):aX X (.builtin "any") (λxs H Q=>∃ (l:Addr) (bs:List Bool),xs=[.ref l]/\SqL X.K H l (bs.map V.bl)/\Q (.bl (bs.any id)) H):=by
 intro y s Y H xs us Q I r h;obtain⟨l,bs,rfl,B,q⟩:=h;obtain⟨u,rfl,z⟩:=cb r;cases z;obtain⟨O,J,p,hz⟩:=I.list B;have e:=hY J;subst e;have d:=p.isList;have j:l < s.heap.objs.size:=by obtain⟨_,e,_⟩:=d;exact Zs e
 refine call_any_walk (UT d ?_)
 refine⟨s.heap.objs.size,[s.heap.objs.size,l],[s.heap.objs.size],_,_,_,λi=>(bs[i]?).getD aS,rfl,Walks.list (A:=X.A.in1) (I.ok.hd hc) _ l (ZH j) _,
  ⟨⟨_,Zu _ rfl,rfl,rfl⟩,d.push _⟩,λi v s' Z E' L k=>?_,λh' T C=>?_⟩
 ·have c:(bs.map Value.bool)[i]?=aw v:=by simpa using L
  rw[Zl] at c;cases hb:bs[i]? with
  |none=>rw[hb] at c;cases c
  |some b=>
   rw[hb] at c;have U:Value.bool b=v:=Option.some.inj c;subst U;simp only[hb,ZT] at k;exact U2 k
 ·have e:((Zg (bs.map Value.bool).toArray.size).any λi=>(bs[i]?).getD aS)=bs.any id:=by
   rw[Zk,Za,Yh];simp only[Yz,ZJ,id];constructor
   ·rintro⟨i,hi,h⟩;rw[gEG hi,ZT] at h;exact⟨_,ZM hi,h⟩
   ·rintro⟨b,hb,h⟩;obtain⟨i,hi,rfl⟩:=XQ.mp hb;exact⟨i,hi,by rw[gEG hi,ZT];exact h⟩
  rw[e];exact⟨.bl (bs.any id),H,I.kept (t':=T) (rY C),rfl,q⟩
def KC:OpR X (V1 .Is) (λx y H Q=>∃b c,x = .bl b/\y = .bl c/\Q (.bl (b == c)) H):=by
 intro d s l H x y v u Q I j k h;obtain⟨b,c,rfl,rfl,q⟩:=h;cases j;cases k;exact is_bool ⟨.bl _,H,I,rfl,q⟩
def yS:OpR X (V1 .IsNot) (λx y H Q=>∃b c,x = .bl b/\y = .bl c/\Q (.bl (b != c)) H):=by
 intro d s l H x y v u Q I j k h;obtain⟨b,c,rfl,rfl,q⟩:=h;cases j;cases k;exact isnot_bool ⟨.bl _,H,I,rfl,q⟩
def lq(hc:X.calm=aN):∀ {c:List (Addr × Obj)} {s:Shared} {L:St} {H:Hp} {Q:VK} {r:Addr} {n:Nat} {t u v:Tok},Inv X c L H s->IsRange s.heap r 0 n 1 t u v->n<=1000->(∀l,H l=aD->Q (.ref l) (upd H l (.lst ((Zg n).map λ(i:Nat)=>V.int i)))) ->
  wpAny (model X.prog X.w) X.A (call (.type "list") [.ref r]) (EP X c L Q) X.xe s:=by
 intro c s L H Q r n t u v I hr hn q;have J:Builtin.Range.small 0 n 1=aN:=small_one (by lia) (by lia) (by lia) (by lia);refine call_list_range (n:=n) (I.ok.hd hc) hr J (by rw[Ul];split <;> lia) (by lia) λh' T b c' Z O d=>?_;refine⟨.ref s.heap.objs.size,_,I.laid (t':=T) (o:=.lst ((Zg n).map λ(i:Nat)=>V.int i)) Z (Zj _) ?_,rfl,q _ (I.hok.fresh (Zj _))⟩;have C:b.size=n:=d.1;refine⟨by rw[Za,ZB];exact Y4 (yO hn),b.toList,c',?_,by simpa using O⟩
 have go:∀ (m:Nat) (k:Nat) (l:List Value),l.length=m->(∀j x,l[j]?=aw x->∃T,x=Value.int (((k+j:Nat):Nat):Int) T)->aM ((List.range' k m).map λ(i:Nat)=>V.int i) l:=by
  intro m
  induction m with
  |zero=>intro k l z _;cases l with |nil=>exact .nil |cons _ _=>cases z
  |succ m ih=>
   intro k l z B;cases l with
   |nil=>cases z
   |cons x l=>
    rw[List.range'_succ,Zz];obtain⟨t,e⟩:=B 0 x rfl;refine .cons ⟨t,by simpa using e⟩ (ih (k+1) l (by simpa using z) λj y hy=>?_);obtain⟨t',Y⟩:=B (j+1) y (by simpa using hy);exact⟨t',by rw[Y,show((k+(j+1):Nat):Int)=((k+1+j:Nat):Int) from by lia]⟩
 rw[List.range_eq_range'];refine go n 0 b.toList (by simpa using C) λj x B=>?_;obtain⟨U,e⟩:=d.2 j x (by simpa using B);exact⟨U,by rw[e,show(0:Int)+(j:Nat) * 1=((0+j:Nat):Int) from by lia]⟩
end
section
variable {κ:Type} [DecidableEq κ]
abbrev jk(b:List (κ × V))(k:κ):Option V:=(b.find? λc=>decide (c.1=k)).map (·.2)
abbrev lu(b:List (κ × V))(k:κ)(v:V):List (κ × V):=
 if (b.any λc=>decide (c.1=k))=aN then b.map (λc=>if c.1=k then (c.1,v) else c) else b++[(k,v)]
def iH{p:κ × V}{r:List (κ × V)}{k:κ}(e:p.1=k):jk (p::r) k=aw p.2:=by simp[jk,YG,e]
def fM{p:κ × V}{r:List (κ × V)}{k:κ}(e:¬ p.1=k):jk (p::r) k=jk r k:=by simp[jk,YG,e]
def lx(k:κ):∀b:List (κ × V),(b.any λc=>decide (c.1=k))=(jk b k).isSome
 |[]=>rfl
 |p::r=>by
  rw[YI];by_cases e:p.1=k
  ·simp only[iH e,decide_eq_true e,Bool.true_or,X4]
  ·rw[fM e,decide_eq_false e,XZ];exact lx k r
def jU(b:List (κ × V))(k:κ)(v:V):(lu b k v).length<=b.length+1:=by
 unfold lu;split
 ·rw[Za];omega
 ·rw[Zf,Zo,Z3];omega
def uD.isSome_eq(r:uD o u):o.isSome=u.isSome:=by
 cases o with
 |none=>cases u with
  |none=>rfl
  |some _=>exact(show False from r).elim
 |some _=>cases u with
  |none=>exact(show False from r).elim
  |some _=>rfl
def KV.val{c:List (κ × V)}{v:List (κ × Value)}(r:KV c v)(k:κ):uD (jk c k) (valueAt v k):=by
 unfold KV at r
 induction r with
 |nil=>exact True.intro
 |@cons p q ps qs h t ih=>
  obtain⟨j,l⟩:=h;by_cases e:p.1=k
  ·have d:q.1=k:=j.symm.trans e;have b:valueAt (q::qs) k=aw q.2:=by simp[valueAt,YG,d]
   rw[iH e,b];exact l
  ·have d:¬ q.1=k:=λz=>e (j.trans z);have b:valueAt (q::qs) k=valueAt qs k:=by simp[valueAt,YG,d]
   rw[fM e,b];exact ih
def KV.any{b:List (κ × V)}{v:List (κ × Value)}(r:KV b v)(k:κ):(b.any λc=>decide (c.1=k))=v.any λc=>decide (c.1=k):=by
 unfold KV at r
 induction r with
 |nil=>rfl
 |cons h t I=>rw[YI,YI,I,h.1]
def KV.repl(r:KV d v)(k:κ)(l:aB y u) :
  KV (d.map λb=>if b.1=k then (b.1,y) else b) (v.map λb=>if b.1=k then (b.1,u) else b):=by
 unfold KV at r ⊢
 induction r with
 |nil=>exact .nil
 |@cons p q ps qs h t ih=>
  rw[Zz,Zz];refine .cons ?_ ih;obtain⟨c,j⟩:=h;by_cases e:p.1=k
  ·rw[if_pos e,if_pos (c.symm.trans e)];exact⟨c,l⟩
  ·rw[if_neg e,if_neg (λz=>e (c.trans z))];exact⟨c,j⟩
def KV.put(r:KV b v)(k:κ)(c:aB y u):KV (lu b k y) (stored v k u):=by
 unfold lu stored;rw[r.any k];by_cases e:(v.any λd=>decide (d.1=k))=aN
 ·rw[if_pos e,if_pos e];exact r.repl k c
 ·rw[if_neg e,if_neg e];exact Paired.snoc r ⟨rfl,c⟩
def KV.length(r:KV k v):k.length=v.length:=Paired.length r
end
def n6(r:aB (kV k) u):(ba P w).is k u=aN:=by
 cases k with
 |inl i=>obtain⟨t,e⟩:=(show ∃t,u=Value.int i t from r);subst e;exact rF P w i t
 |inr x=>obtain⟨t,e⟩:=(show ∃t,u=Value.str x t from r);subst e;exact rG P w x t
def n8:∀ {ks:List Key} {u:List Value},aM (ks.map kV) u->ItemsAre (ba P w) ks u
 |[],_,r=>by rw[Z7] at r;cases r;exact .nil
 |k::ks,_,r=>by
  rw[Zz] at r;cases r with
  |cons h t=>exact .cons (n6 h) (n8 t)
@[inline]abbrev KT(H:Hp):List (List NK × V)->List (List NK × Addr × Value)->Prop:=Paired λp q=>p.1=q.1/\pF H p.1 q.2.1/\aB p.2 q.2.2
def KT.val{H:Hp}{c:List (List NK × V)}{xs:List (List NK × Addr × Value)}(r:KT H c xs)(k:List NK):uD (jk c k) ((atKey xs k).map (·.2)):=by
 induction r with
 |nil=>exact True.intro
 |@cons p q ps qs h t ih=>
  obtain⟨j,_,l⟩:=h;by_cases e:p.1=k
  ·have d:q.1=k:=j.symm.trans e;have b:atKey (q::qs) k=aw q.2:=by simp[atKey,YG,d]
   rw[iH e,b];exact l
  ·have d:¬ q.1=k:=λz=>e (j.trans z);have b:atKey (q::qs) k=atKey qs k:=by simp[atKey,YG,d]
   rw[fM e,b];exact ih
def KT.repl(r:KT H d xs)(k:List NK)(l:aB y u) :
  KT H (d.map λc=>if c.1=k then (c.1,y) else c) (xs.map (putAt k u)):=by
 induction r with
 |nil=>exact .nil
 |@cons p q ps qs h t ih=>
  rw[Zz,Zz];refine .cons ?_ ih;obtain⟨b,j,v⟩:=h;unfold putAt;by_cases e:p.1=k
  ·rw[if_pos e,if_pos (b.symm.trans e)];exact⟨b,j,l⟩
  ·rw[if_neg e,if_neg (λz=>e (b.trans z))];exact⟨b,j,v⟩
def KT.put(r:KT H c xs)(k:List NK)(hb:pF H k b)(d:aB y u) :
  KT H (lu c k y) (storedH xs k b u):=by
 have e:(c.any λj=>decide (j.1=k))=(atKey xs k).isSome:=by
  rw[lx,(r.val k).isSome_eq,Xy]
 unfold lu storedH;rw[e];by_cases q:(atKey xs k).isSome=aN
 ·rw[if_pos q,if_pos q];exact r.repl k d
 ·rw[if_neg q,if_neg q];exact Paired.snoc r ⟨rfl,hb,d⟩
def KT.keeps(r:KT H k xs)(c:∀b y,H b=aw (.tup y)->d b=aw (.tup y)):KT d k xs:=
 Paired.mapP r λ_ _ z=>⟨z.1,z.2.1.mono c,z.2.2⟩
section
variable {P:Program} {w:World} {H:Hp} {h:Heap} {a:Addr}
def IZ(ok:HOk P w H h)(e:Rd H a u):a9 P w H h a u:=e.ok ok
def r9(ok:HOk P w H h)(e:Rd H a (.dK k)):k.length<=sizeLine/\(a == Uz)=aS/\∃vs,KV k vs/\h.DictOf (ba P w) a vs:=
 show a9 P w H h a (.dK k) from IZ ok e
def Pv(ok:HOk P w H h)(e:H a=aw (.dK k)):k.length<=sizeLine/\(a == Uz)=aS/\∃vs,KV k vs/\h.DictOf (ba P w) a vs:=r9 ok (.inl e)
def AW(ok:HOk P w H h)(e:H a=aw (.tup (ks.map kV))):IsTupleKey (ba P w) h ks a:=by
 obtain⟨_,I,r,o,c,d,n,b,_⟩:=(show a9 P w H h a (.tup (ks.map kV)) from ok a _ e);exact⟨o,I.toArray,n,c,d,b,by simpa using n8 r⟩
def eV{ks:List NK}(ok:HOk P w H h)(e:pF H ks a):(fH P w).is h ks a:=by
 obtain⟨X,d,j⟩:=e;obtain⟨_,I,r,o,v,y,n,u,_⟩:=(show a9 P w H h a (.tup X) from ok a _ d);refine⟨o,I.toArray,n,v,y,u,?_⟩
 have all:∀ {ks:List NK} {X:List V} {us:List Value},Paired (yA H) ks X->aM X us->Paired (NIs P w h) ks us:=by
  intro ks X us p
  induction p generalizing us with
  |nil=>intro q;cases q;exact .nil
  |@cons k x ks X hk _ ih=>
   intro q;cases q with
   |cons Q l=>
    refine .cons ?_ (ih l);cases k with
    |non=>cases hk;exact Q
    |one k=>cases hk;exact n6 (P:=P) (w:=w) Q
    |tup c=>obtain⟨b,rfl,hb⟩:=hk;cases Q;exact⟨b,rfl,AW ok hb⟩
 simpa using all j r
def sd(ok:HOk P w H h)(e:Rd H a (.dT k)):k.length<=sizeLine/\(a == Uz)=aS ∧
  ∃xs,KT H k xs/\h.DictOfH (fH P w) a xs:=by
 obtain⟨z,y,xs,r,o,b,c,u,v,j,h4,d⟩:=(show a9 P w H h a (.dT k) from IZ ok e);refine⟨z,y,xs,r,o,b,c,u,v,j,h4,λx hx=>?_,d⟩
 have all:∀ {l:List (List NK × V)} {m:List (List NK × Addr × Value)},KT H l m->∀x ∈ m,(fH P w).is h x.1 x.2.1:=by
  intro l m q
  induction q with
  |nil=>intro x hx;exact nomatch hx
  |@cons p q ps qs hq t ih=>
   intro x hx;rcases Zn.mp hx with e |hx
   ·subst e;exact eV ok (by rw[<-hq.1];exact hq.2.1)
   ·exact ih x hx
 exact all r x hx
def Pw(ok:HOk P w H h)(e:H a=aw (.dT k)):k.length<=sizeLine/\(a == Uz)=aS ∧
  ∃xs,KT H k xs/\h.DictOfH (fH P w) a xs:=sd ok (.inl e)
end
abbrev AX(H:Hp)(a:Addr)(y:V)(r:Option V):Prop:=
 (∃c k,Rd H a (.dK c)/\y=kV k/\r=jk c k)\/∃c k b,Rd H a (.dT c)/\y = .ref b/\pF H k b/\r=jk c k
abbrev Px(H:Hp)(a:Addr)(y v:V)(d:Hp):Prop:=
 (∃c k,H a=aw (.dK c)/\y=kV k/\c.length < sizeLine/\d=upd H a (.dK (lu c k v))) ∨
 ∃c k b,H a=aw (.dT c)/\y = .ref b/\pF H k b/\c.length < sizeLine/\d=upd H a (.dT (lu c k v))
section
variable {X:Cx} {pins:List (Addr × Obj)} {σ:St} {H:Hp} {s:Shared} {a:Addr} {y v:V} {u r:Value} {o:Option V} {A:Around} {E:Value->Shared->Prop}
def Inv.big(I:Inv X pins σ H s):Uz < s.heap.objs.size:=by
 have h:Ud < s.heap.objs.size:=(I.mod.glob.keeps I.bk).lt;exact WA (by decide) h
def yT(hu:A.units+2 < cLine)(I:Inv X pins σ H s)(g:AX H a y (aw v))(O:aB y u)(h:∀d L,Inv X pins σ H L->aB v d->Q d L) :
  wpAny (model X.prog X.w) A (getItem (.ref a) u) Q E s:=by
 rcases g with ⟨q,k,e,B,l⟩ |⟨q,k,b,e,B,U,l⟩
 ·subst B;obtain⟨z,hd,Y,rel,C⟩:=r9 I.hok e;obtain⟨d,j,c⟩:=uD.some_of (v:=v) (o:=valueAt Y k) (by rw[l];exact rel.val k);exact wpAny_getItem_of (n6 O) C.mapOf j (h d _ (I.tok _) c)
 ·subst B;cases (show u=Value.ref b from O);obtain⟨z,hd,Z,rel,C⟩:=sd I.hok e;obtain⟨d,j,c⟩:=uD.some_of (v:=v) (o:=(atKey Z k).map (·.2)) (by rw[l];exact rel.val k);obtain⟨p,T,J⟩:=ZD.mp j;refine wpAny_getItem_heap (show _+1 < _ from hu) (eV I.hok U) C T ?_;rw[J];exact h d _ (I.tok _) c
def Sq(L:A.units+2 < cLine)(I:Inv X pins σ H s)(g:AX H a y o)(C:aB y u)(h:∀B,Inv X pins σ H B->Q (.bool o.isSome) B) :
  wpAny (model X.prog X.w) A (V1 .In u (.ref a)) Q E s:=by
 rcases g with ⟨c,k,e,j,l⟩ |⟨c,k,b,e,j,J,l⟩
 ·subst j;obtain⟨z,hd,T,rel,d⟩:=r9 I.hok e;refine wpAny_in_of (n6 C) hd d.mapOf ?_;rw[<-(rel.val k).isSome_eq,<-l];exact h _ (I.tok _)
 ·subst j;cases (show u=Value.ref b from C);obtain⟨z,hd,O,rel,d⟩:=sd I.hok e;refine wpAny_in_heap (show _+1 < _ from L) (eV I.hok J) hd d ?_;have q:=(rel.val k).isSome_eq;rw[Xy] at q;rw[<-q,<-l];exact h _ (I.tok _)
def E7(L:A.units+2 < cLine)(I:Inv X pins σ H s)(g:AX H a y o)(C:aB y u)(h:∀B,Inv X pins σ H B->Q (.bool (!o.isSome)) B) :
  wpAny (model X.prog X.w) A (V1 .NotIn u (.ref a)) Q E s:=by
 rcases g with ⟨c,k,e,j,l⟩ |⟨c,k,b,e,j,J,l⟩
 ·subst j;obtain⟨z,hd,T,rel,d⟩:=r9 I.hok e;refine wpAny_notIn_of (n6 C) hd d.mapOf ?_;rw[<-(rel.val k).isSome_eq,<-l];exact h _ (I.tok _)
 ·subst j;cases (show u=Value.ref b from C);obtain⟨z,hd,O,rel,d⟩:=sd I.hok e;refine wpAny_notIn_heap (show _+1 < _ from L) (eV I.hok J) hd d ?_;have q:=(rel.val k).isSome_eq;rw[Xy] at q;rw[<-q,<-l];exact h _ (I.tok _)
def xa{t':Nat}(I:Inv X pins σ H s)(c:Mut (H a))(hs:Heap.SameBut a s.heap h')(d:∃q,h'.get? a=aw q)(new:a9 X.prog X.w (upd H a ob) h' a ob) :
  Inv X pins σ (upd H a ob) { s with heap:=h',toks:=t' }:=
 I.write (x:=a) (e:=a) c (.inl rfl) (λb q hb z=>(hs.2 b hb).trans z) d new
def KD(z:k.length<=sizeLine)(hd:(a == Uz)=aS)(rel:KV k b)(d:h'.DictOf (ba P w) a b) :
  a9 P w c h' a (.dK k):=⟨z,hd,b,rel,d⟩
def yU(hu:A.units+2 < cLine)(I:Inv X pins σ H s)(g:Px H a y v H')(ry:aB y u)(Y:aB v r)(h:∀s',Inv X pins σ H' s'->Q () s') :
  wpAny (model X.prog X.w) A (setItem (.ref a) u r) Q E s:=by
 rcases g with ⟨d,k,e,L,l,O⟩ |⟨d,k,b,e,L,U,l,O⟩
 ·subst L O;obtain⟨z,hd,vs,rel,T⟩:=Pv I.hok e;have J:vs.length<=sizeLine:=by rw[<-rel.length];exact z
  have C:(lu d k v).length<=sizeLine:=by have:=jU d k v;omega
  refine wpAny_setItem_pairs (hsz:=J) (n6 ry) T λh' j hs=>h _ ?_;have he:∃q,h'.get? a=aw q:=let ⟨q,_,_,B,_⟩:=j;⟨q,B⟩;exact xa I (by rw[e];exact True.intro) hs he (KD C hd (rel.put k Y) j)
 ·subst L O;cases (show u=Value.ref b from ry);obtain⟨z,hd,xs,rel,T⟩:=Pw I.hok e;have J:xs.length<=sizeLine:=by rw[<-Paired.length rel];exact z
  have C:(lu d k v).length<=sizeLine:=by have:=jU d k v;omega
  refine wpAny_setItem_heap (hsz:=J) (show _+1 < _ from hu) (eV I.hok U) T λh' j hs=>h _ ?_;obtain⟨q,es,ep,B,h2,h3,h4,_,h5⟩:=j;refine xa I (by rw[e];exact True.intro) hs ⟨q,B⟩ ⟨C,hd,_,(rel.put k U Y).keeps λc ys Z=>?_,q,es,ep,B,h2,h3,h4,h5⟩;rw[ac (wR Z e (λz=>nomatch z))];exact Z
end
def se(I:Inv X j q H s)(g:AX H a y o):s.TypeIs (.ref a) "dict" := by
 rcases g with ⟨c,k,e,_,_⟩ |⟨c,k,b,e,_,_,_⟩
 ·obtain⟨_,_,v,_,d⟩:=r9 I.hok e;exact d.typeIs
 ·obtain⟨_,_,l,_,d⟩:=sd I.hok e;exact d.typeIs
def AY(h:Heap)(hb:Uz < h.objs.size):a9 P w H (h.push { cls:=.type "dict", data:=.dict #[] }) h.objs.size (.dT []):=
 ⟨Z5 _,beq_eq_false_iff_ne.mpr (Ne.symm (ZH hb)),[],.nil,_,#[],0,Zu _ rfl,⟨rfl,rfl,rfl⟩,rfl,rfl,Xw⟩
abbrev AZ:TE:=λ_ H Q=>∀p,H p=aD->Q (.ref p) (upd H p (.dT []))
section
variable {X:Cx} {pos:Pos}
def A0:PE X (.Dict [] [] pos) AZ:=λb s c H Q I h=>
 wpAny_Dict_empty ⟨.ref s.heap.objs.size,_,I.laid (a:=s.heap.objs.size) (o:=.dT []) (t':=s.toks) (λ_ _ q=>Zd _ q) (Zj _) (AY s.heap I.big),rfl,h _ (I.hok.fresh (Zj _))⟩
end
end L2
namespace HT
open PySem PyProof.Rows
open AutoSeq1 (wpAny_loadPart')
section
variable {prog:Program} {w:World} {A:Around} {E:Value->Shared->Prop} {s:Shared}
def kC{i:Nat}(b:s.heap.IsTupleIter it t i)(k:s.heap.IsTuple t I)(l:I[i]?=aw x)
  (u:∀h',h'.IsTupleIter it t (i+1)->Heap.SameBut it s.heap h'->Q x { s with heap:=h' }):wpAny (model prog w) A (Builtin.SmallTypes.nextOf (.ref it)) Q E s:=by
 obtain⟨o,c,q,hd⟩:=id b;obtain⟨O,j,_,v,d⟩:=k;unfold Builtin.SmallTypes.nextOf
 refine UC (wpAny_callSpecial?_slot (name:=Str.ofString "__next__") b.typeIs Vb
  (UD Vb b.typeIs W0 ?_ (WW _)))
 show wpAny _ _ (field (.ref it) 0 >>= _) _ _ s;refine UC (UG c hd (x:=.ref t) rfl ?_);show wpAny _ _ (if (Value.ref t == Value.none)=aN then _ else _) _ _ s;rw[if_neg (show ¬ ((Value.ref t == Value.none)=aN) from Zh)];show wpAny _ _ (field (.ref it) 1 >>= _) _ _ s;refine UC (UG c hd (x:=.int i 0) rfl ?_);show wpAny _ _ (Ur (.ref t) >>= _) _ _ s;refine UC (UY j d ?_);simp only[ZG,l];refine UC (wpAny_setField c hd (by simp) (US ⟨x,rfl,US (u _ ?_ (Heap.SameBut.update ..))⟩))
 exact⟨_,YJ _ c (Obj.isFreed_of_fields (Obj.data_mapFields hd _)),(Obj.cls_mapFields ..).trans q,by
  rw[Obj.data_mapFields hd];simp[rawInt]⟩
def ly{i:Nat}(k:A.handled=aD)(b:s.heap.IsTupleIter it t i)(l:s.heap.IsTuple t I)(u:I[i]?=aD)
  (q:∀h' e,Heap.ExtBut it s.heap h'->(∃o,h'.get? e=aw o/\o.cls = .type "StopIteration")->E (.ref e) { s with heap:=h' }):wpAny (model prog w) A (Builtin.SmallTypes.nextOf (.ref it)) Q E s:=by
 obtain⟨o,j,v,hd⟩:=id b;obtain⟨O,d,_,y,c⟩:=l;unfold Builtin.SmallTypes.nextOf
 refine UC (wpAny_callSpecial?_slot (name:=Str.ofString "__next__") b.typeIs Vb
  (UD Vb b.typeIs W0 ?_ (WW _)))
 show wpAny _ _ (field (.ref it) 0 >>= _) _ _ s;refine UC (UG j hd (x:=.ref t) rfl ?_);show wpAny _ _ (if (Value.ref t == Value.none)=aN then _ else _) _ _ s;rw[if_neg (show ¬ ((Value.ref t == Value.none)=aN) from Zh)];show wpAny _ _ (field (.ref it) 1 >>= _) _ _ s;refine UC (UG j hd (x:=.int i 0) rfl ?_);show wpAny _ _ (Ur (.ref t) >>= _) _ _ s;refine UC (UY d c ?_);simp only[ZG,u];refine UC (UX (UC (wpAny_setField j hd (by simp) ?_)));show wpAny _ _ (newExc (.type "StopIteration") [] >>= _) _ _ _;refine UC ?_;simp only[newExc,newTuple];refine UC (UP ?_ (by size_fits));refine UC (m:=firstArgMember _ _) (UQ (a:=Value.none) (by first |rfl |(simp only[firstArgMember];rfl)) ?_);refine UP ?_ (by size_fits);simp only[raiseNew];refine UC (wpAny_handled ?_)
 first |rw[show A.in1.handled=aD from k] |rw[k]
 refine UC (US (wpAny_throw ?_));exact q _ _ (((Heap.SameBut.update ..).extBut.push _).push _) ⟨_,Zu _ rfl,rfl⟩
end
def A6(q:A.handled=aD)(it l:Addr)(d:l ≠ it)(I:Array Value) :
  Draws prog w A it [it,l] I.size (λi v=>I[i]?=aw v) (λi h=>h.IsTupleIter it l i/\h.IsTuple l I) where
 live:=λ_ _ st=>let ⟨o,ho,_⟩:=st.1;⟨o,ho⟩
 frame:=λ_ _ _ st j=>⟨st.1.at λo e=>j it (by simp) o e,let ⟨o,e,r⟩:=st.2;⟨o,j l (by simp) o e,r⟩⟩
 item:=λi s Q E hi st u=>by
  refine kC st.1 st.2 (x:=I[i]) (by simp[hi]) λy b c=>?_;exact u _ y s.toks (by simp[hi]) ⟨b,let ⟨o,e,r⟩:=st.2;⟨o,c.extBut l o d e,r⟩⟩ c
 done:=λs Q E st k=>ly q st.1 st.2 (by simp) k
def sf(l:Addr)(items:Array Value)(n:Nat)(j:Option Addr)(sl:Array (Option Value)) :
  Meets (Builtin.«enumerate.__new__» ⟨[.type "enumerate", .ref l],[]⟩) (λ_ R s=>s.heap.get? l=aw { cls:=.type "tuple", dict:=j,data:=.seq items n,slots:=sl } ∧
   R (.ok (.ret (.ref (s.heap.push { cls:=.type "tuple_iterator", data:=.fields #[.ref l,.int 0 0] }).objs.size)))
    { s with heap:=(s.heap.push { cls:=.type "tuple_iterator", data:=.fields #[.ref l,.int 0 0] }).push { cls:=.type "enumerate", data:=.fields #[.none,.bool aS,.ref s.heap.objs.size,rawInt 0,.none,.none] } }):=
 .of_wp λprog w A R s h=>by
  obtain⟨u,g,d,T,os⟩:=s;obtain⟨b,h⟩:=h;have q:=sub_enumerate;have k:Heap.IsTuple (Shared.heap ⟨u,g,d,T,os⟩) l items:=⟨_,b,rfl,n,rfl⟩
  wp_walk using UL b
  refine wpAny_stack_any λst=>US ?_;split
  ·rename_i c _ _ _ _ _;cases (c == Value.type "enumerate")
   ·wp_walk using UL b,UV k
    exact⟨_,rfl,h⟩
   ·wp_walk using UL b,UV k
    exact⟨_,rfl,h⟩
  ·wp_walk using UL b,UV k
   exact⟨_,rfl,h⟩
def uU(v:IsTup s.heap l I)
  (h:∀h',IsEnum h' (s.heap.objs.size+1) s.heap.objs.size 0 .none->h'.IsTupleIter s.heap.objs.size l 0->h'.objs.size=s.heap.objs.size+2 ->
   (∀b o,s.heap.get? b=aw o->h'.get? b=aw o)->Q (.ref (s.heap.objs.size+1)) { s with heap:=h' }) :
  wpAny (model prog w) A (call (.type "enumerate") [.ref l]) Q E s:=by
 obtain⟨⟨c,d,y,sl⟩,u,j,n,hd⟩:=v;replace j:c = .type "tuple" := j;replace hd:y = .seq I n:=hd;subst j hd
 refine callType_new PySem.F.called_enumerate (by decide) (PySem.F.typeCall_enumerate_1 _) (PySem.F.newCall_enumerate_1 _) (λobj=>WU obj _) PySem.F.entry_enumerate_new
  (sf l I n d sl) ⟨u,?_⟩
 have k:(s.heap.push { cls:=.type "tuple_iterator", data:=.fields #[.ref l,.int 0 0] }).objs.size=s.heap.objs.size+1:=Yq ..;show _/\_;rw[k]
 have q:IsEnum ((s.heap.push { cls:=.type "tuple_iterator", data:=.fields #[.ref l,.int 0 0] }).push
   { cls:=.type "enumerate", data:=.fields #[.none,.bool aS,.ref s.heap.objs.size,rawInt 0,.none,.none] }) (s.heap.objs.size+1) s.heap.objs.size 0 .none:=by
  have:=Zu (s.heap.push { cls:=.type "tuple_iterator", data:=.fields #[.ref l,.int 0 0] })
   (o:={ cls:=.type "enumerate", data:=.fields #[.none,.bool aS,.ref s.heap.objs.size,rawInt 0,.none,.none] }) rfl
  rw[k] at this;exact this
 exact⟨⟨_,q,rfl⟩,h _ q ⟨_,Zd _ (Zu _ rfl),rfl,rfl⟩ (by rw[Yq,k]) λb o x=>Zd _ (Zd _ x)⟩
end HT
namespace L2
open PySem PySem.Spec PyProof.Rows
abbrev Ite(K:Vp)(a:Addr)(b:Vp->Hp->Addr->List V->Prop):It:=
 ⟨λi H=>∃X x,b K H a X/\X[i]?=aw x,λi H x c=>∃T,H T=aD/\x = .ref T/\∀X v,b K H a X->X[i]?=aw v->c=upd H T (.tup [.int i,v]),λi H=>∃X,b K H a X/\X.length=i⟩
def Inv.turnedLaid{X:Cx}{d:List (Addr × Obj)}{C:St}{H:Hp}{s:Shared}{h':Heap}{T:Addr}{o:HO}{t':Nat}{ch:List Addr}(I:Inv X d C H s)(l:∀b ∈ ch,hV X d H b)
  (k:∀b ob,b ∉ ch->s.heap.get? b=aw ob->h'.get? b=aw ob) (B:s.heap.objs.size<=T) (new:a9 X.prog X.w (upd H T o) h' T o):Inv X d C (upd H T o) { s with heap:=h',toks:=t' }:=by
 have fr:=I.hok.fresh B;have neT:∀b ob,s.heap.get? b=aw ob->b ≠ T:=λb ob e=>ZH (ZC (Zs e) B)
 refine I.step (g':=s.gens) (d':=s.drawn) (ch:=ch) (λb hb=>⟨(l b hb).2.2.2.1,(l b hb).2.1,(l b hb).2.2.2.2.1,(l b hb).2.2.2.2.2⟩) (λb ob _ _ j e _=>k b ob j e) (λb ob _ _ j e _=>⟨ob.slots,k b ob j e⟩)
  (λb ob _ e n=>by rw[ac (neT b ob e)];exact n) (λb ob j e=>⟨ob,k b ob j e⟩) (λb J q=>by rw[ac (aV q fr)];exact q) (λb u J q=>by rw[ac (aV q fr)];exact q)
  (λb ps q=>⟨#[],by rw[ac (aV q fr),q];simp⟩) (λm U=>?_) (λb u q=>?_) I.bare
 ·obtain⟨ob,L,O,y,Y⟩:=U;exact⟨ob,L,O,k _ ob (λz=>(l _ z).2.1 rfl) y,Y⟩
 ·by_cases hb:b=T
  ·subst hb;rw[az] at q;cases q;exact new
  ·rw[ac hb] at q;refine(I.hok b u q).stay (λc v j Q=>k c v (λz=>?_) Q) (λc q=>by rw[ac (aV q fr)];exact q) λc J q=>by rw[ac (aV q fr)];exact q
   have n:=(l c z).1;rcases j with w |w
   ·rw[w,q] at n;cases n
   ·rw[w] at n;cases n
def Inv.turnedAll{X:Cx}{d:List (Addr × Obj)}{B:St}{H:Hp}{s:Shared}{h':Heap}{t':Nat}{ch:List Addr}(I:Inv X d B H s)(l:∀b ∈ ch,hV X d H b)
  (k:∀b ob,b ∉ ch->s.heap.get? b=aw ob->h'.get? b=aw ob):Inv X d B H { s with heap:=h',toks:=t' }:=by
 refine I.step (g':=s.gens) (d':=s.drawn) (ch:=ch) (λb hb=>⟨(l b hb).2.2.2.1,(l b hb).2.1,(l b hb).2.2.2.2.1,(l b hb).2.2.2.2.2⟩) (λb ob _ _ j e _=>k b ob j e) (λb ob _ _ j e _=>⟨ob.slots,k b ob j e⟩)
  (λb ob _ e n=>n) (λb ob j e=>⟨ob,k b ob j e⟩) (λb C q=>q) (λb u C q=>q)
  (λb ps q=>⟨#[],by rw[q];simp⟩) (λm O=>?_) (λb u q=>?_) I.bare
 ·obtain⟨ob,J,L,y,T⟩:=O;exact⟨ob,J,L,k _ ob (λz=>(l _ z).2.1 rfl) y,T⟩
 ·refine(I.hok b u q).stay (λc v j Q=>k c v (λz=>?_) Q) (λc q=>q) λc C q=>q;have n:=(l c z).1;rcases j with w |w
  ·rw[w,q] at n;cases n
  ·rw[w] at n;cases n
def uV{P:Program}{w:World}{K:Vp}{elts:List Expr}{x1:Nat}{tp:Pos}(a e it:Addr)(Y:e ≠ it) :
  Turn P w K (.Tuple elts x1 tp) (Ite K a SqT) [e,it] e (λi h=>(∃O,IsEnum h e it i O)/\h.IsTupleIter it a i) where
 mem:=by simp
 obj:=λi h st b hb=>by
  obtain⟨⟨O,C⟩,o,T,c,d⟩:=st;rcases Zn.mp hb with z |z
  ·subst z;exact⟨_,C,λv z=>by have z':Data.fields _=Data.cell v:=z;cases z'⟩
  ·have z':=ZE.mp z;subst z';exact⟨o,T,λv z=>by rw[d] at z;cases z⟩
 keep:=λi h h' st k=>⟨let ⟨O,C⟩:=st.1;⟨O,k e (by simp) _ C⟩,st.2.at λo T=>k it (by simp) o T⟩
 item:=by
  intro X hP hw hK hc i pins s σ H E I hf st hg;subst hP hw hK;obtain⟨xs,x,hq,hx⟩:=hg;obtain⟨j,rv,p,hz⟩:=I.tuple hq;obtain⟨u,hu,ru⟩:=rv.get hx;obtain⟨⟨O,C⟩,B⟩:=st;have hL:s.heap.IsTuple a j.toArray:=p
  have hae:e ≠ a:=λz=>by
   subst z;obtain⟨o,J,hc',n,l⟩:=id hL;rw[C] at J;cases J;have z':Data.fields _=Data.seq j.toArray n:=l;cases z'
  have U:a ≠ it:=λz=>by
   subst z;obtain⟨o,J,hc',n,l⟩:=id hL;obtain⟨o',Z,c',d'⟩:=id B;rw[Z] at J;cases J;rw[d'] at l;cases l
  have hi:i < j.toArray.size:=by
   have:=(Zb.mp hu).1
   simpa using this
  refine wpAny_pyNext_enum_itemD (HT.A6 (A:=X.A.in1) (I.ok.hd hc) it a U j.toArray) C ⟨B,hL⟩ hi Y (by simp[Y,hae]) λy h' tk hP J hs' hT hsz hk=>?_
  have ey:y=u:=by
   have z:j.toArray[i]?=aw u:=by simpa using hu
   rw[z] at hP;exact(Option.some.inj hP).symm
  subst ey;refine⟨_,rfl,?_⟩;refine wpAny_letOwnedTupleGo_enum J λh2 he2 Q=>?_;have L:e < s.heap.objs.size:=Zs C;have hilt:it < s.heap.objs.size:=by obtain⟨o,T,_⟩:=B;exact Zs T
  have hT2:h2.get? s.heap.objs.size=aw { cls:=.type "tuple", data:=.seq #[.int i tk,y] }:=(Q.2 _ (Wy L)).trans hT;have fresh:=I.hok.fresh (Zj s.heap.objs.size);refine⟨.ref s.heap.objs.size,upd H s.heap.objs.size (.tup [.int i,x]),?_,rfl,⟨_,fresh,rfl,λys v hy hv=>?_⟩,⟨⟨y,by simpa using he2⟩,hs'.1.at λo T=>(Q.2 it (Ne.symm Y)).trans T⟩,λb hb=>?_⟩
  ·exact I.turnedLaid (t':=tk+1) hf (λb ob hb eb=>(Q.2 b λz=>hb (by simp[z])).trans (hk b ob (λz=>hb (by simp[z])) (λz=>hb (by simp[z])) eb)) (Zj _)
    ⟨by show 2<=sizeLine;decide,[.int i tk,y],.cons ⟨tk,rfl⟩ (.cons ru .nil),⟨_,hT2,rfl,_,rfl,rfl⟩⟩
  ·rw[I.tuple_inj hy hq,hx] at hv;cases hv;rfl
  ·rcases Zn.mp hb with z |z
   ·rw[z,ac (ZH L)];exact(hf e (by simp)).1
   ·rw[ZE.mp z,ac (ZH hilt)];exact(hf it (by simp)).1
 done:=by
  intro X hP hw hK hc i pins s σ H E I hf st hg;subst hP hw hK;obtain⟨xs,hq,hx⟩:=hg;obtain⟨j,rv,p,hz⟩:=I.tuple hq;obtain⟨⟨O,C⟩,B⟩:=st;have hL:s.heap.IsTuple a j.toArray:=p
  have U:a ≠ it:=λz=>by
   subst z;obtain⟨o,J,hc',n,l⟩:=id hL;obtain⟨o',Z,c',d'⟩:=id B;rw[Z] at J;cases J;rw[d'] at l;cases l
  have hn:j.toArray.size=i:=by rw[Zk,<-rv.length,hx]
  subst hn;refine wpAny_pyNext_enum_endD (HT.A6 (A:=X.A.in1) (I.ok.hd hc) it a U j.toArray) C ⟨B,hL⟩ λh' eb=>⟨rfl,?_⟩;exact I.turnedAll (t':=s.toks) hf λb ob hb q=>eb b ob (λz=>hb (by simp[z])) q
 self:=λ_ _ _ _ _ st h=>let ⟨⟨O,C⟩,_⟩:=st;wpAny_pyIter_enum C h
abbrev Py(K:Vp)(T:TA):TI:=λc H R=>T c H λv b=>∃a X,v=[.ref a]/\SqT K b a X/\R (Ite K a SqT) b
section
variable {X:Cx} {elts:List Expr} {x1:Nat} {tp:Pos}
def KF{a:Expr}{T:TA}{p j:Pos}(hg:Gl X "enumerate")(Y:X.mg "enumerate" = aD)(L:PA X [a] T)(hs:Uv [a] X.env=[(aS,eval a X.env)]:=by rfl):PI X (.Tuple elts x1 tp) (.Call (.Name "enumerate" p) [a] [] j) (Py X.K T):=by
 intro c s B H R I h;refine Call_ (eP I hg Y PyProof.Rows.boot_enumerate (WM (thn (L j c s B H _ I h) λus d ⟨vs,v,k,r1,q1⟩=>?_) hs rfl));obtain⟨l,xs,e,Q,q⟩:=q1;subst e;obtain⟨u,rfl,O⟩:=cb r1;cases O;obtain⟨its,rv,Z,hz⟩:=k.tuple Q;refine HT.uU Z λh' C y J U=>wpAny_pyIter_enum C ?_;have I2:Inv X c B v { d with heap:=h' }:=k.kept (t':=d.toks) U;have fr:∀b,d.heap.objs.size<=b->hV X c v b:=λb hb=>k.fpOk hb (k.hok.fresh hb);refine⟨_,[d.heap.objs.size+1,d.heap.objs.size],_,_,v,rfl,I2,uV l _ _ (Nat.succ_ne_self _),⟨⟨_,C⟩,y⟩,λb hb=>?_,q⟩;rcases Zn.mp hb with z |z
 ·rw[z];exact fr _ (Yt _)
 ·rw[ZE.mp z];exact fr _ (Zj _)
end
section
variable {X:Cx}
def jV:aX X (.type "range") (λxs H Q=>∃j:Int,xs=[.int j]/\∀p,H p=aD->Q (.ref p) (upd H p (.rng 0 j))):=by
 intro c s k H xs U Q I r h;obtain⟨j,rfl,q⟩:=h;obtain⟨u,rfl,d⟩:=cb r;obtain⟨t,rfl⟩:=d;exact call_range_1 ⟨.ref s.heap.objs.size,_,I.laid (t':=s.toks+1+1) (o:=.rng 0 j) (λb o e=>Zd _ e) (Zj _) ⟨_,_,_,Zu _ rfl⟩,rfl,q _ (I.hok.fresh (Zj _))⟩
def pP(hc:X.calm=aN):aX X (.type "list") (λxs H Q=>∃ (p:Addr) (n:Nat),xs=[.ref p]/\H p=aw (.rng 0 n)/\n<=1000/\∀l,H l=aD->Q (.ref l) (upd H l (.lst ((Zg n).map λ(i:Nat)=>V.int i)))):=by
 intro b s k H xs U Q I r h;obtain⟨p,n,rfl,j,d,q⟩:=h;obtain⟨u,rfl,c⟩:=cb r;cases c;obtain⟨t,u,v,e⟩:=(show a9 X.prog X.w H s.heap p (.rng 0 n) from I.hok p _ j);exact lq hc I e d q
end
abbrev jl:List Str->Bool
 |[]=>aN
 |x::r=>!r.contains x && jl r
def iI:∀ {l:List Str},jl l=aN->l.Nodup
 |[],_=>Xw
 |x::r,h=>by
  unfold jl at h;rw[bAE] at h;refine Z1.mpr ⟨λm=>?_,iI h.2⟩;have:=h.1;simp[m] at this
abbrev cmB(own:List Str)(hs:List Nat)(N:List Str)(b sc:Scope):Bool:=
 (b.kind == .function) && jl (c8 hs N++own) && jl (b.names.map (·.1)) && ((c8 hs N).all λx=>b.names.lookup x != aw .local && b.names.lookup x != aw .cell) &&
 (b.names.all λy=>y.2 != .free || (sc.names.lookup y.1 == aw .cell || sc.names.lookup y.1 == aw .free)) && hs.all λi=>(b.names.lookup (AQ i)).isNone
def A7(hs:List Nat)(h:cmB own hs N b sc=aN):CmScope own hs N b sc:=by
 unfold cmB at h;simp only[bAE,ZW] at h;obtain⟨⟨⟨⟨⟨u,v⟩,q⟩,h4⟩,k⟩,j⟩:=h;refine⟨by simpa using u,iI v,iI q,λx d=>?_,λy c l=>?_,λi hi=>by simpa using j i hi⟩
 ·have:=h4 x d
  simpa using this
 ·have:=k y c;rw[l] at this
  simpa using this
section
variable {X:Cx} {tg l a:Expr} {tl:TE} {ta:TA} {es:List Expr} {t:TGs} {p pos:Pos} {n k:Nat} {elts:List Expr} {x1:Nat} {tp:Pos} {o e:Expr} {to:TE} {tt:TA} {name:Str} {apos cpos:Pos}
abbrev I0(K:Vp):List V->Hp->VK->Prop:=λc H Q=>∃x n t b,c=[x,.ty n]/\TyOf K H x t/\VA K t (.type n)=aw b/\Q (.bl b) H
def pQ(K:Vp)(b:X.K=K:=by rfl):aX X (.builtin "isinstance") (I0 K):=b ▸ rZ
end
def lA:∀ {xs:List V} {U:List Value},aM xs U->xs.all dr=aN->U.countP (eqU x)=xs.countP λy=>eqV y x
 |_,_,.nil,_=>rfl
 |y::xs,u::U,.cons r t,f=>by
  rw[Yn,bAE] at f;rw[Xf,Xf,uS r f.1,lA t f.2]
section
variable {X:Cx}
abbrev E8(K:Vp):V->List V->Hp->VK->Prop:=λx v H Q=>∃p b y,x = .ref p/\v=[y]/\SqT K H p b/\dr y=aN/\b.all dr=aN/\Q (.int ((b.countP λz=>eqV z y:Nat):Int)) H
def yV(K:Vp)(l:X.K=K:=by rfl):MtR X "tuple.count" (E8 K):=by
 subst l;intro j s Z H x vs v us Q I C J h;obtain⟨p,U,y,rfl,rfl,L,Y,fs,q⟩:=h;cases C;obtain⟨u,rfl,B⟩:=J.one;obtain⟨b,r,⟨⟨T,O,d,sl⟩,e,c,n,hd⟩,hz⟩:=I.tuple L;simp only at c hd;subst c hd;refine VV W9 ⟨_,e,rfl⟩ F.entry_tuple_count (F.args_tuple_count_2 _ _) (SeqAt.tuple_countAt p b.toArray n O sl u (eqU y)) ⟨e,λw k=>c7 B Y r fs w (by simpa using k),?_⟩;refine⟨.int _,H,I.tok _,⟨_,rfl⟩,?_⟩
 have z:(b.toArray.toList.countP (eqU y))=U.countP λz=>eqV z y:=by
  rw[XV];exact lA r fs
 rw[z];exact q
end
end L2
namespace Dw
open PySem PySem.Spec PyProof.Rows L2
inductive D where
 |non |bl (b:Bool) |int (i:Int) |str (x:Str) |tup (ds:List D) |lst (ds:List D) |dic (ks:List Key) (ds:List D)
mutual
noncomputable def wid:D->Nat
 |.tup ds=>max ds.length (E9 ds)
 |.lst ds=>max ds.length (E9 ds)
 |.dic _ ds=>max ds.length (E9 ds)
 |_=>0
noncomputable def E9:List D->Nat
 |[]=>0
 |d::ds=>max (wid d) (E9 ds)
end
abbrev isB:D->Bool |.bl _=>aN |_=>aS
abbrev isW(d:D):Bool:=match d with |.int _=>aN |_=>aS
abbrev hZ(d:D)(a b:Int):Bool:=match d with |.int i=>decide (a<=i) && decide (i<=b) |_=>aS
abbrev isT(d:D)(a b:Int):Bool:=match d with |.tup ds=>decide (a<=(ds.length:Int)) && decide ((ds.length:Int)<=b) |_=>aS
def n9{b:Type}(n:Nat)(f:Nat->List b):(Zg (n+1)).flatMap f=(Zg n).flatMap f++f n:=by
 rw[Xo,XW];simp
def xc{b:Type}{n m:Nat}{f:Nat->List b}(h:∀i,i < n->(f i).length<=m):((Zg n).flatMap f).length<=n * m:=by
 induction n with
 |zero=>simp
 |succ n I=>
  rw[n9,Zf];have:=I λi hi=>h i (by omega);have:=h n (by omega);rw[WB];omega
abbrev jm(d:List D)(lo hi:Option Int):List D:=(d.drop (HT.sIx d.length 0 lo)).take (HT.sIx d.length d.length hi - HT.sIx d.length 0 lo)
def A8(n:Nat)(a:Int)(b:0<=a):HT.sIx n n (aw a)=min a.toNat n:=by
 show(if a < 0 then (a+(n:Int)).toNat else min a.toNat n)=_;rw[if_neg (by omega)]
abbrev xf(q:Int × Int):D:=.tup [.int q.1,.int q.2]
abbrev mg2(M:List (List Int))(i j:Nat):Int:=(((M[i]?).getD [])[j]?).getD 0
structure Mat(n:Nat)(M:List (List Int)):Prop where
 len:M.length=n
 row:∀r ∈ M,r.length=n
 ent:∀r ∈ M,∀x ∈ r,1<=x/\x<=99
def Mat.at{n:Nat}(h:Mat n M){i j:Nat}(hi:i < n)(q:j < n):∃r,M[i]?=aw r/\r.length=n/\r[j]?=aw (mg2 M i j)/\1<=mg2 M i j/\mg2 M i j<=99:=by
 have c:i < M.length:=by rw[h.len];exact hi
 have d:M[i]?=aw M[i]:=gEG c;have k:=h.row _ (ZM c);have b:j < M[i].length:=by omega
 have l:mg2 M i j=M[i][j]:=by unfold mg2;rw[d,ZT,gEG b,ZT]
 have:=h.ent _ (ZM c) _ (ZM b);exact⟨M[i],d,k,by rw[l,gEG b],by omega,by omega⟩
abbrev sg(n k:Nat)(M:List (List Int)):Prop:=∀a b q,a < n->b < n->q < k->mg2 M a b<=mg2 M a q+mg2 M q b
def A9{n k:Nat}(h:Mat n M)(d:k < n)(v:sg n k M)(y:∀i j,i < n->j < n->mg2 M' i j=min (mg2 M i j) (mg2 M i k+mg2 M k j)):sg n (k+1) M':=by
 intro a b q l hb L;have c:q < n:=by omega
 obtain⟨_,_,_,_,B,_⟩:=h.at l hb;obtain⟨_,_,_,_,z,_⟩:=h.at l d;obtain⟨_,_,_,_,I,_⟩:=h.at d hb;obtain⟨_,_,_,_,J,_⟩:=h.at d d;obtain⟨_,_,_,_,Y,_⟩:=h.at l c;obtain⟨_,_,_,_,Q,_⟩:=h.at c hb;obtain⟨_,_,_,_,X,_⟩:=h.at d c;obtain⟨_,_,_,_,U,_⟩:=h.at c d;rw[y a b l hb,y a q l c,y q b c hb];by_cases e:q=k
 ·subst e;omega
 ·have u:q < k:=by omega
  have C:=v a b q l hb u;have T:=v k b q d hb u;have O:=v a k q l d u;omega
abbrev Ba(M:List (List Int)):List D:=M.map λr=>.tup (r.map .int)
abbrev aZ(M:List (List Int))(n c i:Nat):List Int:=(Zg n).map λj=>if mg2 M i c+mg2 M c j < mg2 M i j then mg2 M i c+mg2 M c j else mg2 M i j
def sh(M:List (List Int))(n c i:Nat):(aZ M n c i).length=n:=by unfold aZ;rw[Za,ZB]
def si(M:List (List Int)){n c i j:Nat}(b:j < n):(aZ M n c i)[j]?=aw (if mg2 M i c+mg2 M c j < mg2 M i j then mg2 M i c+mg2 M c j else mg2 M i j):=by
 unfold aZ;rw[Zl,Z6 b];rfl
def Fa{n c:Nat}(h:Mat n M)(hc:c < n):∀i j,i < n->j < n->mg2 ((Zg n).map (aZ M n c)) i j=min (mg2 M i j) (mg2 M i c+mg2 M c j):=λi j hi b=>by
 have e:mg2 ((Zg n).map (aZ M n c)) i j=if mg2 M i c+mg2 M c j < mg2 M i j then mg2 M i c+mg2 M c j else mg2 M i j:=by
  show((((Zg n).map (aZ M n c))[i]?.getD [])[j]?).getD 0=_;rw[Zl,Z6 hi];show((aZ M n c i)[j]?).getD 0=_;rw[si M b];rfl
 rw[e];split <;> omega
def Bb{n c:Nat}(h:Mat n M)(hc:c < n):Mat n ((Zg n).map (aZ M n c)):=by
 refine⟨by rw[Za,ZB],λr b=>?_,λr b x l=>?_⟩
 ·obtain⟨u,_,rfl⟩:=Zy.mp b;exact sh M n c u
 ·obtain⟨u,k,rfl⟩:=Zy.mp b;rw[ZJ] at k;unfold aZ at l;obtain⟨j,d,rfl⟩:=Zy.mp l;rw[ZJ] at d;obtain⟨_,_,_,_,B,y⟩:=h.at k d;obtain⟨_,_,_,_,v,z⟩:=h.at k hc;obtain⟨_,_,_,_,q,Q⟩:=h.at hc d;split <;> omega
def dw:∀ (n:Nat) (l:List Int),l.Nodup->(∀x ∈ l,0<=x/\x < (n:Int))->l.length<=n
 |0,l,_,h=>by
  cases l with
  |nil=>exact Zj _
  |cons x l=>have:=h x Zi;lia
 |n+1,l,nd,h=>by
  by_cases c:(n:Int) ∈ l
  ·have I:=dw n (l.erase n) (nd.erase _) λx b=>by
    have d:=h x (List.mem_of_mem_erase b);have j:x ≠ (n:Int):=λe=>(List.Nodup.not_mem_erase nd) (e ▸ b)
    lia
   rw[XC c] at I;have:=List.length_pos_of_mem c
   lia
  ·have I:=dw n l nd λx b=>by
    have d:=h x b;have j:x ≠ (n:Int):=λe=>c (e ▸ b)
    lia
   lia
mutual
noncomputable def sz:D->Nat
 |.non=>10
 |.bl _=>10
 |.int _=>60
 |.str x=>(reprText x).length
 |.tup ds=>szL ds+4
 |.lst ds=>szL ds+4
 |.dic ks ds=>szL ds+62 * ks.length+4
noncomputable def szL:List D->Nat
 |[]=>0
 |d::ds=>sz d+2+szL ds
end
mutual
noncomputable def bnd(B:Nat):D->Prop
 |.int i=>i.natAbs < B
 |.tup ds=>Fb B ds
 |.lst ds=>Fb B ds
 |.dic ks ds=>(∀k ∈ ks,∃i,k=Sum.inl i/\i.natAbs < B)/\ks.length=ds.length/\Fb B ds
 |_=>True
noncomputable def Fb(B:Nat):List D->Prop
 |[]=>True
 |d::ds=>bnd B d/\Fb B ds
end
end Dw
namespace Ev
open PySem PySem.Spec PyProof.Rows L2
inductive D where
 |non |bl (b:Bool) |int (i:Int) |str (x:Str) |tup (ds:List D) |ref (n:Nat)
inductive Ob where
 |lst (ds:List D) |frz (ds:List D) |dic (ks:List (List NK)) (ds:List D) |tbl (x:Str) (pos:Pos) (qual:Str) |dfz (ks:List (List NK)) (ds:List D)
@[inline]abbrev Sto:=List Ob
@[inline]abbrev Rho:=List (Option D)
mutual
noncomputable def VD(K:Vp)(m:List Addr)(H:Hp):D->V->Prop
 |.non,v=>v = .non
 |.bl b,v=>v = .bl b
 |.int i,v=>v = .int i
 |.str x,v=>v = .str x
 |.tup ds,v=>∃a X,v = .ref a/\H a=aw (.tup X)/\VDs K m H ds X
 |.ref n,v=>∃a,m[n]?=aw a/\v = .ref a
noncomputable def VDs(K:Vp)(m:List Addr)(H:Hp):List D->List V->Prop
 |[],xs=>xs=[]
 |d::ds,xs=>∃x r,xs=x::r/\VD K m H d x/\VDs K m H ds r
end
structure Ext(m:List Addr)(H:Hp)(m':List Addr)(H':Hp):Prop where
 pre:m <+: m'
 keep:∀a o,H a=aw o->a ∉ m->H' a=aw o
 new:∀a,a ∈ m'->a ∉ m->H a=aD
abbrev DfO(o:Obj)(ks:List (List NK))(d:List D):Prop:=ks.length=d.length/\∃b,o.data = .dict b ks.length
abbrev ObR(K:Vp)(m:List Addr)(H:Hp)(a:Addr):Ob->Prop
 |.lst ds=>∃v,H a=aw (.lst v)/\VDs K m H ds v
 |.frz ds=>∃o v,H a=aw (.frz o (.lst v))/\VDs K m H ds v
 |.dic ks ds=>∃v,H a=aw (.dT (ks.zip v))/\ks.length=ds.length/\VDs K m H ds v
 |.tbl x pos qual=>ER K x a/\∃ps,TabOk a pos qual H ps
 |.dfz ks ds=>∃o v,H a=aw (.frz o (.dT (ks.zip v)))/\DfO o ks ds/\VDs K m H ds v
structure Rel(K:Vp)(m:List Addr)(S:Sto)(H:Hp):Prop where
 len:m.length=S.length
 nd:m.Nodup
 ob:∀ (i:Nat) (o:Ob),S[i]?=aw o->∃a,m[i]?=aw a/\ObR K m H a o
structure EnvR(K:Vp)(m:List Addr)(H:Hp)(ρ:Rho)(σ:L2.St):Prop where
 len:ρ.length=σ.length
 at_:∀ (i:Nat) (d:D),ρ[i]?=aw (aw d)->∃v,σ[i]?=aw (aw v)/\VD K m H d v
def Ext.refl(m:List Addr)(H:Hp):Ext m H m H:=⟨Yk m,λ_ _ h _=>h,λ_ h n=>absurd h n⟩
def Ext.trans(x:Ext m H m1 c)(y:Ext m1 c d H2):Ext m H d H2:=by
 refine⟨x.pre.trans y.pre,λa o h n=>?_,λa h n=>?_⟩
 ·have j:a ∉ m1:=λz=>by have:=x.new a z n;rw[this] at h;cases h
  exact y.keep a o (x.keep a o h n) j
 ·by_cases b:a ∈ m1
  ·exact x.new a b n
  ·cases e:H a with
   |none=>rfl
   |some o=>
    have:=x.keep a o e n;rw[y.new a h b] at this;cases this
section
variable {K:Vp} {m m':List Addr} {S S':Sto} {H H':Hp} {a:Addr}
def Rel.ex(R:Rel K m S H)(k:a ∈ m):∃o ob,H a=aw o/\ObR K m H a ob:=by
 obtain⟨i,hi,e⟩:=List.getElem_of_mem k;have j:i < S.length:=by rw[<-R.len];exact hi
 obtain⟨b,hb,r⟩:=R.ob i S[i] (gEG j);have:b=a:=by rw[gEG hi] at hb;rw[<-e];exact(Option.some.inj hb).symm
 subst this;cases c:S[i] with
 |lst d=>rw[c] at r;obtain⟨v,h,q⟩:=r;exact⟨_,.lst d,h,v,h,q⟩
 |frz d=>rw[c] at r;obtain⟨o,v,h,q⟩:=r;exact⟨_,.frz d,h,o,v,h,q⟩
 |dic ks d=>rw[c] at r;obtain⟨v,h,q⟩:=r;exact⟨_,.dic ks d,h,v,h,q⟩
 |tbl T p q=>rw[c] at r;obtain⟨e,ps,h⟩:=r;exact⟨_,.tbl T p q,h.at_,e,ps,h⟩
 |dfz ks d=>rw[c] at r;obtain⟨o,v,h,q⟩:=r;exact⟨_,.dfz ks d,h,o,v,h,q⟩
def Rel.no(R:Rel K m S H)(h:H a=aD):a ∉ m:=λz=>by
 obtain⟨o,_,e,_⟩:=R.ex z;rw[h] at e;cases e
def Rel.notTup(R:Rel K m S H)(h:H a=aw (.tup xs)):a ∉ m:=λz=>by
 obtain⟨o,ob,e,r⟩:=R.ex z;cases ob with
 |lst d=>obtain⟨v,q,_⟩:=r;rw[q] at h;cases h
 |frz d=>obtain⟨o,v,q,_⟩:=r;rw[q] at h;cases h
 |dic ks d=>obtain⟨v,q,_⟩:=r;rw[q] at h;cases h
 |tbl T p q=>obtain⟨e,ps,z⟩:=r;rw[z.at_] at h;cases h
 |dfz ks d=>obtain⟨o,v,q,_⟩:=r;rw[q] at h;cases h
def Rel.notCd{c:Addr}{Q:Str}(R:Rel K m S H)(h:H a=aw (cdO c Q)):a ∉ m:=λz=>by
 unfold cdO at h;obtain⟨o,ob,e,r⟩:=R.ex z;cases ob with
 |lst d=>obtain⟨v,q,_⟩:=r;rw[q] at h;cases h
 |frz d=>obtain⟨o,v,q,_⟩:=r;rw[q] at h;cases h
 |dic ks d=>obtain⟨v,q,_⟩:=r;rw[q] at h;cases h
 |tbl T p q=>obtain⟨e,ps,z⟩:=r;rw[z.at_] at h;cases h
 |dfz ks d=>obtain⟨o,v,q,_⟩:=r;rw[q] at h;cases h
def Tup.ext(R:Rel K m S H)(x:Ext m H m' H')(h:H a=aw (.tup xs)):H' a=aw (.tup xs):=x.keep _ _ h (R.notTup h)
def pR{i:Nat}(h:m <+: m')(e:m[i]?=aw a):m'[i]?=aw a:=by
 obtain⟨t,rfl⟩:=h;have hi:i < m.length:=(Zb.mp e).1;rw[Zv hi];exact e
mutual
theorem VD.mono0(pre:m <+: m')(T:∀a xs,H a=aw (.tup xs)->H' a=aw (.tup xs)):∀ {d:D} {v:V},VD K m H d v->VD K m' H' d v
 |.non,v,h=>by rw[VD] at h ⊢;exact h
 |.bl _,v,h=>by rw[VD] at h ⊢;exact h
 |.int _,v,h=>by rw[VD] at h ⊢;exact h
 |.str _,v,h=>by rw[VD] at h ⊢;exact h
 |.tup ds,v,h=>by
  rw[VD] at h ⊢;obtain⟨a,xs,e,q,r⟩:=h;exact⟨a,xs,e,T a xs q,VDs.mono0 pre T r⟩
 |.ref n,v,h=>by
  rw[VD] at h ⊢;obtain⟨a,q,e⟩:=h;exact⟨a,pR pre q,e⟩
theorem VDs.mono0(pre:m <+: m')(T:∀a xs,H a=aw (.tup xs)->H' a=aw (.tup xs)):∀ {b:List D} {v:List V},VDs K m H b v->VDs K m' H' b v
 |[],v,h=>by rw[VDs] at h ⊢;exact h
 |d::b,v,h=>by
  rw[VDs] at h ⊢;obtain⟨y,r,e,p,q⟩:=h;exact⟨y,r,e,VD.mono0 pre T p,VDs.mono0 pre T q⟩
end
def VD.mono(R:Rel K m S H)(x:Ext m H m' H')(h:VD K m H d v):VD K m' H' d v:=VD.mono0 x.pre (λ_ _=>Tup.ext R x) h
def VDs.mono(R:Rel K m S H)(x:Ext m H m' H')(h:VDs K m H d vs):VDs K m' H' d vs:=VDs.mono0 x.pre (λ_ _=>Tup.ext R x) h
def EnvR.mono(R:Rel K m S H)(x:Ext m H m' H')(h:EnvR K m H b σ):EnvR K m' H' b σ:=
 ⟨h.len,λi d e=>let ⟨v,p,q⟩:=h.at_ i d e;⟨v,p,VD.mono R x q⟩⟩
def VDs.length:∀ {b:List D} {v:List V},VDs K m H b v->b.length=v.length
 |[],v,h=>by rw[VDs] at h;rw[h];rfl
 |d::b,v,h=>by
  rw[VDs] at h;obtain⟨y,r,e,_,q⟩:=h;rw[e,Zo,Zo,VDs.length q]
def VDs.nil:VDs K m H [] []:=by rw[VDs]
def VDs.cons(h:VD K m H d v)(t:VDs K m H c b):VDs K m H (d::c) (v::b):=by rw[VDs];exact⟨v,b,rfl,h,t⟩
def VDs.get:∀ {b:List D} {c:List V} {i:Nat} {d:D},VDs K m H b c->b[i]?=aw d->∃v,c[i]?=aw v/\VD K m H d v
 |[],_,_,_,_,e=>by simp at e
 |d::b,c,0,d',h,e=>by
  rw[VDs] at h;obtain⟨y,r,rfl,p,q⟩:=h;simp at e;subst e;exact⟨y,rfl,p⟩
 |d::b,c,i+1,d',h,e=>by
  rw[VDs] at h;obtain⟨y,r,rfl,p,q⟩:=h;obtain⟨v,k,j⟩:=VDs.get (i:=i) q (by simpa using e);exact⟨v,by simpa using k,j⟩
def VDs.append:∀ {j c:List D} {v b:List V},VDs K m H j v->VDs K m H c b->VDs K m H (j++c) (v++b)
 |[],_,v,_,h,t=>by rw[VDs] at h;subst h;exact t
 |d::j,c,v,b,h,t=>by
  rw[VDs] at h;obtain⟨y,r,rfl,p,q⟩:=h;exact .cons p (VDs.append q t)
def VDs.drop:∀ {b:List D} {v:List V} (n:Nat),VDs K m H b v->VDs K m H (b.drop n) (v.drop n)
 |b,v,0,h=>h
 |[],v,n+1,h=>by rw[VDs] at h;subst h;exact .nil
 |d::b,v,n+1,h=>by
  rw[VDs] at h;obtain⟨y,r,rfl,p,q⟩:=h;exact VDs.drop n q
def VDs.take:∀ {b:List D} {v:List V} (n:Nat),VDs K m H b v->VDs K m H (b.take n) (v.take n)
 |b,v,0,h=>by simp only[Y5];exact .nil
 |[],v,n+1,h=>by rw[VDs] at h;subst h;exact .nil
 |d::b,v,n+1,h=>by
  rw[VDs] at h;obtain⟨y,r,rfl,p,q⟩:=h;exact .cons p (VDs.take n q)
def VDs.set:∀ {c:List D} {b:List V} {i:Nat} {d:D} {v:V},VDs K m H c b->VD K m H d v->VDs K m H (c.set i d) (b.set i v)
 |[],b,_,_,_,h,_=>by rw[VDs] at h;subst h;exact .nil
 |_::c,b,0,d,v,h,p=>by
  rw[VDs] at h;obtain⟨y,r,rfl,_,q⟩:=h;exact .cons p q
 |_::c,b,i+1,d,v,h,p=>by
  rw[VDs] at h;obtain⟨y,r,rfl,j,q⟩:=h;exact .cons j (VDs.set q p)
def Ext.beside(R:Rel K m S H)(h:H a=aD)(o:HO):Ext m H m (upd H a o):=
 ⟨Yk m,λb u e _=>by rw[ac (aV e h)];exact e,λb z n=>absurd z n⟩
def Rel.ext_keep(R:Rel K m S H)(x:Ext m H m H')(k:∀b ∈ m,H' b=H b):Rel K m S H':=by
 refine⟨R.len,R.nd,λi o e=>?_⟩;obtain⟨b,hb,r⟩:=R.ob i o e;have c:b ∈ m:=Zc hb;refine⟨b,hb,?_⟩;cases o with
 |lst d=>obtain⟨v,p,q⟩:=r;exact⟨v,(k b c).trans p,VDs.mono R x q⟩
 |frz d=>obtain⟨o,v,p,q⟩:=r;exact⟨o,v,(k b c).trans p,VDs.mono R x q⟩
 |dic ks d=>obtain⟨v,p,l,q⟩:=r;exact⟨v,(k b c).trans p,l,VDs.mono R x q⟩
 |tbl T p q=>
  obtain⟨e,ps,z⟩:=r;refine⟨e,ps,(k _ c).trans z.at_,z.tr,λI y=>?_⟩;obtain⟨C,B,u⟩:=z.cd I y;refine⟨C,B,?_⟩;by_cases j:C ∈ m
  ·exact(k _ j).trans u
  ·exact x.keep _ _ u j
 |dfz ks d=>obtain⟨o,v,p,l,q⟩:=r;exact⟨o,v,(k b c).trans p,l,VDs.mono R x q⟩
def Rel.beside(R:Rel K m S H)(h:H a=aD)(o:HO):Rel K m S (upd H a o):=
 R.ext_keep (Ext.beside R h o) λb hb=>ac λz=>R.no h (z ▸ hb)
def Rel.adoptP{a:Addr}{ob:Ob}(R:Rel K m S H)(n:a ∉ m)(h:ObR K (m++[a]) H a ob):Rel K (m++[a]) (S++[ob]) H:=by
 have p:=YE m [a];have g:∀ {c:List D} {ws:List V},VDs K m H c ws->VDs K (m++[a]) H c ws:=λz=>VDs.mono0 p (λ_ _ t=>t) z;refine⟨by simp[R.len],Y6.mpr ⟨R.nd,by simp,λx B y j=>by simp at j;subst j;exactλz=>n (z ▸ B)⟩,λi o e=>?_⟩;by_cases hi:i < S.length
 ·rw[Zv hi] at e;obtain⟨b,hb,r⟩:=R.ob i o e;refine⟨b,pR p hb,?_⟩;cases o with
  |lst d=>obtain⟨v,p,q⟩:=r;exact⟨v,p,g q⟩
  |frz d=>obtain⟨o,v,p,q⟩:=r;exact⟨o,v,p,g q⟩
  |dic ks d=>obtain⟨v,p,l,q⟩:=r;exact⟨v,p,l,g q⟩
  |tbl T p q=>exact r
  |dfz ks d=>obtain⟨o,v,p,l,q⟩:=r;exact⟨o,v,p,l,g q⟩
 ·rw[Zp (by lia)] at e
  have k:i - S.length=0:=by
   have:=(Zb.mp e).1;simp at this;lia
  rw[k] at e;have u:ob=o:=by simpa using e
  subst u;refine⟨a,?_,h⟩;rw[Zp (by rw[R.len];lia),R.len,k];rfl
def Rel.adopt(R:Rel K m S H)(n:a ∉ m)(h:H a=aw (.lst v))(q:VDs K m H d v):Rel K (m++[a]) (S++[.lst d]) H:=R.adoptP n ⟨v,h,VDs.mono0 (YE m [a]) (λ_ _ t=>t) q⟩
def Ext.adopt(x:Ext m H m H')(h:H a=aD):Ext m H (m++[a]) H':=
 ⟨YE m [a],x.keep,λb hb nb=>by
  rcases ZP.mp hb with z |z
  ·exact absurd z nb
  ·simp at z;subst z;exact h⟩
def Rel.write(R:Rel K m S H){i:Nat}(hi:m[i]?=aw a)(q:VDs K m H U v):Ext m H m (upd H a (.lst v))/\Rel K m (S.set i (.lst U)) (upd H a (.lst v)):=by
 have B:a ∈ m:=Zc hi;have x:Ext m H m (upd H a (.lst v)):=⟨Yk m,λb u e n=>by rw[ac (show b ≠ a fromλz=>n (by rw[z];exact B))];exact e,λb z n=>absurd z n⟩;refine⟨x,by simp[R.len],R.nd,λj o e=>?_⟩;rw[Yv] at e;by_cases k:i=j
 ·subst k;rw[if_pos rfl] at e;split at e
  ·have J:=Option.some.inj e;subst J;exact⟨a,hi,v,az,VDs.mono R x q⟩
  ·cases e
 ·rw[if_neg k] at e;obtain⟨b,hb,r⟩:=R.ob j o e
  have ne:b ≠ a:=λz=>by
   subst z;have O:=Zb.mp hi;have X:=Zb.mp hb;exact k ((YO R.nd).mp (O.2.trans X.2.symm))
  refine⟨b,hb,?_⟩;cases o with
  |lst d=>obtain⟨c,p,q⟩:=r;exact⟨c,by rw[ac ne];exact p,VDs.mono R x q⟩
  |frz d=>obtain⟨o,c,p,q⟩:=r;exact⟨o,c,by rw[ac ne];exact p,VDs.mono R x q⟩
  |dic ks d=>obtain⟨c,p,l,q⟩:=r;exact⟨c,by rw[ac ne];exact p,l,VDs.mono R x q⟩
  |tbl T p q=>
   obtain⟨e,ps,z⟩:=r;refine⟨e,ps,by rw[ac ne];exact z.at_,z.tr,λY Q=>?_⟩;obtain⟨C,L,I⟩:=z.cd Y Q;exact⟨C,L,by rw[ac (show C ≠ a fromλy=>R.notCd I (y.symm ▸ B))];exact I⟩
  |dfz ks d=>obtain⟨o,c,p,l,q⟩:=r;exact⟨o,c,by rw[ac ne];exact p,l,VDs.mono R x q⟩
def Rel.lst(R:Rel K m S H){i:Nat}(e:S[i]?=aw (.lst d)):∃a vs,m[i]?=aw a/\H a=aw (.lst vs)/\VDs K m H d vs:=by
 obtain⟨a,b,vs,p,q⟩:=R.ob i _ e;exact⟨a,vs,b,p,q⟩
end
abbrev aQ(S:Sto)(n:Nat):Option (List D):=match S[n]? with
 |some (.lst ds)=>aw ds
 |some (.frz ds)=>aw ds
 |_=>aD
def Rel.seq{K:Vp}{m:List Addr}{S:Sto}{H:Hp}(R:Rel K m S H){i:Nat}{d:List D}(e:aQ S i=aw d):∃a vs,m[i]?=aw a/\SqL K H a vs/\VDs K m H d vs:=by
 unfold aQ at e;cases h:S[i]? with
 |none=>rw[h] at e;cases e
 |some o=>
  rw[h] at e;cases o with
  |lst c=>cases e;obtain⟨a,b,vs,p,q⟩:=R.ob i _ h;exact⟨a,vs,b,.inl (.inl p),q⟩
  |frz c=>cases e;obtain⟨a,b,o,vs,p,q⟩:=R.ob i _ h;exact⟨a,vs,b,.inl (.inr ⟨o,p⟩),q⟩
  |dic ks c=>cases e
  |tbl T p q=>cases e
  |dfz ks d=>cases e
@[inline]abbrev XE:=Rho->Sto->Option (D × Sto)
@[inline]abbrev XT:=Rho->Sto->Option (Bool × Sto)
@[inline]abbrev XA:=Rho->Sto->Option (List D × Sto)
abbrev bnd{c b:Type}(x:Option (c × Sto))(f:c->Sto->Option (b × Sto)):Option (b × Sto):=match x with
 |none=>aD
 |some (a,S)=>f a S
def ab{c b:Type}{x:Option (c × Sto)}{f:c->Sto->Option (b × Sto)}{r:b × Sto}(h:bnd x f=aw r):∃a S,x=aw (a,S)/\f a S=aw r:=by
 unfold bnd at h;cases x with
 |none=>cases h
 |some p=>exact⟨p.1,p.2,rfl,h⟩
structure Aft(K:Vp)(m:List Addr)(H:Hp)(S':Sto)(m':List Addr)(H':Hp):Prop where
 ext:Ext m H m' H'
 rel:Rel K m' S' H'
abbrev tE(K:Vp)(x:XE):TE:=λl H Q=>∃m j S d k,EnvR K m H j l/\Rel K m S H/\x j S=aw (d,k)/\∀c b v,Aft K m H k c b->VD K c b d v->Q v b
abbrev tT(K:Vp)(x:XT):TT:=λk H Q=>∃m c S b j,EnvR K m H c k/\Rel K m S H/\x c S=aw (b,j)/\∀l d,Aft K m H j l d->Q b d
abbrev tAr(K:Vp)(x:XA):TA:=λl H Q=>∃m c S d j,EnvR K m H c l/\Rel K m S H/\x c S=aw (d,j)/\∀k b v,Aft K m H j k b->VDs K k b d v->Q v b
abbrev SqB(K:Vp)(T:Bool)(H:Hp)(a:Addr)(v:List V):Prop:=if T=aN then H a=aw (.tup v) else SqL K H a v
abbrev fB(K:Vp)(x:XA):TE:=λq H Q=>∃m j S k l,EnvR K m H j q/\Rel K m S H/\x j S=aw (k,l)/\∀d c a v,Aft K m H l d c->c a=aw (.lst v)->a ∉ d->(∀b,b ∈ m->b ≠ a)->H a=aD->VDs K d c k v->Q (.ref a) c
section
variable {X:Cx} {e:Expr} {K:Vp} {m m1 m2:List Addr} {H H1 H2:Hp} {S S1 S2:Sto}
def PE.imp(h:PE X e t)(f:∀c H Q,t' c H Q->t c H Q):PE X e t':=λb s c H Q I q=>h b s c H Q I (f c H Q q)
def PT.imp(h:PT X e t)(f:∀c H Q,t' c H Q->t c H Q):PT X e t':=λb s c H Q I q=>h b s c H Q I (f c H Q q)
def PA.imp(h:PA X d t)(f:∀c H Q,t' c H Q->t c H Q):PA X d t':=λp b s c H Q I q=>h p b s c H Q I (f c H Q q)
def PS.imp{st:Stmt}{t t':TS}(h:PS X st t)(f:∀D c H,t' D c H->t D c H):PS X st t':=λb s c H D I q=>h b s c H D I (f D c H q)
def PSs.imp{st:List Stmt}{t t':TS}(h:PSs X st t)(f:∀D c H,t' D c H->t D c H):PSs X st t':=λb s c H D I q=>h b s c H D I (f D c H q)
def PI.imp(h:PI X T it t)(f:∀c H Q,t' c H Q->t c H Q):PI X T it t':=λb s c H Q I q=>h b s c H Q I (f c H Q q)
def PI.or(h:PI X T it t)(h':PI X T it t'):PI X T it (λc H Q=>t c H Q\/t' c H Q):=λb s c H Q I q=>q.elim (h b s c H Q I) (h' b s c H Q I)
def OpR.imp(h:OpR X f r)(g:∀x y H Q,r' x y H Q->r x y H Q):OpR X f r':=λb s j H x y v u Q I c d q=>h b s j H x y v u Q I c d (g _ _ _ _ q)
def OpR.or(h:OpR X f r)(h':OpR X f k):OpR X f (λx y H Q=>r x y H Q\/k x y H Q):=λb s j H x y v u Q I c d q=>
 q.elim (h b s j H x y v u Q I c d) (h' b s j H x y v u Q I c d)
def aX.imp(h:aX X f r)(g:∀x H Q,r' x H Q->r x H Q):aX X f r':=λb s j H d u Q I c q=>h b s j H d u Q I c (g _ _ _ q)
def aX.or(h:aX X f r)(h':aX X f k):aX X f (λx H Q=>r x H Q\/k x H Q):=λb s j H d u Q I c q=>
 q.elim (h b s j H d u Q I c) (h' b s j H d u Q I c)
def Aft.refl(R:Rel K m S H):Aft K m H S m H:=⟨Ext.refl m H,R⟩
def Aft.trans(x:Aft K m H S1 m1 H1)(y:Aft K m1 H1 S2 m2 H2):Aft K m H S2 m2 H2:=⟨x.ext.trans y.ext,y.rel⟩
abbrev rS(K:Vp)(f:D->D->Sto->Option (D × Sto)):R2:=λv w H Q=>∃m S a b d k,Rel K m S H/\VD K m H a v/\VD K m H b w/\f a b S=aw (d,k)/\∀j c u,Aft K m H k j c->VD K j c d u->Q u c
abbrev rS1(K:Vp)(f:D->Sto->Option (D × Sto)):V->Hp->VK->Prop:=λv H Q=>∃m S a d j,Rel K m S H/\VD K m H a v/\f a S=aw (d,j)/\∀c b u,Aft K m H j c b->VD K c b d u->Q u b
abbrev rSA(K:Vp)(f:List D->Sto->Option (D × Sto)):List V->Hp->VK->Prop:=λv H Q=>∃m S j d k,Rel K m S H/\VDs K m H j v/\f j S=aw (d,k)/\∀c b u,Aft K m H k c b->VD K c b d u->Q u b
abbrev rSq(K:Vp)(f:Bool->List D->Sto->Option (D × Sto)):V->Hp->VK->Prop:=λv H Q=>∃m S T j a l d k,Rel K m S H/\v = .ref a/\SqB K T H a l/\VDs K m H j l/\f T j S=aw (d,k)/\∀c b u,Aft K m H k c b->VD K c b d u->Q u b
abbrev sj(f:D->D->Sto->Option (D × Sto))(x y:XE):XE:=λc S=>bnd (x c S) λa S1=>bnd (y c S1) λb S2=>f a b S2
abbrev xUn(f:D->Sto->Option (D × Sto))(x:XE):XE:=λb S=>bnd (x b S) λa S1=>f a S1
abbrev lB(f:List D->Sto->Option (D × Sto))(x:XA):XE:=λb S=>bnd (x b S) λa S1=>f a S1
abbrev pS(f:Bool->List D->Sto->Option (D × Sto))(x:XA):XE:=λb S=>bnd (x b S) λd S1=>f aS d S1
abbrev ao(d:D)(S:Sto):Option (Bool × List D):=match d with
 |.tup b=>aw (aN,b)
 |.ref n=>(aQ S n).map λb=>(aS,b)
 |_=>aD
abbrev aq(f:Bool->List D->Sto->Option (D × Sto))(d:D)(S:Sto):Option (D × Sto):=match ao d S with
 |some r=>f r.1 r.2 S
 |none=>aD
abbrev pT(f:Bool->List D->Sto->Option (D × Sto))(x:XE):XE:=λb S=>bnd (x b S) λd S1=>aq f d S1
def pU{f:D->D->Sto->Option (D × Sto)}{x y:XE}{l:L2.St}{H:Hp}{Q:VK}(h:tE K (sj f x y) l H Q):tOp (rS K f) (tE K x) (tE K y) l H Q:=by
 obtain⟨m,k,S,d,O,E,R,e,q⟩:=h;obtain⟨a,S1,C,e⟩:=ab e;obtain⟨b,S2,L,e⟩:=ab e;refine⟨m,k,S,a,S1,E,R,C,λm1 H1 v c I=>⟨m1,k,S1,b,S2,E.mono R c.ext,c.rel,L,λm2 H2 w j B=>?_⟩⟩;exact⟨m2,S2,a,b,d,O,j.rel,I.mono c.rel j.ext,B,e,λz J u T vd=>q z J u ((c.trans j).trans T) vd⟩
def I8{f:D->Sto->Option (D × Sto)}{x:XE}{c:L2.St}{H:Hp}{Q:VK}(h:tE K (xUn f x) c H Q):tUn (rS1 K f) (tE K x) c H Q:=by
 obtain⟨m,y,S,d,z,E,R,e,q⟩:=h;obtain⟨a,S1,k,e⟩:=ab e;exact⟨m,y,S,a,S1,E,R,k,λm1 H1 v b l=>⟨m1,S1,a,d,z,b.rel,l,e,λj B u C vd=>q j B u (b.trans C) vd⟩⟩
def Bc{f:List D->Sto->Option (D × Sto)}{x:XA}{c:L2.St}{H:Hp}{Q:VK}(h:tE K (lB f x) c H Q):tCB (rSA K f) (tAr K x) c H Q:=by
 obtain⟨m,y,S,d,z,E,R,e,q⟩:=h;obtain⟨a,S1,k,e⟩:=ab e;exact⟨m,y,S,a,S1,E,R,k,λm1 H1 v b l=>⟨m1,S1,a,d,z,b.rel,l,e,λj B u C vd=>q j B u (b.trans C) vd⟩⟩
def KG{f:Bool->List D->Sto->Option (D × Sto)}{x:XA}{j:L2.St}{H:Hp}{Q:VK}(h:tE K (pS f x) j H Q):tUn (rSq K f) (fB K x) j H Q:=by
 obtain⟨m,B,S,d,z,E,R,e,q⟩:=h;obtain⟨c,S1,y,e⟩:=ab e;exact⟨m,B,S,c,S1,E,R,y,λm1 H1 a v b k _ _ _ vd=>⟨m1,S1,aS,c,a,v,d,z,b.rel,rfl,show SqL K H1 a v from SqL.of k,vd,e,λl C u I vd=>q l C u (b.trans I) vd⟩⟩
abbrev yW(i:Nat):XE:=λb S=>match b[i]? with
 |some (aw d)=>aw (d,S)
 |_=>aD
abbrev xC(d:D):XE:=λ_ S=>aw (d,S)
def KH{i:Nat}(h:tE K (yW i) k H Q):yC i k H Q:=by
 obtain⟨m,j,S,d,u,E,R,e,q⟩:=h;unfold yW at e;cases b:j[i]? with
 |none=>rw[b] at e;cases e
 |some o=>
  rw[b] at e;cases o with
  |none=>cases e
  |some l=>
   cases e;obtain⟨v,c,vd⟩:=E.at_ i d b;exact⟨v,c,q m H v (Aft.refl R) vd⟩
def Bd(c:∀m H,VD K m H d v)(h:tE K (xC d) b H Q):tC v b H Q:=by
 obtain⟨m,k,S,j,l,E,R,e,q⟩:=h;cases e;exact q m H v (Aft.refl R) (c m H)
def pV:VD K m H .non .non:=by rw[VD]
def bJ:VD K m H (.bl b) (.bl b):=by rw[VD]
def bp{i:Int}:VD K m H (.int i) (.int i):=by rw[VD]
def uW:VD K m H (.str x) (.str x):=by rw[VD]
def lH(h:H a=aw (.tup v))(q:VDs K m H d v):VD K m H (.tup d) (.ref a):=by rw[VD];exact⟨a,v,rfl,h,q⟩
def VD.ints{i:Int}(h:VD K m H (.int i) v):v = .int i:=by rw[VD] at h;exact h
def VD.bls(h:VD K m H (.bl i) v):v = .bl i:=by rw[VD] at h;exact h
def VD.strs(h:VD K m H (.str i) v):v = .str i:=by rw[VD] at h;exact h
def VD.nons(h:VD K m H .non v):v = .non:=by rw[VD] at h;exact h
def VD.tups(h:VD K m H (.tup d) v):∃a vs,v = .ref a/\H a=aw (.tup vs)/\VDs K m H d vs:=by rw[VD] at h;exact h
def VD.refs{n:Nat}(h:VD K m H (.ref n) v):∃a,m[n]?=aw a/\v = .ref a:=by rw[VD] at h;exact h
abbrev Fc:XA:=λ_ S=>aw ([],S)
abbrev xg(x:XE)(y:XA):XA:=λb S=>bnd (x b S) λa S1=>bnd (y b S1) λc S2=>aw (a::c,S2)
def KJ(h:tAr K Fc b H Q):jh b H Q:=by
 obtain⟨m,c,S,d,j,E,R,e,q⟩:=h;cases e;exact q m H [] (Aft.refl R) .nil
def Fd{x:XE}{y:XA}{k:L2.St}{H:Hp}{Q:List V->Hp->Prop}(h:tAr K (xg x y) k H Q):cf (tE K x) (tAr K y) k H Q:=by
 obtain⟨m,j,S,C,I,E,R,e,q⟩:=h;obtain⟨a,S1,u,e⟩:=ab e;obtain⟨b,S2,B,e⟩:=ab e;cases e;refine⟨m,j,S,a,S1,E,R,u,λm1 H1 v c z=>⟨m1,j,S1,b,_,E.mono R c.ext,c.rel,B,λm2 H2 w d l=>?_⟩⟩;exact q m2 H2 _ (c.trans d) (.cons (z.mono c.rel d.ext) l)
abbrev lJ(d:List D)(S:Sto):Option (D × Sto):=if d.length<=1000 then aw (.tup d,S) else aD
def lK{n:Nat}(h:n<=1000):n<=sizeLine:=by rw[Ut];lia
def iJ{d:List D}{v:List V}{Q:VK}(R:Rel K m S H)(vd:VDs K m H d v)(q:∀j b u,Aft K m H S j b->VD K j b (.tup d) u->Q u b):∀p,H p=aD->Q (.ref p) (upd H p (.tup v)):=λp c=>
 q m _ _ ⟨Ext.beside R c _,R.beside c _⟩ (lH az (vd.mono R (Ext.beside R c _)))
def pW{d:List D}{v:List V}{Q:VK}(R:Rel K m S H)(vd:VDs K m H d v)(q:∀j c u,Aft K m H (S++[.lst d]) j c->VD K j c (.ref S.length) u->Q u c):∀p,H p=aD->Q (.ref p) (upd H p (.lst v)):=λp b=>by
 have x:=Ext.beside R b (.lst v);refine q (m++[p]) _ _ ⟨x.adopt b,(R.beside b _).adopt (R.no b) az (vd.mono R x)⟩ ?_;rw[VD];exact⟨p,by rw[Zp (by rw[R.len];exact Zj _),R.len,Yd];rfl,rfl⟩
def iK{k:List D}{v:List V}{Q:VK}(R:Rel K m S H)(vd:VDs K m H k v)(q:∀j d a v,Aft K m H S j d->d a=aw (.lst v)->a ∉ j->(∀b,b ∈ m->b ≠ a)->H a=aD->VDs K j d k v->Q (.ref a) d):∀p,H p=aD->Q (.ref p) (upd H p (.lst v)):=λp c=>
 q m _ _ _ ⟨Ext.beside R c _,R.beside c _⟩ az (R.no c) (λb hb z=>R.no c (z ▸ hb)) c (vd.mono R (Ext.beside R c _))
def KL{x:XA}{c:L2.St}{H:Hp}{Q:VK}(h:tE K (lB lJ x) c H Q):Kq (tAr K x) c H Q:=by
 obtain⟨m,l,S,C,I,E,R,e,q⟩:=h;obtain⟨a,S1,k,e⟩:=ab e;unfold lJ at e;split at e
 ·rename_i y;cases e;exact⟨m,l,S,a,_,E,R,k,λm1 H1 J b v=>⟨lK (by rw[<-v.length];exact y),iJ b.rel v λB z u j d=>q B z u (b.trans j) d⟩⟩
 ·cases e
abbrev oe(x:XA):XA:=λb S=>bnd (x b S) λd S1=>if d.length<=1000 then aw (d,S1) else aD
def Fe{x:XA}{j:L2.St}{H:Hp}{Q:VK}(h:fB K (oe x) j H Q):Pn (tAr K x) j H Q:=by
 obtain⟨m,O,S,ds,Z,E,R,e,q⟩:=h;obtain⟨a,S1,y,e⟩:=ab e;split at e
 ·rename_i z;cases e;refine⟨m,O,S,_,_,E,R,y,λm1 H1 vs c v=>⟨lK (by rw[<-v.length];exact z),iK c.rel v λC T u U J B L l d I=>?_⟩⟩
  have Y:H u=aD:=by
   cases e:H u with
   |none=>rfl
   |some o=>
    by_cases k:u ∈ m
    ·exact absurd rfl (l u (c.ext.pre.subset k))
    ·have:=c.ext.keep u o e k;rw[this] at d;cases d
  exact q C T u U (c.trans J) B L (λb hb=>l b (c.ext.pre.subset hb)) Y I
 ·cases e
def eB{d:D}{v:V}{tu:Bool}{ds:List D}(R:Rel K m S H)(vd:VD K m H d v)(e:ao d S=aw (tu,ds)):∃a vs,v = .ref a/\SqB K tu H a vs/\VDs K m H ds vs:=by
 unfold ao at e;cases d with
 |tup c=>
  cases e;obtain⟨a,vs,e,q,r⟩:=vd.tups;exact⟨a,vs,e,q,r⟩
 |ref n=>
  obtain⟨a,j,k⟩:=vd.refs;cases hs:aQ S n with
  |none=>simp[hs] at e
  |some c=>
   simp[hs] at e;obtain⟨rfl,rfl⟩:=e;obtain⟨b,vs,hb,q,r⟩:=R.seq hs;rw[j] at hb;cases hb;exact⟨a,vs,k,q,r⟩
 |_=>cases e
def KM{f:Bool->List D->Sto->Option (D × Sto)}{x:XE}{k:L2.St}{H:Hp}{Q:VK}(h:tE K (pT f x) k H Q):tUn (rSq K f) (tE K x) k H Q:=by
 obtain⟨m,C,S,d,I,E,R,e,q⟩:=h;obtain⟨a,S1,z,e⟩:=ab e;refine⟨m,C,S,a,S1,E,R,z,λm1 H1 v c B=>?_⟩;unfold aq at e;split at e
 ·rename_i r hi;obtain⟨b,T,L,l,j⟩:=eB (tu:=r.1) (ds:=r.2) c.rel B hi;exact⟨m1,S1,r.1,r.2,b,T,d,I,c.rel,L,l,j,e,λy J u O vd=>q y J u (c.trans O) vd⟩
 ·cases e
abbrev dM(x:XA):XE:=λb S=>bnd (x b S) λd S1=>aw (.ref S1.length,S1++[.lst d])
def su{x:XA}{j:L2.St}{H:Hp}{Q:VK}(h:tE K (dM x) j H Q):fB K x j H Q:=by
 obtain⟨m,v,S,d,C,E,R,e,q⟩:=h;obtain⟨y,S1,u,e⟩:=ab e;cases e;refine⟨m,v,S,y,S1,E,R,u,λm1 H1 a J c k B I l vd=>?_⟩;refine q (m1++[a]) H1 _ ⟨⟨c.ext.pre.trans (YE _ _),c.ext.keep,λb hb nb=>?_⟩,c.rel.adopt B k vd⟩ ?_
 ·rcases ZP.mp hb with z |z
  ·exact c.ext.new b z nb
  ·simp at z;subst z;exact l
 ·rw[VD];exact⟨a,by rw[Zp (by rw[c.rel.len];exact Zj _),c.rel.len,Yd];rfl,rfl⟩
end
abbrev eqL(f:D->D->Option Bool):List D->List D->Option Bool
 |[],[]=>aw aN
 |x::xs,y::ys=>match f x y,eqL f xs ys with
  |some a,aw b=>aw (a && b)
  |_,_=>aD
 |_,_=>aw aS
abbrev eqB:D->D->Option Bool
 |.non,.non=>aw aN
 |.bl a,.bl b=>aw (a == b)
 |.int a,.int b=>aw (a == b)
 |.str a,.str b=>aw (a == b)
 |.bl a,.int b=>aw ((if a then 1 else 0) == b)
 |.int a,.bl b=>aw (a == (if b then 1 else 0))
 |.non,.int _=>aw aS
 |_,_=>aD
abbrev bK:List D->Option (List Int)
 |[]=>aw []
 |d::ds=>match d,bK ds with
  |.int i,aw ms=>aw (i::ms)
  |_,_=>aD
abbrev eqT(x y:D):Option Bool:=match x,y with
 | .tup xs,.tup ys=>(match bK xs,bK ys with
  |some a,aw b=>aw (decide (a=b))
  | _,_=>aD)
 |x,y=>eqB x y
abbrev eqD(_:Nat)(S:Sto)(x y:D):Option Bool:=match x,y with
 |.tup xs,.tup ys=>eqL eqB xs ys
 |.ref a,.ref b=>match aQ S a,aQ S b with
  |some xs,aw ys=>if a=b then aw aN else if xs.length=ys.length then eqL eqT xs ys else aw aS
  |_,_=>aD
 |x,y=>eqB x y
section
variable {X:Cx} {K:Vp} {m:List Addr} {H:Hp} {S:Sto}
def sv{f:D->D->Option Bool}:∀ {xs Y:List D} {b:Bool},eqL f xs Y=aw b->∃g:Nat->Bool,(∀j x y,xs[j]?=aw x->Y[j]?=aw y->f x y=aw (g j))/\b=((Zg (min xs.length Y.length)).all g && (xs.length == Y.length))
 |[],[],b,h=>by simp[eqL] at h;exact⟨λ_=>aN,λj x y e=>by simp at e,by simp[<-h]⟩
 |[],_::_,b,h=>by simp[eqL] at h;exact⟨λ_=>aN,λj x y e=>by simp at e,by simp[<-h]⟩
 |_::_,[],b,h=>by simp[eqL] at h;exact⟨λ_=>aN,λj x y _ e=>by simp at e,by simp[<-h]⟩
 |x::xs,y::Y,b,h=>by
  rw[eqL] at h;split at h
  ·rename_i a c z B;cases h;obtain⟨g,l,u⟩:=sv B;refine⟨λj=>match j with |0=>a |j+1=>g j,λj q v d k=>?_,?_⟩
   ·cases j with
    |zero=>cases d;cases k;exact z
    |succ j=>exact l j q v d k
   ·rw[u];simp only[Zo,Nat.succ_min_succ,List.range_succ_eq_map,Yn,YQ];rw[Bool.and_assoc,show(xs.length+1 == Y.length+1)=(xs.length == Y.length) by simp];rfl
  ·cases h
def pX{k:List V}{its:List Value}{xs:List D}(p:VDs K m H xs k)(r:aM k its){j:Nat}(l:j < its.toArray.size):∃x v,xs[j]?=aw x/\VD K m H x v/\aB v its.toArray[j]:=by
 have b:j < its.length:=by simpa using l
 have l1:=p.length;have L:=r.length;obtain⟨v,y,vd⟩:=p.get (i:=j) (d:=xs[j]'(by lia)) (gEG _);obtain⟨u,c,q⟩:=r.get y;rw[gEG b] at c;cases c;exact⟨_,v,gEG (by lia),vd,q⟩
def uX{A:Around}{s:Shared}{x y:D}{v w:V}{u U:Value}{b:Bool}(c:VD K m H x v)(d:VD K m H y w)(r1:aB v u)(r2:aB w U)(h:eqB x y=aw b):Vi A s u U b/\SeqAt.RcAt A s u U b/\Vj A s u U (!b):=by
 unfold eqB at h;split at h
 ·cases h;cases c.nons;cases d.nons;cases r1;cases r2;exact⟨.same _,.none_none,.none_none⟩
 ·cases h;cases c.bls;cases d.bls;cases r1;cases r2;exact⟨.bool_bool _ _,.bool_bool _ _,.bool_bool _ _⟩
 ·cases h;cases c.ints;cases d.ints;obtain⟨t,rfl⟩:=r1;obtain⟨T,rfl⟩:=r2;exact⟨.int_int _ _ _ _,.int_int _ _ _ _,.int_int _ _ _ _⟩
 ·cases h;cases c.strs;cases d.strs;obtain⟨t,rfl⟩:=r1;obtain⟨T,rfl⟩:=r2;exact⟨.str_str _ _ _ _,.str_str _ _ _ _,.str_str _ _ _ _⟩
 ·cases h;cases c.bls;cases d.ints;cases r1;obtain⟨T,rfl⟩:=r2;exact⟨.bool_int _ _ _,.bool_int _ _ _,.bool_int _ _ _⟩
 ·cases h;cases c.ints;cases d.bls;obtain⟨t,rfl⟩:=r1;cases r2;exact⟨.int_bool _ _ _,.int_bool _ _ _,.int_bool _ _ _⟩
 ·cases h;cases c.nons;cases d.ints;cases r1;obtain⟨T,rfl⟩:=r2;exact⟨.none_int _ _,.none_int _ _,.none_int _ _⟩
 ·cases h
def sB{f:D->D->Option Bool}{s:Shared}{A:Around}{xs Y:List D}{C B:List V}{d I:List Value}{b:Bool}(p:VDs K m H xs C)(q:VDs K m H Y B)(r1:aM C d)(r2:aM B I)(h:eqL f xs Y=aw b)(T:∀ {x y:D} {v w:V} {u U:Value} {c:Bool},VD K m H x v->VD K m H y w->aB v u->aB w U->f x y=aw c->Vi A.in1 s u U c):∃g:Nat->Bool,(∀j (z:j < d.toArray.size) (J:j < I.toArray.size),Vi A.in1 s d.toArray[j] I.toArray[j] (g j))/\b=((Zg (min d.toArray.size I.toArray.size)).all g && (d.toArray.size == I.toArray.size)):=by
 obtain⟨g,Z,hb⟩:=sv h;refine⟨g,λj z J=>?_,by rw[hb,Zk,Zk,<-r1.length,<-p.length,<-r2.length,<-q.length]⟩;obtain⟨x,v,O,L,k⟩:=pX p r1 z;obtain⟨y,w,Q,v2,l⟩:=pX q r2 J;exact T L v2 k l (Z j x y O Q)
def bc:∀ {ns:List Int} {u:List Value},aM (ns.map V.int) u->IntsAre u ns
 |[],_,h=>by cases h;exact .nil
 |n::ns,_,h=>by
  cases h with
  |cons r1 r2=>obtain⟨t,rfl⟩:=r1;exact .cons n t (bc r2)
def ci:∀ {b:List D} {ns:List Int},bK b=aw ns->b=ns.map D.int
 |[],_,e=>by cases e;rfl
 |d::b,ns,e=>by
  simp only[bK] at e;split at e
  ·rename_i i j c;cases e;rw[ci c];rfl
  ·cases e
def bA:∀ {ns:List Int} {b:List V},VDs K m H (ns.map D.int) b->b=ns.map V.int
 |[],_,h=>by rw[Z7,VDs] at h;exact h
 |n::ns,_,h=>by
  rw[Zz,VDs] at h;obtain⟨v,r,rfl,c,d⟩:=h;rw[c.ints,bA d];rfl
def jp:∀ (ns:List Int),VDs K m H (ns.map D.int) (ns.map V.int)
 |[]=>by rw[Z7,Z7,VDs]
 |n::ns=>by rw[Zz,Zz,VDs];exact⟨_,_,rfl,bp,jp ns⟩
def kG{b:List Value}{ns:List Int}(h:IntsAre b ns):∀ (j:Nat) v,b[j]?=aw v->∃n t,ns[j]?=aw n/\v = .int n t:=by
 induction h with
 |nil=>intro j v e;simp at e
 |cons a t _ I=>
  intro j v e;cases j with
  |zero=>cases e;exact⟨a,t,rfl,rfl⟩
  |succ j=>exact I j v (by simpa using e)
def jq{A:Around}{s:Shared}{p q:Addr}{xs y:Array Value}{ns ms:List Int}(Z:A.units < cLine)(J:s.heap.IsTuple p xs)(O:s.heap.IsTuple q y)(k:IntsAre xs.toList ns)(I:IntsAre y.toList ms):∃e,Vi A s (.ref p) (.ref q) e/\(e=aN ↔ ns=ms):=by
 by_cases e:p=q
 ·subst e;obtain⟨o,T,_,n,hd⟩:=J;obtain⟨o',d,_,n',c⟩:=O;rw[T] at d;cases d;rw[hd] at c;cases c
  have en:ns=ms:=by
   have l1:=k.length;have L:=I.length;refine Ys λj=>?_;cases z:xs.toList[j]? with
   |none=>
    have:=Ye.mp z;rw[Zr (by lia),Zr (by lia)]
   |some v=>
    obtain⟨a,t,l,rfl⟩:=kG k j v z;obtain⟨b,t',C,B⟩:=kG I j _ z;cases B;rw[l,C]
  exact⟨aN,.same _,by simp[en]⟩
 ·refine⟨_,.of_refs e (SeqAt.RcAt.tuples (e:=λj=>decide (ns[j]?=ms[j]?)) J O Z λj U Y=>?_),?_⟩
  ·obtain⟨a,t,l,B⟩:=kG k j xs[j] (by simp[U]);obtain⟨b,u,C,Q⟩:=kG I j y[j] (by simp[Y]);rw[l,C,B,Q,show decide (aw a=aw b)=(a == b) by simp[Xe]];exact .int_int a t b u
  ·have l1:ns.length=xs.size:=by rw[<-k.length];exact Zt
   have L:ms.length=y.size:=by rw[<-I.length];exact Zt
   rw[<-l1,<-L,uB,decide_eq_true_eq]
def uY{A:Around}{d:List (Addr × Obj)}{C:L2.St}{s:Shared}(I:Inv X d C H s)(hu:A.units < cLine){x y:D}{v w:V}{u U:Value}{b:Bool}(k:VD X.K m H x v)(l:VD X.K m H y w)(r1:aB v u)(r2:aB w U)(h:eqT x y=aw b):Vi A s u U b:=by
 unfold eqT at h;split at h
 ·split at h
  ·rename_i a c B Q;cases h;have:=ci B;subst this;have:=ci Q;subst this;obtain⟨p,vs,rfl,L,z⟩:=k.tups;obtain⟨q,ws,rfl,j,Z⟩:=l.tups;have:=bA z;subst this;have:=bA Z;subst this;cases r1;cases r2;obtain⟨i1,O,J,_⟩:=I.tuple (.of L);obtain⟨i2,Y,T,_⟩:=I.tuple (.of j);obtain⟨e,he,hi⟩:=jq (A:=A) (s:=s) hu J T (by simpa using bc O) (by simpa using bc Y);have:e=decide (a=c):=by rw[Yh];simpa using hi
   rw[<-this];exact he
  ·cases h
 ·exact(uX k l r1 r2 h).1
def Pz{A:Around}{U:List (Addr × Obj)}{σ:L2.St}{s:Shared}{x y:D}{v w:V}{u u':Value}{b:Bool}(I:Inv X U σ H s)(R:Rel X.K m S H)(n:Nat)(L:VD X.K m H x v)(Z:VD X.K m H y w)(r1:aB v u)(r2:aB w u')(h:eqD n S x y=aw b)(hu:A.units+1 < cLine) :
  SeqAt.RcAt A s u u' b/\Vj A s u u' (!b):=by
 have d:A.units < cLine:=by lia
 unfold eqD at h;split at h
 ·obtain⟨a,vs,rfl,sq,p⟩:=L.tups;obtain⟨a',ws,rfl,C,q⟩:=Z.tups;cases r1;cases r2;obtain⟨Y,k1,T,_⟩:=I.tuple (.of sq);obtain⟨i2,k2,B,_⟩:=I.tuple (.of C);obtain⟨g,Q,rfl⟩:=sB (s:=s) (A:=A) p q k1 k2 h λv1 v2 u1 u2 e=>(uX v1 v2 u1 u2 e).1;exact⟨SeqAt.RcAt.tuples T B d Q,PySem.SeqAt.RcNeAt.tuples T B d Q⟩
 ·rename_i k k';obtain⟨c,hc,rfl⟩:=L.refs;obtain⟨c',O,rfl⟩:=Z.refs;cases r1;cases r2;split at h
  ·rename_i es es' hs hs';obtain⟨b1,vs,hb,sq,p⟩:=R.seq hs;rw[hb] at hc;cases hc;obtain⟨b2,ws,J,C,q⟩:=R.seq hs';rw[J] at O;cases O;obtain⟨Y,k1,T,_⟩:=I.list sq;obtain⟨i2,k2,B,_⟩:=I.list C;split at h
   ·rename_i hk;subst hk;rw[hb] at J;cases J;cases h;have z:=SeqAt.RcAt.lists (A:=A) (e:=λ_=>aN) T.isList T.isList rfl d λj L Z=>SeqAt.EqAt.same _;have z':=PySem.SeqAt.RcNeAt.lists (A:=A) (e:=λ_=>aN) T.isList T.isList rfl d λj L Z=>SeqAt.EqAt.same _;rw[show(Zg Y.toArray.size).all (λ_=>aN)=aN by simp] at z z';exact⟨z,z'⟩
   ·have l1:Y.toArray.size=es.length:=by rw[Zk,<-k1.length,<-p.length]
    have l2:i2.toArray.size=es'.length:=by rw[Zk,<-k2.length,<-q.length]
    split at h
    ·rename_i hl;obtain⟨g,Q,rfl⟩:=sB (s:=s) (A:=A) p q k1 k2 h λv1 v2 u1 u2 e=>uY I (by show A.units+1 < cLine;lia) v1 v2 u1 u2 e;have l:Y.toArray.size=i2.toArray.size:=by rw[l1,l2,hl]
     rw[<-l,WC,beq_self_eq_true,Ww];exact⟨SeqAt.RcAt.lists T.isList B.isList l d Q,PySem.SeqAt.RcNeAt.lists T.isList B.isList l d Q⟩
    ·rename_i hl;cases h;have l:(Y.toArray.size != i2.toArray.size)=aN:=by rw[l1,l2];simpa using hl
     exact⟨SeqAt.RcAt.lists_lengths T.isList B.isList l d,PySem.SeqAt.RcNeAt.lists_lengths T.isList B.isList l d⟩
  ·cases h
 ·exact(uX L Z r1 r2 h).2
abbrev eqS(x y:D)(S:Sto):Option (D × Sto):=(eqD 60 S x y).map λb=>(.bl b,S)
abbrev neS(x y:D)(S:Sto):Option (D × Sto):=(eqD 60 S x y).map λb=>(.bl (!b),S)
def wR{x y:D}{b:Bool}(h:eqD 60 S x y=aw b):neS x y S=aw (.bl (!b),S):=by unfold neS;rw[h];rfl
def KN(O:X.A.units+64 < cLine):OpR X (V1 .Eq) (rS X.K eqS):=by
 intro j s L H x y v u Q I B C h;obtain⟨m,S,a,b,d,J,R,l,k,e,q⟩:=h;obtain⟨c,z,e⟩:=ZD.mp e;cases e;exact(Pz I R 60 l k B C z (by lia)).1 _ _ _ _ ⟨.bl c,H,I,rfl,q m H _ (Aft.refl R) bJ⟩
def KO(O:X.A.units+64 < cLine):OpR X (V1 .NotEq) (rS X.K neS):=by
 intro j s L H x y v u Q I B C h;obtain⟨m,S,a,b,d,J,R,l,k,e,q⟩:=h;obtain⟨c,z,e⟩:=ZD.mp e;cases e;exact(Pz I R 60 l k B C z (by lia)).2 _ _ _ _ ⟨.bl (!c),H,I,rfl,q m H _ (Aft.refl R) bJ⟩
end
abbrev eC:List D->Option (List Key)
 |[]=>aw []
 |.int i::ds=>(eC ds).map (.inl i::·)
 |.str x::ds=>(eC ds).map (.inr x::·)
 |_=>aD
abbrev Be:D->Option NK
 |.non=>aw .non
 |.int i=>aw (.one (.inl i))
 |.str x=>aw (.one (.inr x))
 |.tup ds=>(eC ds).map .tup
 |_=>aD
abbrev oh:List D->Option (List NK)
 |[]=>aw []
 |d::ds=>match Be d,oh ds with
  |some k,aw ks=>aw (k::ks)
  |_,_=>aD
abbrev nu:D->Option (List NK)
 |.tup ds=>oh ds
 |_=>aD
abbrev atD:List (List NK)->List D->List NK->Option D
 |a::kss,d::ds,k=>if a=k then aw d else atD kss ds k
 |_,_,_=>aD
abbrev fN(k:List NK)(v:D):List (List NK)->List D->List D
 |a::kss,d::ds=>(if a=k then v else d)::fN k v kss ds
 |_,_=>[]
section
variable {K:Vp} {m:List Addr} {H:Hp} {S:Sto}
def lP:∀ {d:List D} {ks:List Key} {b:List V},eC d=aw ks->VDs K m H d b->b=ks.map kV
 |[],_,_,e,h=>by cases e;rw[VDs] at h;exact h
 |.int i::d,ks,b,e,h=>by
  simp only[eC] at e;obtain⟨l,c,rfl⟩:=ZD.mp e;rw[VDs] at h;obtain⟨v,r,rfl,k,j⟩:=h;rw[k.ints,lP c j];rfl
 |.str x::d,ks,b,e,h=>by
  simp only[eC] at e;obtain⟨l,c,rfl⟩:=ZD.mp e;rw[VDs] at h;obtain⟨v,r,rfl,k,j⟩:=h;rw[k.strs,lP c j];rfl
 |.non::_,_,_,e,_=>by simp[eC] at e
 |.bl _::_,_,_,e,_=>by simp[eC] at e
 |.tup _::_,_,_,e,_=>by simp[eC] at e
 |.ref _::_,_,_,e,_=>by simp[eC] at e
def Ff{d:D}{k:NK}{v:V}(e:Be d=aw k)(h:VD K m H d v):yA H k v:=by
 cases d with
 |non=>cases e;exact h.nons
 |int i=>cases e;exact h.ints
 |str x=>cases e;exact h.strs
 |tup j=>
  simp only[Be] at e;obtain⟨ks,b,rfl⟩:=ZD.mp e;obtain⟨a,l,rfl,c,q⟩:=h.tups;exact⟨a,rfl,by rw[<-lP b q];exact c⟩
 |_=>cases e
def sC:∀ {b:List D} {ks:List NK} {c:List V},oh b=aw ks->VDs K m H b c->Paired (yA H) ks c
 |[],_,_,e,h=>by cases e;rw[VDs] at h;subst h;exact .nil
 |d::b,ks,c,e,h=>by
  rw[VDs] at h;obtain⟨v,r,rfl,y,q⟩:=h;simp only[oh] at e;split at e
  ·rename_i k l j u;cases e;exact .cons (Ff j y) (sC u q)
  ·cases e
def xh{d:D}{ks:List NK}{v:V}(e:nu d=aw ks)(h:VD K m H d v):∃a,v = .ref a/\pF H ks a:=by
 cases d with
 |tup j=>
  obtain⟨a,c,rfl,b,q⟩:=h.tups;exact⟨a,rfl,c,b,sC e q⟩
 |_=>cases e
def Rel.dic(R:Rel K m S H){n:Nat}{k:List (List NK)}{d:List D}{x:V}(j:S[n]?=aw (.dic k d))(v:VD K m H (.ref n) x):∃a vs,x = .ref a/\m[n]?=aw a/\H a=aw (.dT (k.zip vs))/\k.length=d.length/\VDs K m H d vs:=by
 obtain⟨a,c,vs,q,u,l⟩:=R.ob n _ j;obtain⟨y,b,rfl⟩:=v.refs;rw[c] at b;cases b;exact⟨a,vs,rfl,c,q,u,l⟩
def Rel.dicR(R:Rel K m S H){n:Nat}{k:List (List NK)}{d:List D}{x:V}(hn:S[n]?=aw (.dic k d)\/S[n]?=aw (.dfz k d))(v:VD K m H (.ref n) x):∃a vs,x = .ref a/\m[n]?=aw a/\Rd H a (.dT (k.zip vs))/\k.length=d.length/\VDs K m H d vs:=by
 rcases hn with hn |hn
 ·obtain⟨a,vs,j,q,l,y⟩:=R.dic hn v;exact⟨a,vs,j,q,.inl l,y⟩
 ·obtain⟨a,c,o,vs,z,B,u⟩:=R.ob n _ hn;obtain⟨C,b,rfl⟩:=v.refs;rw[c] at b;cases b;exact⟨a,vs,rfl,c,.inr ⟨o,z⟩,B.1,u⟩
def pY:∀ {b:List (List NK)} {c:List D} {j:List V} {k:List NK},b.length=c.length->VDs K m H c j->atD b c k=aD->jk (b.zip j) k=aD/\k ∉ b
 |[],_,_,_,_,_,_=>⟨rfl,by simp⟩
 |a::b,d::c,j,k,hl,h,e=>by
  rw[VDs] at h;obtain⟨v,r,rfl,u,l⟩:=h;simp only[atD] at e;split at e
  ·cases e
  ·rename_i ne;obtain⟨q,I⟩:=pY (by simpa using hl) l e;refine⟨?_,λz=>(Zn.mp z).elim (λz=>ne z.symm) I⟩;rw[Yj,fM ne];exact q
 |_::_,[],_,_,hl,_,_=>by simp at hl
def kH:∀ {b:List (List NK)} {c:List D} {j:List V} {k:List NK} {d:D},VDs K m H c j->atD b c k=aw d->∃v,jk (b.zip j) k=aw v/\VD K m H d v
 |[],_,_,_,_,_,e=>by simp[atD] at e
 |a::b,d::c,j,k,d',h,e=>by
  rw[VDs] at h;obtain⟨v,r,rfl,q,l⟩:=h;simp only[atD] at e;rw[Yj];split at e
  ·rename_i eq;cases e;exact⟨v,iH eq,q⟩
  ·rename_i ne;rw[fM ne];exact kH l e
 |_::_,[],_,_,_,_,e=>by simp[atD] at e
abbrev inK(neg:Bool)(x y:D)(S:Sto):Option (D × Sto):=match nu x,y with
 | some k,.ref n=>(match S[n]? with
  |some (.dic kss ds)=>aw (.bl (neg != (atD kss ds k).isSome),S)
  | _=>aD)
 |_,_=>aD
def sD{neg:Bool}{x y d:D}{j:Sto}(e:inK neg x y S=aw (d,j)):∃k n b c,nu x=aw k/\y = .ref n/\S[n]?=aw (.dic b c)/\d = .bl (neg != (atD b c k).isSome)/\j=S:=by
 unfold inK at e;split at e
 ·rename_i k n q;split at e
  ·rename_i b c l;cases e;exact⟨k,n,b,c,q,rfl,l,rfl,rfl⟩
  ·cases e
 ·cases e
def pZ(R:Rel K m S H){n:Nat}{c:List (List NK)}{l:List D}{x y:D}{k:List NK}{u v:V}(Q:nu x=aw k)(O:S[n]?=aw (.dic c l)\/S[n]?=aw (.dfz c l))(z:VD K m H x u)(L:VD K m H (.ref n) v):∃a b,v = .ref a/\u = .ref b/\∃o,AX H a (.ref b) o/\o.isSome=(atD c l k).isSome/\∀d,atD c l k=aw d->∃w,o=aw w/\VD K m H d w:=by
 obtain⟨b,rfl,B⟩:=xh Q z;obtain⟨a,T,rfl,_,C,J,j⟩:=R.dicR O L;refine⟨a,b,rfl,rfl,jk (c.zip T) k,.inr ⟨_,k,b,C,rfl,B,rfl⟩,?_,λd e=>?_⟩
 ·cases e:atD c l k with
  |none=>rw[(pY J j e).1];rfl
  |some d=>obtain⟨w,q,_⟩:=kH j e;rw[q];rfl
 ·obtain⟨w,q,I⟩:=kH j e;exact⟨w,q,I⟩
abbrev ixK(d y:D)(S:Sto):Option (D × Sto):=match nu y,d with
 | some k,.ref n=>(match S[n]? with
  |some (.dic kss ds)=>(atD kss ds k).map λv=>(v,S)
  |some (.dfz kss ds)=>(atD kss ds k).map λv=>(v,S)
  | _=>aD)
 |_,_=>aD
def Bf{x y d:D}{u:Sto}(e:ixK x y S=aw (d,u)):∃k n b c,nu y=aw k/\x = .ref n/\(S[n]?=aw (.dic b c)\/S[n]?=aw (.dfz b c))/\atD b c k=aw d/\u=S:=by
 unfold ixK at e;split at e
 ·rename_i k n z;split at e
  ·rename_i b c l;obtain⟨v,j,q⟩:=ZD.mp e;cases q;exact⟨k,n,b,c,z,rfl,.inl l,j,rfl⟩
  ·rename_i b c l;obtain⟨v,j,q⟩:=ZD.mp e;cases q;exact⟨k,n,b,c,z,rfl,.inr l,j,rfl⟩
  ·cases e
 ·cases e
abbrev Bg(o y v:D)(S:Sto):Option Sto:=match nu y,o with
 | some k,.ref n=>(match S[n]? with
  |some (.dic kss ds)=>if kss.length < 100000 then aw (if (atD kss ds k).isSome=aN then S.set n (.dic kss (fN k v kss ds)) else S.set n (.dic (kss++[k]) (ds++[v]))) else aD
  | _=>aD)
 |_,_=>aD
def yX{o y v:D}{c:Sto}(e:Bg o y v S=aw c):∃k n b d,nu y=aw k/\o = .ref n/\S[n]?=aw (.dic b d)/\b.length < 100000/\c=if (atD b d k).isSome=aN then S.set n (.dic b (fN k v b d)) else S.set n (.dic (b++[k]) (d++[v])):=by
 unfold Bg at e;split at e
 ·rename_i k n q;split at e
  ·rename_i b d l;split at e
   ·rename_i j;exact⟨k,n,b,d,q,rfl,l,j,(Option.some.inj e).symm⟩
   ·cases e
  ·cases e
 ·cases e
def Bh{k:List NK}{v:D}{w:V}(y:VD K m H v w):∀ {b:List (List NK)} {j:List D} {l:List V},b.length=j.length->VDs K m H j l->∃c,(b.zip l).map (λq=>if q.1=k then (q.1,w) else q)=b.zip c/\VDs K m H (fN k v b j) c
 |[],[],l,_,h=>⟨[],by simp,by simp only[fN];rw[VDs]⟩
 |[],_::_,_,hl,_=>by simp at hl
 |_::_,[],_,hl,_=>by simp at hl
 |a::b,d::j,l,hl,h=>by
  rw[VDs] at h;obtain⟨u,r,rfl,I,C⟩:=h;obtain⟨c,B,z⟩:=Bh y (by simpa using hl) C;rw[Yj,Zz,B];simp only[fN];by_cases e:a=k
  ·rw[if_pos e,if_pos e];exact⟨w::c,by rw[Yj],.cons y z⟩
  ·rw[if_neg e,if_neg e];exact⟨u::c,by rw[Yj],.cons I z⟩
def p0{k:List NK}{v:D}:∀ {b:List (List NK)} {c:List D},b.length=c.length->b.length=(fN k v b c).length
 |[],[],_=>rfl
 |[],_::_,hl=>by simp at hl
 |_::_,[],hl=>by simp at hl
 |a::b,d::c,hl=>by simp only[fN,Zo];rw[p0 (by simpa using hl)]
def Rel.writeD(R:Rel K m S H){i:Nat}{a:Addr}{k:List (List NK)}{C:List D}{v:List V}(hi:m[i]?=aw a)(hl:k.length=C.length)(q:VDs K m H C v):Aft K m H (S.set i (.dic k C)) m (upd H a (.dT (k.zip v))):=by
 have J:a ∈ m:=Zc hi;have x:Ext m H m (upd H a (.dT (k.zip v))):=⟨Yk m,λb u e n=>by rw[ac (show b ≠ a fromλz=>n (by rw[z];exact J))];exact e,λb z n=>absurd z n⟩;refine⟨x,by simp[R.len],R.nd,λj o e=>?_⟩;rw[Yv] at e;by_cases B:i=j
 ·subst B;rw[if_pos rfl] at e;split at e
  ·have O:=Option.some.inj e;subst O;exact⟨a,hi,v,az,hl,VDs.mono R x q⟩
  ·cases e
 ·rw[if_neg B] at e;obtain⟨b,hb,r⟩:=R.ob j o e
  have ne:b ≠ a:=λz=>by
   subst z;have U:=Zb.mp hi;have Y:=Zb.mp hb;exact B ((YO R.nd).mp (U.2.trans Y.2.symm))
  refine⟨b,hb,?_⟩;cases o with
  |lst d=>obtain⟨c,p,q⟩:=r;exact⟨c,by rw[ac ne];exact p,VDs.mono R x q⟩
  |frz d=>obtain⟨o,c,p,q⟩:=r;exact⟨o,c,by rw[ac ne];exact p,VDs.mono R x q⟩
  |dic ks d=>obtain⟨c,p,l,q⟩:=r;exact⟨c,by rw[ac ne];exact p,l,VDs.mono R x q⟩
  |tbl T p q=>
   obtain⟨e,ps,z⟩:=r;refine⟨e,ps,by rw[ac ne];exact z.at_,z.tr,λZ X=>?_⟩;obtain⟨I,Q,L⟩:=z.cd Z X;exact⟨I,Q,by rw[ac (show I ≠ a fromλy=>R.notCd L (y.symm ▸ J))];exact L⟩
  |dfz ks d=>obtain⟨o,c,p,l,q⟩:=r;exact⟨o,c,by rw[ac ne];exact p,l,VDs.mono R x q⟩
def Fg(R:Rel K m S H){n:Nat}{j:List (List NK)}{q:List D}{y v:D}{k:List NK}{u o w:V}(T:nu y=aw k)(hn:S[n]?=aw (.dic j q))(h5:j.length < 100000)(vy:VD K m H y u)(Z:VD K m H (.ref n) o)(J:VD K m H v w) :
  ∃a b H',o = .ref a/\u = .ref b/\Px H a (.ref b) w H'/\Aft K m H (if (atD j q k).isSome=aN then S.set n (.dic j (fN k v j q)) else S.set n (.dic (j++[k]) (q++[v]))) m H':=by
 obtain⟨b,rfl,O⟩:=xh T vy;obtain⟨a,B,rfl,I,hH,z,l⟩:=R.dic hn Z;have C:j.length=B.length:=by rw[z,l.length]
 have X:(j.zip B).length < sizeLine:=by rw[List.length_zip,Ut];lia
 refine⟨a,b,_,rfl,rfl,.inr ⟨_,k,b,hH,rfl,O,X,rfl⟩,?_⟩
 have any:((j.zip B).any λY=>decide (Y.1=k))=(atD j q k).isSome:=by
  rw[lx];cases e:atD j q k with
  |none=>rw[(pY z l e).1];rfl
  |some d=>obtain⟨w,L,_⟩:=kH l e;rw[L];rfl
 unfold lu;rw[any];by_cases c:(atD j q k).isSome=aN
 ·rw[if_pos c,if_pos c];obtain⟨ws,Q,U⟩:=Bh J z l;rw[Q];exact R.writeD I (p0 z) U
 ·rw[if_neg c,if_neg c];have e:j.zip B++[(k,w)]=(j++[k]).zip (B++[w]):=by rw[List.zip_append C];rfl
  rw[e];exact R.writeD I (by rw[Zf,Zf,z];rfl) (l.append (.cons J .nil))
end
abbrev KP(a b:Nat)(S:Sto):Option (D × Sto):=match S[a]? with
 | some (.lst xs)=>(match S[b]? with
  |some (.lst ys)=>if xs.length+ys.length<=100000 then aw (.ref S.length,S++[.lst (xs++ys)]) else aD
  | _=>aD)
 |_=>aD
abbrev kD:D->D->Sto->Option (D × Sto)
 |.int i,.int j,S=>aw (.int (i+j),S)
 |.tup xs,.tup ys,S=>if xs.length+ys.length<=1000 then aw (.tup (xs++ys),S) else aD
 |.ref a,.ref b,S=>KP a b S
 |.str x,.str y,S=>if x.length+y.length<=100000 then aw (.str (x++y),S) else aD
 |_,_,_=>aD
abbrev PB:D->D->Sto->Option (D × Sto)
 |.int i,.int j,S=>aw (.int (i - j),S)
 |_,_,_=>aD
abbrev gP(i j:Int):Bool:=(decide (-(2 ^ 64) < i) && decide (i < 2 ^ 64)) || (decide (-(2 ^ 64) < j) && decide (j < 2 ^ 64))
abbrev yY:D->D->Sto->Option (D × Sto)
 |.int i,.int j,S=>if gP i j=aN then aw (.int (i * j),S) else aD
 |_,_,_=>aD
abbrev KQ:D->D->Sto->Option (D × Sto)
 |.int i,.int j,S=>if 0 < j then aw (.int (i % j),S) else aD
 |_,_,_=>aD
abbrev Bi:D->D->Sto->Option (D × Sto)
 |.int i,.int j,S=>if 0 < j/\j < 1298074214633706907132624082305024 then aw (.int (i / j),S) else aD
 |_,_,_=>aD
abbrev KR:D->D->Sto->Option (D × Sto)
 |.int i,.int j,S=>if 0<=j/\j<=1000000/\i.natAbs < 2 ^ 64 then aw (.int (i ^ j.toNat),S) else aD
 |_,_,_=>aD
inductive BOp where |add |sub |mul |mod |fdiv |pow
abbrev bL:BOp->D->D->Sto->Option (D × Sto)
 |.add=>kD |.sub=>PB |.mul=>yY |.mod=>KQ |.fdiv=>Bi |.pow=>KR
abbrev BOp.op:BOp->Vh
 |.add=>.Add |.sub=>.Sub |.mul=>.Mult |.mod=>.Mod |.fdiv=>.FloorDiv |.pow=>.Pow
section
variable {X:Cx} {K:Vp} {m:List Addr} {H:Hp} {S:Sto}
def gz{op:Vh}{f:D->D->Sto->Option (D × Sto)}{C:Int->Int->Prop}{g:Int->Int->Int}(u:OpR X (VO op) (rI C λi j=>.int (g i j)))
  (z:∀a b S d k,f a b S=aw (d,k)->∃i j,a = .int i/\b = .int j/\C i j/\d = .int (g i j)/\k=S):OpR X (VO op) (rS X.K f):=by
 refine OpR.imp u λx y H Q h=>?_;obtain⟨m,S,a,b,d,k,R,l,v,e,q⟩:=h;obtain⟨i,j,rfl,rfl,c,rfl,rfl⟩:=z _ _ _ _ _ e;exact⟨i,j,l.ints,v.ints,c,q m H _ (Aft.refl R) bp⟩
def uZ:OpR X (VO .Add) (λx y H Q=>∃m S xs Y,Rel X.K m S H/\VD X.K m H (.tup xs) x/\VD X.K m H (.tup Y) y/\xs.length+Y.length<=1000/\∀l c u,Aft X.K m H S l c->VD X.K l c (.tup (xs++Y)) u->Q u c):=by
 refine OpR.imp E5 λx y H Q h=>?_;obtain⟨m,S,xs,Y,R,d,v,I,q⟩:=h;obtain⟨a,C,rfl,sa,j⟩:=d.tups;obtain⟨b,z,rfl,B,k⟩:=v.tups;have l1:=j.length;have L:=k.length;refine⟨a,b,C,z,rfl,rfl,.of sa,.of B,lK (by lia),λe=>?_,λ_ e=>?_,λ_ _=>iJ R (j.append k) q⟩
 ·subst e;have e:xs=[]:=Z9.mp (by simpa using l1);subst e;exact q m H _ (Aft.refl R) v
 ·subst e;have e:Y=[]:=Z9.mp (by simpa using L);subst e;rw[Z0] at q;exact q m H _ (Aft.refl R) d
def Fh:OpR X (VO .Add) (rS X.K kD):=by
 refine OpR.imp (OpR.or Kh (OpR.or uZ (OpR.or uL Kz))) λx y H Q h=>?_;obtain⟨m,S,a,b,d,S',R,u,v,e,q⟩:=h;cases a with
 |int i=>
  cases b with
  |int j=>cases e;exact .inl ⟨i,j,u.ints,v.ints,q m H _ (Aft.refl R) bp⟩
  |_=>simp[kD] at e
 |tup I=>
  cases b with
  |tup Y=>
   simp only[kD] at e;split at e
   ·rename_i z;cases e;exact .inr (.inl ⟨m,S,I,Y,R,u,v,z,q⟩)
   ·cases e
  |_=>simp[kD] at e
 |str i=>
  cases b with
  |str j=>
   simp only[kD] at e;split at e
   ·rename_i z;cases e;exact .inr (.inr (.inl ⟨i,j,u.strs,v.strs,by rw[Ut];lia,q m H _ (Aft.refl R) uW⟩))
   ·cases e
  |_=>simp[kD] at e
 |ref i=>
  cases b with
  |ref j=>
   simp only[kD,KP] at e;split at e
   ·rename_i I Z;split at e
    ·rename_i Y hy;split at e
     ·rename_i z;cases e;obtain⟨a,vs,J,hH,B⟩:=R.lst Z;obtain⟨c,U,hc,O,C⟩:=R.lst hy;obtain⟨a',k,L⟩:=u.refs;obtain⟨c',l,T⟩:=v.refs;rw[J] at k;cases k;rw[hc] at l;cases l;exact .inr (.inr (.inr ⟨a,c,vs,U,L,T,hH,O,by rw[Ut,<-B.length,<-C.length];lia,pW R (B.append C) q⟩))
     ·cases e
    ·cases e
   ·cases e
  |_=>simp[kD] at e
 |_=>cases b <;> simp[kD] at e
def Fi:OpR X (VO .Mult) (rS X.K yY):=by
 refine OpR.imp Kj λx y H Q h=>?_;obtain⟨m,S,a,b,d,l,R,k,v,e,q⟩:=h;cases a with
 |int i=>
  cases b with
  |int j=>
   simp only[yY] at e;split at e
   ·rename_i c;cases e;simp only[gP,YH,bAE,decide_eq_true_eq] at c;exact⟨i,j,k.ints,v.ints,c,q m H _ (Aft.refl R) bp⟩
   ·cases e
  |_=>simp[yY] at e
 |_=>cases b <;> simp[yY] at e
def Bj:OpR X (VO .FloorDiv) (rI (λ_ j=>0 < j/\j < 1298074214633706907132624082305024) λi j=>.int (i / j)):=opI λi j _ _ _ _ _ b q=>by
 have d:(0:Int) < j:=b.1;have k:j < 1298074214633706907132624082305024:=b.2
 exact floordiv_int (by lia) (by rw[Int.fdiv_eq_ediv_of_nonneg i (by lia)];exact q) (.inl (PyProof.noPylong_of_log2 (by
  have c:j.natAbs ≠ 0:=by lia
  have:j.natAbs.log2 < 110:=(Nat.log2_lt c).mpr (by lia)
  lia)))
def Fj(o:BOp):OpR X (VO o.op) (rS X.K (bL o)):=by
 cases o with
 |add=>exact Fh
 |sub=>
  refine gz (C:=λ_ _=>True) (g:=λi j=>i - j) (OpR.imp Ki λx y H Q ⟨i,j,a,b,_,q⟩=>⟨i,j,a,b,q⟩) λa b S d c e=>?_;cases a <;> cases b <;> simp[bL,PB] at e;exact⟨_,_,rfl,rfl,trivial,e.1.symm,e.2.symm⟩
 |mul=>exact Fi
 |mod=>
  refine gz Kk λa b S d c e=>?_;cases a <;> cases b <;> simp[bL,KQ] at e;rename_i i j;exact⟨i,j,rfl,rfl,e.1,e.2.1.symm,e.2.2.symm⟩
 |fdiv=>
  refine gz Bj λa b S d c e=>?_;cases a <;> cases b <;> simp[bL,Bi] at e;rename_i i j;exact⟨i,j,rfl,rfl,e.1,e.2.1.symm,e.2.2.symm⟩
 |pow=>
  refine gz Kl λa b S d c e=>?_;cases a <;> cases b <;> simp[bL,KR] at e;rename_i i j;exact⟨i,j,rfl,rfl,e.1,e.2.1.symm,e.2.2.symm⟩
abbrev yZ(p:Int->Int->Bool):D->D->Sto->Option (D × Sto)
 |.int i,.int j,S=>aw (.bl (p i j),S)
 |_,_,_=>aD
abbrev Ja:D->Bool
 |.non=>aN
 |_=>aS
abbrev isB(neg:Bool):D->D->Sto->Option (D × Sto)
 |d,.non,S=>aw (.bl (neg != Ja d),S)
 |.bl a,.bl b,S=>aw (.bl (neg != (a == b)),S)
 |_,_,_=>aD
abbrev cL:D->Bool
 |.non=>aN |.bl _=>aN |.int _=>aN |.str _=>aN |_=>aS
abbrev eqF:D->D->Bool
 |.non,.non=>aN
 |.bl a,.bl b=>a == b
 |.bl a,.int b=>(if a then 1 else 0) == b
 |.int a,.bl b=>a == (if b then 1 else 0)
 |.int a,.int b=>a == b
 |.str a,.str b=>a == b
 |_,_=>aS
abbrev inF(x:D)(d:List D):Bool:=d.any λy=>eqF y x
abbrev inD(x:D)(d:List D):Option Bool:=if (d.all λy=>(eqT y x).isSome)=aN then aw (d.any λy=>eqT y x == aw aN) else aD
abbrev inS(neg:Bool)(x y:D)(S:Sto):Option (D × Sto):=match ao y S with
 |some (_,ds)=>if cL x=aN/\ds.all cL=aN then aw (.bl (neg != inF x ds),S) else if neg=aS then (inD x ds).map λb=>(.bl b,S) else aD
 |none=>inK neg x y S
inductive COp where |eq |ne |lt |le |gt |ge |is |isnot |isin |notin
abbrev ak:COp->D->D->Sto->Option (D × Sto)
 |.eq=>eqS |.ne=>neS
 |.lt=>yZ λi j=>decide (i < j) |.le=>yZ λi j=>decide (i<=j) |.gt=>yZ λi j=>decide (j < i) |.ge=>yZ λi j=>decide (j<=i)
 |.is=>isB aS |.isnot=>isB aN |.isin=>inS aS |.notin=>inS aN
abbrev COp.op:COp->CmpOp
 |.eq=>.Eq |.ne=>.NotEq |.lt=>.Lt |.le=>.LtE |.gt=>.Gt |.ge=>.GtE |.is=>.Is |.isnot=>.IsNot |.isin=>.In |.notin=>.NotIn
def eW(k:OpR X (V1 op) (rI0 λi j=>.bl (p i j))):OpR X (V1 op) (rS X.K (yZ p)):=by
 refine OpR.imp k λx y H Q h=>?_;obtain⟨m,S,a,b,d,l,R,c,v,e,q⟩:=h;cases a <;> cases b <;> simp[yZ] at e;obtain⟨rfl,rfl⟩:=e;exact⟨_,_,c.ints,v.ints,q m H _ (Aft.refl R) bJ⟩
def kI(h:VD K m H x v)(f:cL x=aN):dr v=aN:=by
 cases x <;> simp[cL] at f
 ·cases h.nons;rfl
 ·cases h.bls;rfl
 ·cases h.ints;rfl
 ·cases h.strs;rfl
def Bk(h:VD K m H x v)(f:cL x=aN)(h':VD K m H y w)(b:cL y=aN):eqV v w=eqF x y:=by
 cases x <;> simp[cL] at f <;> cases y <;> simp[cL] at b <;> simp[VD] at h h' <;> subst h <;> subst h' <;> rfl
def iL:∀ {b:List D} {v:List V},VDs K m H b v->b.all cL=aN->v.all dr=aN
 |[],v,h,_=>by rw[VDs] at h;rw[h];rfl
 |d::b,v,h,f=>by
  rw[VDs] at h;obtain⟨x,r,rfl,p,q⟩:=h;rw[Yn,bAE] at f;rw[Yn,kI p f.1,iL q f.2];rfl
def ve(h:VD K m H x v)(f:cL x=aN):∀ {b:List D} {c:List V},VDs K m H b c->b.all cL=aN->inV v c=inF x b
 |[],c,h,_=>by rw[VDs] at h;rw[h];rfl
 |d::b,c,h',f'=>by
  rw[VDs] at h';obtain⟨y,r,rfl,p,q⟩:=h';rw[Yn,bAE] at f';have I:=ve h f q f'.2;unfold inV inF at I ⊢;rw[YI,YI,Bk p f'.1 h f,I]
def oi(h:VD K m H x v)(f:cL x=aN):∀ {b:List D} {c:List V},VDs K m H b c->b.all cL=aN->(c.countP λz=>eqV z v)=b.countP λz=>eqF z x
 |[],c,h,_=>by rw[VDs] at h;rw[h];rfl
 |d::b,c,h',f'=>by
  rw[VDs] at h';obtain⟨y,r,rfl,p,q⟩:=h';rw[Yn,bAE] at f';rw[Xf,Xf,Bk p f'.1 h f,oi h f q f'.2]
def jr(h:SqB K T H a vs):SqL K H a vs\/SqT K H a vs:=by
 cases T with
 |false=>exact .inl h
 |true=>exact .inr (.of h)
def Bl(I:Inv X Y σ H s)(R:Rel X.K m S H)(Q:VD X.K m H x v)(T:aB v u)(hu:A.units+58 < cLine)(vd:VDs X.K m H C vs)(r:aM vs its)(h:inD x C=aw b) :
  ∃e:Value->Bool,(∀w ∈ its,Vi A s w u (e w))/\its.any e=b:=by
 unfold inD at h;split at h
 ·rename_i hs;cases h;rw[ZW] at hs
  have at_:∀ (i:Nat) w,its[i]?=aw w->∃y k,C[i]?=aw y/\VD X.K m H y k/\aB k w:=λi w d=>by
   have hi:=(Zb.mp d).1;obtain⟨y,k,l,O,q⟩:=pX vd r (j:=i) (by simpa using hi);refine⟨y,k,l,O,?_⟩
   have:its.toArray[i]=w:=by
    have:=(Zb.mp d).2
    simpa using this
   rw[<-this];exact q
  refine⟨λw=>@decide (∃ (i:Nat) (y:D),C[i]?=aw y/\its[i]?=aw w/\eqT y x=aw aN) (Classical.propDecidable _),λw d=>?_,?_⟩
  ·obtain⟨i,hi⟩:=Z2 d;dsimp only;by_cases B:∃ (i:Nat) (y:D),C[i]?=aw y/\its[i]?=aw w/\eqT y x=aw aN
   ·rw[@decide_eq_true _ (Classical.propDecidable _) B];obtain⟨j,y,l,O,q⟩:=B;obtain⟨y',k,z,L,J⟩:=at_ j w O;rw[l] at z;cases z;exact uY I (by lia) L Q J T q
   ·rw[@decide_eq_false _ (Classical.propDecidable _) B];obtain⟨y,k,z,L,J⟩:=at_ i w hi;obtain⟨c,U⟩:=Yg.mp (hs y (Zc z));cases c with
    |true=>exact absurd ⟨i,y,z,hi,U⟩ B
    |false=>exact uY I (by lia) L Q J T U
  ·rw[Yh,Yz,Yz];constructor
   ·rintro⟨w,_,d⟩;obtain⟨i,y,l,_,q⟩:=@of_decide_eq_true _ (Classical.propDecidable _) d;exact⟨y,Zc l,by rw[q];rfl⟩
   ·rintro⟨y,hy,e⟩;obtain⟨i,hi⟩:=Z2 hy;obtain⟨k,Z,_⟩:=vd.get hi;obtain⟨w,d,_⟩:=r.get Z;exact⟨w,Zc d,@decide_eq_true _ (Classical.propDecidable _) ⟨i,y,hi,d,by simpa using e⟩⟩
 ·cases h
def KS(hu:X.A.units+64 < cLine):OpR X (V1 .In) (rS X.K (inS aS)):=by
 intro z s σ H x y v u Q I C U h;obtain⟨m,S,a,b,d,S',R,B,Y,e,q⟩:=h;unfold inS at e;split at e
 ·rename_i tu ds hi;obtain⟨p,vs,rfl,sq,l⟩:=eB R Y hi;split at e
  ·rename_i J;cases e;refine yL z s σ H x _ v u Q I C U ⟨p,vs,rfl,jr sq,kI B J.1,iL l J.2,q m H _ (Aft.refl R) ?_⟩;rw[if_neg (by decide),ve B J.1 l J.2]
   simpa using bJ
  ·rw[if_pos rfl] at e;cases hd:inD a ds with
   |none=>rw[hd] at e;cases e
   |some c=>
    rw[hd] at e;cases e;cases U;have Z:X.A.in1.units+58 < cLine:=by show X.A.units+1+58 < cLine;lia
    rcases jr sq with hq |hq
    ·obtain⟨j,r,O,hz⟩:=I.list hq;obtain⟨e,T,hb⟩:=Bl I R B C Z l r hd;refine Vk e O.isList (λw L=>T w (by simpa using L)) ⟨.bl _,H,I,rfl,?_⟩;rw[show j.toArray.any e=j.any e by simp,hb];exact q m H _ (Aft.refl R) (by simpa using bJ)
    ·obtain⟨j,r,O,hz⟩:=I.tuple hq;obtain⟨e,T,hb⟩:=Bl I R B C Z l r hd;refine Vl e O (λw L=>T w (by simpa using L)) ⟨.bl _,H,I,rfl,?_⟩;rw[show j.toArray.any e=j.any e by simp,hb];exact q m H _ (Aft.refl R) (by simpa using bJ)
 ·obtain⟨k,n,kss,ds,hk,rfl,hn,rfl,rfl⟩:=sD e;obtain⟨a,b,rfl,rfl,o,g,ho,_⟩:=pZ (y:=.ref n) R hk (.inl hn) B Y;cases U;refine Sq (show X.A.units+2 < cLine by lia) I g C λs' I'=>⟨.bl _,H,I',rfl,?_⟩;rw[ho];exact q m H _ (Aft.refl R) (by simpa using bJ)
def y4(hu:X.A.units+64 < cLine):OpR X (V1 .NotIn) (rS X.K (inS aN)):=by
 intro j s O H x y v u Q I C J h;obtain⟨m,S,a,b,d,S',R,z,B,e,q⟩:=h;unfold inS at e;split at e
 ·rename_i tu ds hi;obtain⟨p,vs,rfl,U,c⟩:=eB R B hi;split at e
  ·rename_i l;cases e;refine pL j s O H x _ v u Q I C J ⟨p,vs,rfl,jr U,kI z l.1,iL c l.2,q m H _ (Aft.refl R) ?_⟩;rw[if_pos rfl,ve z l.1 c l.2]
   simpa using bJ
  ·rw[if_neg (by decide)] at e;cases e
 ·obtain⟨k,n,L,ds,T,rfl,hn,rfl,rfl⟩:=sD e;obtain⟨a,b,rfl,rfl,o,g,Z,_⟩:=pZ (y:=.ref n) R T (.inl hn) z B;cases J;refine E7 (show X.A.units+2 < cLine by lia) I g C λs' Y=>⟨.bl _,H,Y,rfl,?_⟩;rw[Z];exact q m H _ (Aft.refl R) (by simpa using bJ)
def Bm(h:VD K m H d v):decide (v=V.non)=Ja d:=by
 cases d with
 |non=>cases h.nons;rfl
 |bl _=>cases h.bls;rfl
 |int _=>cases h.ints;rfl
 |str _=>cases h.strs;rfl
 |tup _=>obtain⟨_,_,e,_⟩:=h.tups;subst e;rfl
 |ref _=>obtain⟨_,_,e⟩:=h.refs;subst e;rfl
def KU:OpR X (V1 .Is) (rS X.K (isB aS)):=by
 refine OpR.imp (OpR.or Km KC) λx y H Q h=>?_;obtain⟨m,S,a,b,d,k,R,c,v,e,q⟩:=h;cases b with
 |non=>
  simp[isB] at e;obtain⟨rfl,rfl⟩:=e;exact .inl ⟨v.nons,q m H _ (Aft.refl R) (by rw[Bm c];exact bJ)⟩
 |bl j=>
  cases a with
  |bl i=>
   simp[isB] at e;obtain⟨rfl,rfl⟩:=e;exact .inr ⟨i,j,c.bls,v.bls,q m H _ (Aft.refl R) bJ⟩
  |_=>simp[isB] at e
 |_=>cases a <;> simp[isB] at e
def y6:OpR X (V1 .IsNot) (rS X.K (isB aN)):=by
 refine OpR.imp (OpR.or ED yS) λx y H Q h=>?_;obtain⟨m,S,a,b,d,k,R,c,v,e,q⟩:=h;cases b with
 |non=>
  simp[isB] at e;obtain⟨rfl,rfl⟩:=e;exact .inl ⟨v.nons,q m H _ (Aft.refl R) (by rw[Bm c];exact bJ)⟩
 |bl j=>
  cases a with
  |bl i=>
   simp[isB] at e;obtain⟨rfl,rfl⟩:=e;exact .inr ⟨i,j,c.bls,v.bls,q m H _ (Aft.refl R) (by simpa[bne] using bJ)⟩
  |_=>simp[isB] at e
 |_=>cases a <;> simp[isB] at e
def gA(b:X.A.units+64 < cLine)(o:COp):OpR X (V1 o.op) (rS X.K (ak o)):=by
 cases o with
 |eq=>exact KN b
 |ne=>exact KO b
 |lt=>exact eW Ph
 |le=>exact eW Pj
 |gt=>exact eW Pk
 |ge=>exact eW Pl
 |is=>exact KU
 |isnot=>exact y6
 |isin=>exact KS b
 |notin=>exact y4 b
end
section
variable {X:Cx} {K:Vp} {m:List Addr} {H:Hp} {S:Sto}
abbrev ixS(d i:D)(S:Sto):Option (D × Sto):=match i with
 | .int k=>(match d with
  |.str z=>if z.length<=100000 then (atI z.cps.toList k).map λc=>(.str ⟨#[c]⟩,S) else aD
  | d=>(match ao d S with
   |some (_,ds)=>(atI ds k).map λx=>(x,S)
   | none=>aD))
 |i=>ixK d i S
def KW{k:Int}(h:VDs K m H b c)(e:atI b k=aw d):∃v,atI c k=aw v/\VD K m H d v:=by
 unfold atI at e ⊢;rw[<-h.length];cases hi:ixN b.length k with
 |none=>rw[hi] at e;cases e
 |some j=>
  rw[hi] at e;exact h.get e
def Bn{k:Int}(c:SqB K tu H a b)(vd:VDs K m H u b)(e:atI u k=aw d)(q:∀v,VD K m H d v->Q v H):rIx K (.ref a) (.int k) H Q:=by
 obtain⟨v,l,j⟩:=KW vd e;cases tu with
 |false=>exact .inl ⟨a,b,k,v,rfl,rfl,c,l,q v j⟩
 |true=>exact .inr (.inl ⟨a,b,k,v,rfl,rfl,.of c,l,q v j⟩)
def Sr(hu:X.A.units+64 < cLine):IxR X (rS X.K ixS):=by
 intro j l B s σ H x y v u Q I Z ry h hs;obtain⟨m,S,a,b,d,S',R,U,Y,e,q⟩:=h
 have C:ixK a b S=aw (d,S')->wpAny (model X.prog X.w) X.A (subscriptTail j l v u) (EP X B σ Q) X.xe s:=λe=>by
  obtain⟨k,n,kss,ds,hk,rfl,hn,hd,rfl⟩:=Bf e;obtain⟨a',b',rfl,rfl,o,g,ho,hv⟩:=pZ (y:=.ref n) R hk hn Y U;obtain⟨w,rfl,vw⟩:=hv d hd;cases Z;cases ry;exact tail_any (se I g) PySem.F.slot_dict_getitem.lookup (yT (show X.A.units+2 < cLine by lia) I g rfl λw' s' I' O=>⟨w,H,I',O,q m H _ (Aft.refl R) vw⟩) hs
 cases b with
 |int k=>
  refine AM j l B s σ H x y v u Q I Z ry ?_ hs;cases Y.ints
  have main:∀r,ao a S=aw r->(atI r.2 k).map (λx=>(x,S))=aw (d,S')->rIx X.K x (.int k) H Q:=by
   intro r hi e;cases J:atI r.2 k with
   |none=>rw[J] at e;cases e
   |some z=>
    rw[J] at e;cases e;obtain⟨p,vs,rfl,sq,L⟩:=eB (tu:=r.1) (ds:=r.2) R U hi;exact Bn sq L J λv vv=>q m H v (Aft.refl R) vv
  cases a with
  |str z=>
   simp only[ixS] at e;split at e
   ·rename_i hl;cases T:atI z.cps.toList k with
    |none=>rw[T] at e;cases e
    |some c=>
     rw[T] at e;cases e;exact .inr (.inr ⟨z,k,c,U.strs,rfl,by rw[Ut];lia,T,q m H _ (Aft.refl R) uW⟩)
   ·cases e
  |tup ds=>exact main (aN,ds) rfl e
  |ref n=>
   simp only[ixS] at e;cases hi:ao (.ref n) S with
   |none=>rw[hi] at e;cases e
   |some r=>rw[hi] at e;exact main r hi e
  |_=>simp[ixS,ao] at e
 |_=>exact C e
abbrev vf(x:XA)(y:XE):XE:=λb S=>bnd (x b S) λl c=>bnd (y b c) λi j=>match i with
 |.int k=>(atI l k).map λd=>(d,j)
 |_=>aD
def KY(h:tE K (vf x y) T H Q):tOp (rIx K) (fB K x) (tE K y) T H Q:=by
 obtain⟨m,C,S,d,S',E,R,e,q⟩:=h;obtain⟨B,l,J,e⟩:=ab e;obtain⟨i,L,Y,e⟩:=ab e;refine⟨m,C,S,B,l,E,R,J,λm1 H1 a vs b U Z n2 n3 vd=>⟨m1,C,l,i,L,E.mono R b.ext,b.rel,Y,λm2 u w j I=>?_⟩⟩;cases i with
 |int k=>
  cases I.ints;dsimp only at e;cases c:atI B k with
  |none=>rw[c] at e;cases e
  |some z=>
   rw[c] at e;cases e;exact Bn (tu:=false) (show SqL K u a vs from SqL.of (j.ext.keep _ _ U Z)) (vd.mono b.rel j.ext) c λv O=>q m2 u v (b.trans j) O
 |_=>cases e
abbrev jm(d:List D)(lo hi:Option Int):List D:=(d.drop (HT.sIx d.length 0 lo)).take (HT.sIx d.length d.length hi - HT.sIx d.length 0 lo)
def vg(h:VDs K m H d v)(lo hi:Option Int):VDs K m H (jm d lo hi) (lj v lo hi):=by
 unfold jm lj;rw[<-h.length];exact(h.drop _).take _
abbrev slS(lo hi:Option Int)(d:D)(S:Sto):Option (D × Sto):=match d with
 |.tup b=>aw (.tup (jm b lo hi),S)
 | .ref n=>(match aQ S n with
  |some b=>aw (.ref S.length,S++[.lst (jm b lo hi)])
  | none=>aD)
 |_=>aD
abbrev rSl(K:Vp):V->Option Int->Option Int->Hp->VK->Prop:=λv lo hi H Q=>∃m S a d j,Rel K m S H/\VD K m H a v/\slS lo hi a S=aw (d,j)/\∀c b u,Aft K m H j c b->VD K c b d u->Q u b
def vh{vs:List V}{lo hi:Option Int}(h:HT.sIx vs.length 0 lo=0/\HT.sIx vs.length vs.length hi=vs.length):lj vs lo hi=vs:=by
 unfold lj;rw[h.1,h.2];simp
def Ss:SlR X (rSl X.K):=by
 intro c s L H x v B U lo hi sl Q I J hs T O h;refine(SlR.or E6 EN) c s L H x v B U lo hi sl Q I J hs T O ?_;obtain⟨m,S,a,d,Z,R,y,e,q⟩:=h;cases a with
 |tup Y=>
  cases e;obtain⟨p,l,rfl,k,b⟩:=y.tups;refine .inl ⟨p,l,rfl,.of k,λz=>?_,λ_=>iJ R (vg b lo hi) q⟩;have:=vg b lo hi;rw[vh z] at this;exact q m H _ (Aft.refl R) (lH k this)
 |ref n=>
  simp only[slS] at e;cases u:aQ S n with
  |none=>rw[u] at e;cases e
  |some Y=>
   rw[u] at e;cases e;obtain⟨p,l,C,k,b⟩:=R.seq u;obtain⟨p',j,rfl⟩:=y.refs;rw[C] at j;cases j;exact .inr ⟨p,l,rfl,k,pW R (vg b lo hi) q⟩
 |_=>cases e
@[inline]abbrev XO:=Rho->Sto->Option (Option Int × Sto)
abbrev tOI(K:Vp)(x:XO):TO:=λj H Q=>∃m b S o d,EnvR K m H b j/\Rel K m S H/\x b S=aw (o,d)/\∀k c,Aft K m H d k c->Q o c
abbrev vm:XO:=λ_ S=>aw (aD,S)
abbrev vn(x:XE):XO:=λc S=>bnd (x c S) λd b=>match d with
 |.int i=>aw (aw i,b)
 |_=>aD
def Fk(h:tOI K vm b H Q):wZ b H Q:=by
 obtain⟨m,d,S,o,c,E,R,e,q⟩:=h;cases e;exact q m H (Aft.refl R)
def Fm(h:tOI K (vn x) u H Q):IW (tE K x) u H Q:=by
 obtain⟨m,l,S,o,y,E,R,e,q⟩:=h;obtain⟨d,b,k,e⟩:=ab e;refine⟨m,l,S,d,b,E,R,k,λm1 c v j vd=>?_⟩;cases d with
 |int i=>cases e;exact⟨i,vd.ints,q m1 c j⟩
 |_=>cases e
def PO.imp(h:PO X e t)(f:∀c H Q,t' c H Q->t c H Q):PO X e t':=λb s c H Q I q=>h b s c H Q I (f c H Q q)
abbrev xSl(x:XE)(lo hi:XO):XE:=λb S=>bnd (x b S) λd c=>bnd (lo b c) λl k=>bnd (hi b k) λh j=>slS l h d j
def PC{x:XE}{lo hi:XO}{B:L2.St}{H:Hp}{Q:VK}(h:tE K (xSl x lo hi) B H Q):tSl (rSl K) (tE K x) (tOI K lo) (tOI K hi) B H Q:=by
 obtain⟨m,j,S,d,O,E,R,e,q⟩:=h;obtain⟨a,y,I,e⟩:=ab e;obtain⟨l,z,Y,e⟩:=ab e;obtain⟨u,C,U,e⟩:=ab e;refine⟨m,j,S,a,y,E,R,I,λm1 H1 v b vd=>⟨m1,j,y,l,z,E.mono R b.ext,b.rel,Y,λm2 H2 c=>⟨m2,j,z,u,C,E.mono R (b.trans c).ext,c.rel,U,λZ H3 k=>?_⟩⟩⟩;exact⟨Z,C,a,d,O,k.rel,vd.mono b.rel (c.trans k).ext,e,λm4 L w J T=>q m4 L w (((b.trans c).trans k).trans J) T⟩
abbrev lQ(d:D)(S:Sto):Option (Bool × Sto):=match d with
 |.non=>aw (aS,S)
 |.bl b=>aw (b,S)
 |.int i=>aw (i != 0,S)
 |.str y=>if y.length<=100000 then aw ((y.length:Int) != 0,S) else aD
 |.tup c=>aw (!c.isEmpty,S)
 | .ref n=>(match aQ S n with
  |some c=>aw (!c.isEmpty,S)
  | none=>aD)
def lU(h:VDs K m H d v):d.isEmpty=v.isEmpty:=by
 have:=h.length;cases d <;> cases v <;> simp at this ⊢
def KZ(R:Rel K m S H)(vd:VD K m H d v)(e:lQ d S=aw (b,B)):B=S/\EH K v H b:=by
 cases d with
 |non=>cases e;cases vd.nons;exact⟨rfl,rfl⟩
 |bl _=>cases e;cases vd.bls;exact⟨rfl,rfl⟩
 |int _=>cases e;cases vd.ints;exact⟨rfl,rfl⟩
 |str y=>
  simp only[lQ] at e;split at e
  ·rename_i I;cases e;cases vd.strs;exact⟨rfl,by rw[Ut];lia,rfl⟩
  ·cases e
 |tup u=>
  cases e;obtain⟨a,q,rfl,k,c⟩:=vd.tups;exact⟨rfl,.inr (.inl ⟨q,.of k,by rw[lU c]⟩)⟩
 |ref n=>
  simp only[lQ] at e;cases l:aQ S n with
  |none=>rw[l] at e;cases e
  |some u=>
   rw[l] at e;cases e;obtain⟨p,q,z,k,c⟩:=R.seq l;obtain⟨C,j,rfl⟩:=vd.refs;rw[z] at j;cases j;exact⟨rfl,.inl ⟨q,k,by rw[lU c]⟩⟩
abbrev Fn(x:XE):XT:=λc S=>bnd (x c S) λd b=>lQ d b
def K0(h:tT K (Fn x) z H Q):(tE K x) z H λv H'=>∃k,EH K v H' k/\Q k H':=by
 obtain⟨m,y,S,b,B,E,R,e,q⟩:=h;obtain⟨d,j,u,e⟩:=ab e;refine⟨m,y,S,d,j,E,R,u,λm1 l v c vd=>?_⟩;obtain⟨rfl,t⟩:=KZ c.rel vd e;exact⟨b,t,q m1 l c⟩
abbrev xB(x:XE):XT:=λj S=>bnd (x j S) λd c=>match d with
 |.bl b=>aw (b,c)
 |_=>aD
def PD(h:tT K (xB x) z H Q):(tE K x) z H λv H'=>∃k,v = .bl k/\Q k H':=by
 obtain⟨m,y,S,b,B,E,R,e,q⟩:=h;obtain⟨d,c,u,e⟩:=ab e;refine⟨m,y,S,d,c,E,R,u,λm1 j v l vd=>?_⟩;cases d with
 |bl k=>cases e;exact⟨b,vd.bls,q m1 j l⟩
 |_=>cases e
abbrev c9(_:Bool)(d:List D)(S:Sto):Option (D × Sto):=aw (.int d.length,S)
abbrev cM(_:Bool)(d:List D)(S:Sto):Option (D × Sto):=aw (.tup d,S)
abbrev y7:D->Bool
 |.bl _=>aN
 |_=>aS
abbrev nv:D->Bool
 |.bl b=>b
 |_=>aS
abbrev kE(T:Bool)(d:List D)(S:Sto):Option (D × Sto):=if T=aS/\d.all y7=aN then aw (.bl (d.all nv),S) else aD
abbrev ny(T:Bool)(d:List D)(S:Sto):Option (D × Sto):=if T=aS/\d.all y7=aN then aw (.bl (d.any nv),S) else aD
abbrev r1(r:V->Hp->VK->Prop):List V->Hp->VK->Prop
 |[x],H,Q=>r x H Q
 |_,_,_=>False
def cV(h:r1 r xs H Q):∃x,xs=[x]/\r x H Q:=by
 match xs,h with
 |[x],h=>exact⟨x,rfl,h⟩
def y8:aX X (.builtin "len") (r1 (rSq X.K c9)):=by
 refine aX.imp iG λj H Q h=>?_;obtain⟨_,rfl,m,S,T,k,a,v,d,c,R,rfl,b,vd,e,q⟩:=cV h;cases e;exact⟨a,v,rfl,jr b,q m H _ (Aft.refl R) (by rw[vd.length];exact bp)⟩
def y9:aX X (.type "tuple") (r1 (rSq X.K cM)):=by
 refine aX.imp nk λj H Q h=>?_;obtain⟨_,rfl,m,S,T,k,a,v,d,c,R,rfl,b,vd,e,q⟩:=cV h;cases e;cases T with
 |false=>exact⟨a,v,rfl,.inl ⟨b,iJ R vd q⟩⟩
 |true=>exact⟨a,v,rfl,.inr ⟨.of b,q m H _ (Aft.refl R) (lH b vd)⟩⟩
def vq:∀ {c:List D} {v:List V},VDs K m H c v->c.all y7=aN->v=(c.map nv).map V.bl
 |[],v,h,_=>by rw[VDs] at h;rw[h];rfl
 |d::c,v,h,f=>by
  rw[VDs] at h;obtain⟨x,r,rfl,p,q⟩:=h;rw[Yn,bAE] at f;cases d with
  |bl b=>rw[p.bls,vq q f.2];rfl
  |_=>simp[y7] at f
def K1(d:List D):(d.map nv).all id=d.all nv:=by rw[YQ];rfl
def K3(d:List D):(d.map nv).any id=d.any nv:=by rw[XF];rfl
def zd(hc:X.calm=aN):aX X (.builtin "all") (r1 (rSq X.K kE)):=by
 refine aX.imp (yQ hc) λl H Q h=>?_;obtain⟨_,rfl,m,S,T,j,a,v,d,k,R,rfl,c,vd,e,q⟩:=cV h;unfold kE at e;split at e
 ·rename_i b;cases e;obtain⟨rfl,b⟩:=b;refine⟨a,j.map nv,rfl,?_,q m H _ (Aft.refl R) (by rw[K1];exact bJ)⟩;rw[<-vq vd b];exact c
 ·cases e
def ze(hc:X.calm=aN):aX X (.builtin "any") (r1 (rSq X.K ny)):=by
 refine aX.imp (yR hc) λl H Q h=>?_;obtain⟨_,rfl,m,S,T,j,a,v,d,k,R,rfl,c,vd,e,q⟩:=cV h;unfold ny at e;split at e
 ·rename_i b;cases e;obtain⟨rfl,b⟩:=b;refine⟨a,j.map nv,rfl,?_,q m H _ (Aft.refl R) (by rw[K3];exact bJ)⟩;rw[<-vq vd b];exact c
 ·cases e
abbrev rTm(K:Vp)(f:Bool->List D->Option (List D)):V->Hp->VK->Prop:=λv H Q=>∃m S T l a q k,Rel K m S H/\v = .ref a/\SqB K T H a q/\VDs K m H l q/\f T l=aw k ∧
 ∀d c p j,Aft K m H S d c->c p=aw (.lst j)->p ∉ d->(∀b,b ∈ m->b ≠ p)->H p=aD->VDs K d c k j->Q (.ref p) c
def lV:aX X (.type "list") (r1 (rTm X.K λ_ d=>aw d)):=by
 refine aX.imp pM λj H Q h=>?_;obtain⟨_,rfl,m,S,T,d,a,v,c,R,rfl,b,vd,e,q⟩:=cV h;cases e;exact⟨a,v,rfl,jr b,iK R vd q⟩
abbrev Bo:D->D->Sto->Option (D × Sto)
 |.int i,.int j,S=>aw (.int (if j > i then j else i),S)
 |_,_,_=>aD
abbrev Bp:D->D->Sto->Option (D × Sto)
 |.int i,.int j,S=>aw (.int (if j < i then j else i),S)
 |_,_,_=>aD
abbrev two(f:D->D->Sto->Option (D × Sto)):List D->Sto->Option (D × Sto)
 |[a,b],S=>f a b S
 |_,_=>aD
def Bq(h:VDs K m H [a,b] d):∃v w,d=[v,w]/\VD K m H a v/\VD K m H b w:=by
 rw[VDs] at h;obtain⟨v,r,rfl,p,q⟩:=h;rw[VDs] at q;obtain⟨w,j,rfl,c,Q⟩:=q;rw[VDs] at Q;subst Q;exact⟨v,w,rfl,p,c⟩
def Fo(h:VDs K m H [a] b):∃v,b=[v]/\VD K m H a v:=by
 rw[VDs] at h;obtain⟨v,r,rfl,p,q⟩:=h;rw[VDs] at q;subst q;exact⟨v,rfl,p⟩
def sE(h:two f c S=aw r):∃a b,c=[a,b]/\f a b S=aw r:=by
 match c,h with
 |[a,b],h=>exact⟨a,b,rfl,h⟩
def vt(hc:X.calm=aN):aX X (.builtin "max") (rSA X.K (two Bo)):=by
 refine aX.imp (yH hc) λl H Q h=>?_;obtain⟨m,S,u,d,k,R,vd,e,q⟩:=h;obtain⟨a,b,rfl,c⟩:=sE e;obtain⟨v,w,rfl,p,j⟩:=Bq vd;cases a <;> cases b <;> simp[Bo] at c;obtain⟨rfl,rfl⟩:=c;exact⟨_,_,by rw[p.ints,j.ints],q m H _ (Aft.refl R) bp⟩
def vA(hc:X.calm=aN):aX X (.builtin "min") (rSA X.K (two Bp)):=by
 refine aX.imp (yI hc) λl H Q h=>?_;obtain⟨m,S,u,d,k,R,vd,e,q⟩:=h;obtain⟨a,b,rfl,c⟩:=sE e;obtain⟨v,w,rfl,p,j⟩:=Bq vd;cases a <;> cases b <;> simp[Bp] at c;obtain⟨rfl,rfl⟩:=c;exact⟨_,_,by rw[p.ints,j.ints],q m H _ (Aft.refl R) bp⟩
inductive Ty where |int |bool |tuple |list |str
abbrev Ty.nm:Ty->String
 |.int => "int" |.bool => "bool" |.tuple => "tuple" |.list => "list" |.str => "str"
abbrev tyN(d:D)(S:Sto):Option String:=match d with
 |.non=>aw "NoneType" |.bl _=>aw "bool" |.int _=>aw "int" |.str _=>aw "str" |.tup _=>aw "tuple"
 | .ref n=>(match S[n]? with
  |some (.lst _)=>aw "list"
  |some (.frz _)=>aw "list"
  |some (.dic _ _)=>aw "dict"
  |some (.tbl _ _ _)=>aD
  |some (.dfz _ _)=>aD
  | none=>aD)
abbrev fO(t:Ty)(n:String):Bool:=n == t.nm || (match t with |.int=>n == "bool" |_=>aS)
abbrev lW(t:Ty)(d:D)(S:Sto):Option (D × Sto):=(tyN d S).map λn=>(.bl (fO t n),S)
def Fp(K:Vp)(t:Ty):(VA K (.type "NoneType") (.type t.nm)=aw (fO t "NoneType"))/\(VA K (.type "bool") (.type t.nm)=aw (fO t "bool"))/\(VA K (.type "int") (.type t.nm)=aw (fO t "int")) ∧
  (VA K (.type "str") (.type t.nm)=aw (fO t "str"))/\(VA K (.type "tuple") (.type t.nm)=aw (fO t "tuple"))/\(VA K (.type "list") (.type t.nm)=aw (fO t "list"))/\(VA K (.type "dict") (.type t.nm)=aw (fO t "dict")):=by
 cases t <;> exact⟨by kernel_rfl,by kernel_rfl,by kernel_rfl,by kernel_rfl,by kernel_rfl,by kernel_rfl,by kernel_rfl⟩
def PF(R:Rel K m S H)(vd:VD K m H d v)(e:tyN d S=aw n):TyOf K H v (.type n):=by
 cases d with
 |non=>cases e;cases vd.nons;exact .non
 |bl _=>cases e;cases vd.bls;exact .bl _
 |int _=>cases e;cases vd.ints;exact .int _
 |str _=>cases e;cases vd.strs;exact .str _
 |tup c=>cases e;obtain⟨a,l,rfl,u,_⟩:=vd.tups;exact .tup u
 |ref k=>
  simp only[tyN] at e;obtain⟨a,y,rfl⟩:=vd.refs;cases j:S[k]? with
  |none=>rw[j] at e;cases e
  |some o=>
   rw[j] at e;obtain⟨z,b,r⟩:=R.ob k o j;rw[y] at b;cases b;cases o with
   |lst c=>cases e;obtain⟨l,h,_⟩:=r;exact .lst h
   |frz c=>cases e;obtain⟨o,l,h,_⟩:=r;exact .frz h
   |dic ks c=>cases e;obtain⟨l,h,_⟩:=r;exact .dT h
   |tbl T p q=>cases e
   |dfz ks c=>cases e
def Br(e:tyN d S=aw n):n = "NoneType"\/n = "bool"\/n = "int"\/n = "str"\/n = "tuple"\/n = "list"\/n = "dict" := by
 cases d with
 |ref k=>
  simp only[tyN] at e;cases b:S[k]? with
  |none=>rw[b] at e;cases e
  |some o=>rw[b] at e;cases o <;> cases e <;> simp
 |_=>cases e <;> simp
def K4(K:Vp)(t:Ty)(h:n = "NoneType"\/n = "bool"\/n = "int"\/n = "str"\/n = "tuple"\/n = "list"\/n = "dict"):VA K (.type n) (.type t.nm)=aw (fO t n):=by
 obtain⟨a,b,c,d,e,f,g⟩:=Fp K t;rcases h with rfl |rfl |rfl |rfl |rfl |rfl |rfl <;> assumption
abbrev PH(K:Vp)(t:Ty)(T:TE):TE:=tCB (I0 K) (cf T (cf (tC (.ty t.nm)) jh))
def Fq(h:tE K (xUn (lW t) x) z H Q):PH K t (tE K x) z H Q:=by
 obtain⟨m,y,S,d,B,E,R,e,q⟩:=h;obtain⟨a,c,l,e⟩:=ab e;refine⟨m,y,S,a,c,E,R,l,λm1 k v j u=>?_⟩;unfold lW at e;cases b:tyN a c with
 |none=>rw[b] at e;cases e
 |some n=>
  rw[b] at e;cases e;exact⟨v,t.nm,_,_,rfl,PF j.rel u b,K4 K t (Br b),q m1 k _ j bJ⟩
end
end Ev
namespace HT
open PySem PySem.Spec PyProof.Rows
section
variable {prog:Program} {w:World} {A:Around} {E:Value->Shared->Prop} {s:Shared}
def jt{sl:Addr}{n:Nat}{T:Tok}{Q:Int × Int × Nat->Shared->Prop}(hs:s.heap.IsSliceOf sl .none .none (.int (-1) T))
  (h:Q ((n:Int) - 1,-1,n) s):wpAny (model prog w) A (Builtin.Slice.sliceApplied (.ref sl) (pure (n:Int))) Q E s:=by
 obtain⟨os,b,l,c⟩:=id hs;unfold Builtin.Slice.sliceApplied Builtin.Slice.sliceFields;refine UC (UC (UG b c (x:=.none) rfl (UC (UG b c (x:=.none) rfl (UC (UG b c (x:=.int (-1) T) rfl (US ?_)))))));refine UC (slicePart_int ?_);show wpAny _ _ (if ((-1:Int) == 0)=aN then _ else _) _ _ s;rw[if_neg (by decide)];refine UC (slicePart_none (UC (slicePart_none (UC (US ?_)))));show wpAny _ _ (match Builtin.Slice.sliceAdjust aD aD (-1) (n:Int) with |(lo,hi)=>pure (lo,(-1:Int),Builtin.Slice.slicePlaces lo hi (-1))) _ _ s
 have d:Builtin.Slice.sliceAdjust aD aD (-1) (n:Int)=((n:Int) - 1,-1):=by
  unfold Builtin.Slice.sliceAdjust;simp
 rw[d];show wpAny _ _ (pure ((n:Int) - 1,(-1:Int),Builtin.Slice.slicePlaces ((n:Int) - 1) (-1) (-1))) _ _ s
 have j:Builtin.Slice.slicePlaces ((n:Int) - 1) (-1) (-1)=n:=by
  unfold Builtin.Slice.slicePlaces;have k:¬ ((-1:Int) > 0):=by decide
  simp only[k,if_false,show(- -1:Int)=1 from rfl,Wz];split <;> omega
 rw[j];exact US h
def Bs(xs:Array Value):((Zg xs.size).filterMap λ(m:Nat)=>xs[((xs.size:Int) - 1+(m:Int) * -1).toNat]?).toArray=xs.toList.reverse.toArray:=by
 have e:(Zg xs.size).filterMap (λ(m:Nat)=>xs[((xs.size:Int) - 1+(m:Int) * -1).toNat]?)=((Zg xs.size).map λk=>xs.size - 1 - k).filterMap (xs[·]?):=by
  rw[X3]
  congr 1
  funext m
  show xs[((xs.size:Int) - 1+(m:Int) * -1).toNat]?=xs[xs.size - 1 - m]?
  congr 1
  omega
 rw[e,PySem.W.krv_range,List.filterMap_reverse,PySem.W.krv_all]
def iM{t sl:Addr}{I:Array Value}{T:Tok}{Q:Value->Shared->Prop}(c:IsTup s.heap t I)(hs:s.heap.IsSliceOf sl .none .none (.int (-1) T))
  (h:Q (.ref s.heap.objs.size) { s with heap:=s.heap.push { cls:=.type "tuple", data:=.seq I.toList.reverse.toArray } })
  (d:I.size<=sizeLine):wpAny (model prog w) A (getItem (.ref t) (.ref sl)) Q E s:=by
 have b:sizeOk (.seq I.toList.reverse.toArray):=by
  show I.toList.reverse.toArray.size<=sizeLine;rw[Zk,Ym,Zt];exact d
 obtain⟨os,j,k,q⟩:=id hs;have l:s.TypeIs (.ref sl) "slice" := ⟨os,j,k⟩;unfold getItem
 try with_reducible refine UJ ?_
 first |refine UC (US ?_) |skip
 refine UC (UZ c.typeIs (by decide) ?_)
 refine UC (wpAny_callSpecial?_slot (name:=Str.ofString "__getitem__") c.typeIs WN
  (UD WN c.typeIs entry_tuple_getitem ?_ (args_tuple_getitem _ _)))
 show wpAny _ _ (Builtin.Tuple.tupleItemsOf (.ref t) >>= _) _ _ s;refine UC (tupleItemsOf_ c ?_);refine UC (U4 l ?_);rw[if_pos (by decide)];refine UC (jt hs ?_);show wpAny _ _ (if (((I.size:Int) - 1) == 0 && (-1:Int) == 1 && I.size == I.size)=aN then _ else _) _ _ s;rw[if_neg (by rw[show((-1:Int) == 1)=aS from rfl,Bool.and_false,XN];exact Zh),Bs]
 first
  |exact UC (m:=Builtin.Tuple.tupleExact _) (UP (US ⟨_,rfl,US h⟩) b)
  |exact UC (m:=Builtin.Tuple.tupleExact _) (UP (UC (US (US ⟨_,rfl,US h⟩))) b)
  |exact UC (UC (m:=Builtin.Tuple.tupleExact _) (UP (US (US ⟨_,rfl,US h⟩)) b))
  |exact UC (UC (m:=Builtin.Tuple.tupleExact _) (UP (US ⟨_,rfl,US h⟩) b))
def sF{l:Addr}{v:List Value}{Q:List Value->Shared->Prop}(hl:IsTup s.heap l v.toArray)
  (h:Q v { s with heap:=(s.heap.push (seqObj "list" #[] 0)).update s.heap.objs.size (Obj.mapSeq (·++v.toArray)) }) (c:v.length<=sizeLine) :
  wpAny (model prog w) A (collect (.ref l)) Q E s:=by
 obtain⟨o,k,j,n,hd⟩:=id hl;unfold collect;refine UC (wpAny_runValue (VZ entry_proto_collect' ?_));show wpAny _ _ (do again (.builtin "list.__iadd__" ⟨[<-newList [],.ref l],[]⟩)) _ _ s;refine UC (UO (US ⟨Code.quiet_builtin _ (by decide +kernel),VZ entry_list_iadd' ?_⟩));show wpAny _ _ (Builtin.List.listExtendWith (.ref s.heap.objs.size) (.ref l) (.ref s.heap.objs.size)) _ _ { s with heap:=s.heap.push (seqObj "list" #[] 0) };unfold Builtin.List.listExtendWith;have b:(s.heap.push (seqObj "list" #[] 0)).get? l=aw o:=Zd _ k;refine UC (U4 (T := "tuple") ⟨o,b,j⟩ ?_);have d:(Value.type "tuple" == Value.type "tuple")=aN:=by rfl
 rw[if_pos (by rw[d];simp)];refine UC (listItems_at b hd ?_);refine UC (listItems_at (xs:=#[]) (n:=0) (Zu _ rfl) rfl ?_);rw[if_neg (by simp)];refine UC (listUpdate_at (xs:=#[]) (n:=0) (Zu _ rfl) rfl ?_ (Z5 _) (by show(#[]++v.toArray).size<=sizeLine+1;simp only[Array.size_append,Zk,Z3];omega));refine US ?_
 show wpAny (model prog w) A (do
   let o <-load s.heap.objs.size
   match o.data with
   |.seq xs _=>pure xs.toList
   | _=>UA "internal:collect") Q E { s with heap:=(s.heap.push (seqObj "list" #[] 0)).update s.heap.objs.size (Obj.mapSeq (·++v.toArray)) }
 refine UC (wpAny_load (get?_update_seq (Zu _ rfl) _) ?_);show wpAny _ _ (pure ((#[]:Array Value)++v.toArray).toList) Q E _;rw[show((#[]:Array Value)++v.toArray).toList=v by simp];exact US h
def vB{l:Addr}{v:List Value}{ns:List Int}{Q:Value->Shared->Prop}(hl:IsTup s.heap l v.toArray)(q:IntsAre v ns)(j:v.length < 64)
  (h:∀ (out:Array Value) (b:List Int),IntsAre out.toList b->b.Perm ns->b.Pairwise (·<=·)->Q (.ref (s.heap.objs.size+1)) { s with heap:=sortedAll s.heap v out }) :
  wpAny (model prog w) A (call (.builtin "sorted") [.ref l]) Q E s:=by
 refine WR kind_sorted plain_sorted entry_sorted (args_sorted1 _) ?_;unfold Builtin.«sorted»;refine UC (m:=checkCount "sorted" 1 1 _) (US ?_);refine UC (sF hl ?_ (by rw[Ut];omega));refine UC (UO ?_)
 have c:((s.heap.push (seqObj "list" #[] 0)).update s.heap.objs.size (Obj.mapSeq (·++v.toArray))).objs.size=s.heap.objs.size+1:=by
  rw[Yl,size_push']
 have d:(((s.heap.push (seqObj "list" #[] 0)).update s.heap.objs.size (Obj.mapSeq (·++v.toArray))).push (seqObj "list" v.toArray 0)).get? (s.heap.objs.size+1)=aw (seqObj "list" v.toArray 0):=by
  rw[<-c];exact Zu _ rfl
 show wpAny _ _ _ _ _ { s with heap:=((s.heap.push (seqObj "list" #[] 0)).update s.heap.objs.size (Obj.mapSeq (·++v.toArray))).push (seqObj "list" v.toArray 0) };rw[c];refine UC (UJ (UD slot_list_sort ⟨_,d,rfl⟩ entry_list_sort (list_sort_tree d q j λout b y k u=>⟨_,rfl,?_⟩) (args_list_sort _)));exact US ⟨_,rfl,h out b y k u⟩
end
end HT
namespace Ev
open PySem PySem.Spec PyProof.Rows L2
section
variable {X:Cx} {e:Expr} {te:TE} {pos p2 p3 p4:Pos}
def aM.rev:∀ {xs:List V} {u:List Value},aM xs u->aM xs.reverse u.reverse
 |[],_,.nil=>.nil
 |_::_,_,.cons r t=>by rw[Y7,Y7];exact(aM.rev t).append (.cons r .nil)
def VDs.rev{K:Vp}:∀ {b:List D} {v:List V},VDs K m H b v->VDs K m H b.reverse v.reverse
 |[],v,h=>by rw[VDs] at h;subst h;exact .nil
 |d::b,v,h=>by
  rw[VDs] at h;obtain⟨y,r,rfl,p,q⟩:=h;rw[Y7,Y7];exact(VDs.rev q).append (.cons p .nil)
abbrev vC(d:D)(S:Sto):Option (D × Sto):=match d with
 |.tup b=>aw (.tup b.reverse,S)
 | .ref n=>(match aQ S n with
  |some b=>aw (.ref S.length,S++[.lst b.reverse])
  | none=>aD)
 |_=>aD
def K5{k:Nat}(he:PE X e te):PE X (.Subscript e (.Slice aD aD (aw (.UnaryOp .USub (.Constant (.int 1) k p3) p4)) p2) pos) (tUn (rS1 X.K vC) te):=by
 intro c s O H Q I h;refine Subscript_ (thn (he c s O H _ I h) λv s1 ⟨x,Z,I1,r1,q1⟩=>?_);refine wpAny_Slice ?_;rw[V6];refine US (US ?_);refine thn (w4 (AB uI uF) c s1 O Z (λo U=>o=aw (-1)/\U=Z) I1 ⟨_,rfl,_,rfl,rfl,rfl⟩) λvk J ⟨o,U,I2,pk,ho,hH⟩=>?_;subst ho hH;cases pk with
 |int i tk=>
  have z:L2.Inv X c O U { J with heap:=J.heap.push { cls:=.type "slice", data:=.fields #[.none,.none,.int (-1) tk] } }:=I2.kept (t':=J.toks) λb ob q=>Zd _ q;obtain⟨m,S,a,d,S',R,va,l,q⟩:=q1;cases a with
  |tup ds=>
   cases l;obtain⟨p,C,rfl,T,u⟩:=va.tups;cases r1;obtain⟨y,r,ht,B⟩:=z.tuple (.of T);have j:y.toArray.size=C.length:=by rw[Zk];exact r.length.symm
   refine tail_any (ops:=[.ref p,.ref J.heap.objs.size]) ht.typeIs PyProof.Rows.slot_tuple_getitem.lookup (HT.iM ht (Heap.IsSliceOf.new ..) ?_ (by rw[j];exact B)) (by with_unfolding_all rfl);refine⟨.ref _,_,z.laid (o:=.tup C.reverse) (λb ob q=>Zd _ q) (Zj _) ?_,rfl,iJ R (VDs.rev u) q _ (z.hok.fresh (Zj _))⟩;exact⟨by rw[Ym];exact B,_,aM.rev r,pE.new _ _⟩
  |ref n=>
   simp only[vC] at l;cases Y:aQ S n with
   |none=>rw[Y] at l;cases l
   |some ds=>
    rw[Y] at l;cases l;obtain⟨p,C,hp,T,u⟩:=R.seq Y;obtain⟨p',L,rfl⟩:=va.refs;rw[hp] at L;cases L;cases r1;obtain⟨y,r,pl,B⟩:=z.list T;have j:y.toArray.size=C.length:=by rw[Zk];exact r.length.symm
    refine tail_any (ops:=[.ref p,.ref J.heap.objs.size]) pl.isList.typeIs PySem.slot_list_getitem.lookup (UI pl.isList (Heap.IsSliceOf.new ..) .none .none (.int (-1) tk) (by decide) ?_ (by rw[j];exact B)) (by with_unfolding_all rfl);rw[PySem.W.krv_pick];refine⟨.ref _,_,z.laid (o:=.lst C.reverse) (λb ob q=>Zd _ q) (Zj _) ?_,rfl,pW R (VDs.rev u) q _ (z.hok.fresh (Zj _))⟩;exact⟨by rw[Ym];exact B,_,0,aM.rev r,Zu _ rfl⟩
  |_=>cases l
end
end Ev
namespace Ev
open PySem PySem.Spec PyProof.Rows L2
open PySem.W (KasT kas_sort kas_asc kas_desc kas_tail3 kas_descPart kas_count kas_place kas_bin kas_rev kas_ask KatTups)
abbrev sG{b:Type}(lt:Nat->Nat->Bool):KasT b->b
 |.ret a=>a
 |.ask i j k=>sG lt (k (lt i j))
abbrev KT{c:Type}(n:Nat)(P:c->Prop):KasT c->Prop
 |.ret a=>P a
 |.ask i j k=>i < n/\j < n/\∀b,KT n P (k b)
def KT.bind{c d:Type}{n:Nat}{P:c->Prop}{R:d->Prop}{f:c->KasT d}(l:∀a,P a->KT n R (f a)):∀ {t:KasT c},KT n P t->KT n R (t.bind f)
 |.ret a,h=>l a h
 |.ask i j k,h=>⟨h.1,h.2.1,λb=>KT.bind l (h.2.2 b)⟩
def KT.run{b:Type}{n:Nat}{P:b->Prop}{lt:Nat->Nat->Bool}:∀ {t:KasT b},KT n P t->P (sG lt t)
 |.ret a,h=>h
 |.ask i j k,h=>KT.run (t:=k (lt i j)) (h.2.2 (lt i j))
def sH{b:Type}{n:Nat}{P:b->Prop}{lt:Nat->Nat->Bool}{cmp:Nat->Nat->(Bool->Shared->Prop)->Shared->Prop}{s:Shared}(hc:∀i j,i < n->j < n->∀C:Bool->Shared->Prop,C (lt i j) s->cmp i j C s){Q:b->Shared->Prop} :
  ∀ {t:KasT b},KT n P t->Q (sG lt t) s->t.kasWp cmp Q s
 |.ret a,_,q=>q
 |.ask i j k,h,q=>hc i j h.1 h.2.1 _ (sH hc (h.2.2 (lt i j)) q)
abbrev Pm(n:Nat)(p:Array Nat):Prop:=p.Perm (Yr (Zg n))
def Pm.at{n i:Nat}(h:Pm n p)(c:0 < n):p.getD i 0 < n:=by
 by_cases hi:i < p.size
 ·have e:p.getD i 0=p[i]:=by simp[Array.getD,hi]
  rw[e];have b:p[i] ∈ p:=X9 hi;have:=h.mem_iff.mp b
  simpa using this
 ·have e:p.getD i 0=0:=by simp[Array.getD,hi]
  omega
def Pm.rev{n i j:Nat}(h:Pm n p):Pm n (kas_rev p i j):=(mirror_perm p i j _).trans h
def vD{n:Nat}(h:Pm n p)(c:0 < n):∀f m,KT n (λ_=>True) (kas_asc p f m)
 |0,_=>trivial
 | f+1,m=>⟨h.at c,h.at c,λb=>by
  cases b with
  |true=>exact trivial
  | false=>exact vD h c f (m+1)⟩
def kJ{n:Nat}(c:0 < n):∀f (p:Array Nat) m q,Pm n p->KT n (λr:Array Nat × Nat × Nat=>Pm n r.1) (kas_desc f p m q)
 |0,p,m,q,h=>h
 | f+1,p,m,q,h=>⟨h.at c,h.at c,λb=>by
  cases b with
  |true=>
   show KT n _ (if q > 0 then kas_desc f (kas_rev p (m - (q+1)) m) (m+1) 0 else kas_desc f p (m+1) 0);split
   ·exact kJ c f _ _ _ h.rev
   ·exact kJ c f _ _ _ h
  | false=>exact⟨h.at c,h.at c,λd=>by
   cases d with
   |true=>exact h
   | false=>exact kJ c f _ _ _ h⟩⟩
def sI{n:Nat}{p:Array Nat}(b:0 < n)(h:Pm n p)(m r:Nat):KT n (λr:Nat × Array Nat=>Pm n r.2) (kas_tail3 m r p):=KT.bind (P:=λ_=>True) (f:=λm=>KasT.ret (m,kas_rev p 0 _)) (λ_ _=>(show KT n (λr:Nat × Array Nat=>Pm n r.2) (KasT.ret (_,kas_rev p 0 _)) from h.rev)) (vD h.rev b _ _)
def jW{n:Nat}{p:Array Nat}(b:0 < n)(h:Pm n p)(m r:Nat):KT n (λr:Nat × Array Nat=>Pm n r.2) (kas_descPart m r p):=KT.bind (λa c=>by
 show KT n _ (if a.2.2 > 0 then _ else _);split
 ·exact sI b (Pm.rev c) _ _
 ·exact sI b c _ _) (kJ b _ _ _ _ h)
def Bt{n:Nat}{p:Array Nat}(c:0 < n)(h:Pm n p)(r:Nat):KT n (λr:Nat × Array Nat=>Pm n r.2) (kas_count r p):=KT.bind (λa _=>by
 show KT n _ (if (a == r)=aN then _ else if a > 1 then _ else _);split
 ·exact h
 ·split
  ·exact⟨h.at c,h.at c,λb=>by
    cases b with
    |true=>exact h
    | false=>exact jW c h.rev _ _⟩
  ·exact jW c h _ _) (vD h c _ _)
def lX{n:Nat}{p:Array Nat}(c:0 < n)(h:Pm n p)(m:Nat):∀f l r,KT n (λ_=>True) (kas_place p m f l r)
 |0,_,_=>trivial
 |f+1,l,r=>by
  show KT n _ (if l ≥ r then _ else _);split
  ·exact trivial
  ·exact⟨h.at c,h.at c,λb=>by
    cases b with
    |true=>exact lX c h m f _ _
    | false=>exact lX c h m f _ _⟩
def Bu{n:Nat}(b:0 < n):∀f (p:Array Nat) m,Pm n p->KT n (Pm n) (kas_bin f p m)
 |0,p,_,h=>h
 |f+1,p,m,h=>KT.bind (λl _=>Bu b f _ _ ((bubble_perm p m _).trans h)) (lX b h m _ _ _)
def xi{n:Nat}(b:0 < n):KT n (Pm n) (kas_sort n):=KT.bind (λr c=>by
 show KT n _ (if r.1 < n then _ else _);split
 ·exact Bu b _ _ _ c
 ·exact c) (Bt b (Array.Perm.refl _) n)
end Ev
namespace Ev
open PySem PyProof.Rows
open PySem.W (KasT kas_sort kas_ask)
abbrev vE(lt:Nat->Nat->Bool)(n:Nat):Option (Array Nat):=if n < 64 then aw (sG lt (kas_sort n)) else if n<=1000 then (match wP n lt with
 |some p=>if p.size=n/\(Zg n).all (λi=>p.toList.contains i)=aN then aw p else aD
 | none=>aD) else aD
abbrev bV(lt:Nat->Nat->Bool)(n:Nat):Array Nat:=(vE lt n).getD #[]
abbrev eD(lt:Nat->Nat->Bool)(n:Nat):Prop:=(vE lt n).isSome=aN
noncomputable instance {lt:Nat->Nat->Bool} {n:Nat}:Decidable (eD lt n):=inferInstanceAs (Decidable (_=aN))
section
variable {lt:Nat->Nat->Bool} {n:Nat}
def Bv(h:n < 64):bV lt n=sG lt (kas_sort n):=by unfold bV vE;rw[if_pos h];rfl
def eD.big(h:eD lt n)(d:¬n < 64):n<=1000/\∃p,wP n lt=aw p/\bV lt n=p/\p.size=n/\∀i,i < n->i ∈ p.toList:=by
 unfold eD at h;have b:bV lt n=(vE lt n).getD #[]:=rfl;unfold vE at h b;rw[if_neg d] at h b;split at h
 ·rename_i k;rw[if_pos k] at b;refine⟨k,?_⟩;cases j:wP n lt with
  |none=>rw[j] at h;cases h
  |some p=>
   rw[j] at h b;dsimp only at h b;split at h
   ·rename_i c;rw[if_pos c] at b;exact⟨p,rfl,b,c.1,λi hi=>by have:=ZW.mp c.2 i (ZJ.mpr hi);simpa using this⟩
   ·cases h
 ·cases h
def eD.le(h:eD lt n):n<=1000:=by
 by_cases b:n < 64
 ·omega
 ·exact(h.big b).1
def sJ:∀ (a b:List Nat),a.Nodup->(∀x ∈ a,x ∈ b)->b.length<=a.length->a.Perm b
 |[],b,_,_,h=>by
  cases b with
  |nil=>exact List.Perm.refl _
  |cons _ _=>simp at h
 |x::a,b,nd,hm,hl=>by
  have d:=hm x Zi;refine List.Perm.trans ?_ (YL d).symm;refine List.Perm.cons x (sJ a (b.erase x) (Z1.mp nd).2 (λy c=>?_) ?_)
  ·refine(Xj λe=>?_).mpr (hm y (Ze _ c));subst e;exact(Z1.mp nd).1 c
  ·rw[XC d];rw[Zo] at hl;omega
def p9(h:eD lt n)(j:0 < n):Pm n (bV lt n):=by
 by_cases b:n < 64
 ·rw[Bv b];exact(xi j).run
 ·obtain⟨_,p,_,e,k,c⟩:=h.big b;rw[e];refine(Array.perm_iff_toList_perm.mpr ?_);refine(sJ _ _ YR (λx d=>c x (ZJ.mp d)) ?_).symm;rw[ZB,Zt,k];exact Zj _
def ju(h:eD lt n)(b:0 < n):(∀i ∈ (bV lt n).toList,i < n)/\(bV lt n).toList.length=n:=by
 have h:=(p9 h b).toList;exact⟨λi hi=>by have:=h.mem_iff.mp hi;simpa using this,by have:=h.length_eq;simpa using this⟩
variable {prog:Program} {w:World} {A:Around} {E:Value->Shared->Prop} {s:Shared} {ks vs:List Value} {κ:SortKind}
def xj(hl:ks.length=vs.length)(L:2<=vs.length)(hN:eD lt vs.length)(c:∀i j,i < vs.length->j < vs.length->∀C:Bool->Shared->Prop,C (lt i j) s->kas_ask prog w A κ ks i j C s) :
  wpAny (model prog w) A ((sortRuns').run (SortSt.mk' κ (ks.toArray.zip vs.toArray) #[] 7 aD)) (λr b=>b=s/\arrOf r.2=(bV lt vs.length).map (Vv (ks.toArray.zip vs.toArray))/\(bV lt vs.length).size=vs.length/\failedOf r.2=aD) E s:=by
 have l:(bV lt vs.length).size=vs.length:=by rw[<-Zt];exact(ju hN (by omega)).2
 by_cases k:vs.length < 64
 ·rw[Bv k] at l ⊢
  exact PySem.W.kat_run (κ:=κ) (ks:=ks) (vs:=vs) (Q:=λd b=>b=s/\arrOf d=(sG lt (kas_sort vs.length)).map (Vv (ks.toArray.zip vs.toArray))/\(sG lt (kas_sort vs.length)).size=vs.length/\failedOf d=aD)
   (G:=λp b=>b=s/\p=sG lt (kas_sort vs.length)) hl L k (λp d b O y I v=>⟨v.1,v.2 ▸ y,l,I⟩) (sH c (xi (by omega)) ⟨rfl,rfl⟩)
 ·obtain⟨_,p,q,e,_,_⟩:=hN.big k;rw[e] at l ⊢;unfold wP at q;obtain⟨r,B,J⟩:=ZD.mp q;obtain⟨u,z⟩:=r;rw[PySem.W.kat_ask_eq hl] at c;have sz:(ks.toArray.zip vs.toArray).size=vs.length:=by simp[hl]
  have rg:=PySem.W.kas_range (ks.toArray.zip vs.toArray);rw[sz] at rg;have run:=Ep (X:=⟨prog,w,A,E,κ,ks.toArray.zip vs.toArray,s,vs.length,lt,c⟩) _ _ _ B (λ_ st b=>b=s/\arrOf st=p.map (Vv (ks.toArray.zip vs.toArray))/\p.size=vs.length/\failedOf st=aD) λ_ _=>⟨rfl,by rw[<-J];rfl,l,rfl⟩;unfold stM at run;dsimp only at run;rw[rg] at run;exact run
end
end Ev
namespace Ev
open PySem PySem.Spec PyProof.Rows L2
open PySem.W (KasT kas_sort kas_asc kas_desc kas_tail3 kas_descPart kas_count kas_place kas_bin kas_rev kas_ask KatTups)
section
variable {prog:Program} {w:World} {A:Around} {E:Value->Shared->Prop} {s:Shared}
def qa{a:Addr}{v:List Value}{n:Nat}{P:PySem.Fin->Shared->Prop}(y:s.heap.get? a=aw (seqObj "list" v.toArray n))(T:SortKind)(lt:Nat->Nat->Bool)(u:eD lt v.length)
  (U:2<=v.length->∀ (Q:SortKind->Shared->Prop),Q T { s with heap:=((s.heap.update a (Obj.mapSeq λ_=>#[])).push (seqObj "tuple" v.toArray 0)).push (seqObj "list" #[] 0) }->wpAny (model prog w) A (keyKind' v.toArray) Q E { s with heap:=((s.heap.update a (Obj.mapSeq λ_=>#[])).push (seqObj "tuple" v.toArray 0)).push (seqObj "list" #[] 0) })
  (I:∀i j,i < v.length->j < v.length->∀C:Bool->Shared->Prop,C (lt i j) { s with heap:=((s.heap.update a (Obj.mapSeq λ_=>#[])).push (seqObj "tuple" v.toArray 0)).push (seqObj "list" #[] 0) } ->
   kas_ask prog w A T v i j C { s with heap:=((s.heap.update a (Obj.mapSeq λ_=>#[])).push (seqObj "tuple" v.toArray 0)).push (seqObj "list" #[] 0) })
  (h:P (.done (.ret .none)) { s with heap:=sortedHeap s.heap a v (if v.length < 2 then v.toArray else Yr ((bV lt v.length).toList.map λi=>v.getD i Value.none)) }) :
  wpAny (model prog w) A (Builtin.«list.sort» ⟨[.ref a],[]⟩) P E s:=by
 have L:=u.le;rw[list_sort_plain];have O:a < s.heap.objs.size:=Zs y;refine UC (listItems_at y rfl ?_);refine UC (listUpdate_at y rfl ?_);obtain⟨B,q⟩:∃B,(s.heap.update a (Obj.mapSeq λ_=>#[])).get? a=aw (seqObj "list" #[] B):=⟨_,get?_update_seq y (λ_=>#[])⟩;refine UC (seqEpoch_at q rfl ?_);refine UC (wpAny_newTuple ?_);refine UC (UO ?_);refine UJ ?_
 have b:(((s.heap.update a (Obj.mapSeq λ_=>#[])).push (seqObj "tuple" v.toArray 0)).push (seqObj "list" #[] 0)).get? a=aw (seqObj "list" #[] B):=by
  rw[Y8 _ _ _ (by rw[size_push',Yl];exact ZH (Yw O)),Y8 _ _ _ (by rw[Yl];exact ZH O)];exact q
 show wpAny (model prog w) A _ P E { s with heap:=((s.heap.update a (Obj.mapSeq λ_=>#[])).push (seqObj "tuple" v.toArray 0)).push (seqObj "list" #[] 0) };dsimp only;have z:v.toArray.size=v.length:=by simp
 by_cases l:v.toArray.size < 2
 ·rw[if_pos l,if_pos l];refine UC (US ?_);rw[StateT.run_pure];refine UC (US ?_);dsimp only;refine UC (seqEpoch_at b rfl ?_);refine UC (listUpdate_at b rfl ?_ (hsz2:=by rw[Xu];show(pairsOf v).size<=_;rw[pairsOf_size,Ut];omega));simp only[bne_self_eq_false,ZR,if_false];rw[if_pos (by rw[<-z];exact l)] at h
  have e:Array.map (λx:Keyed=>x.2) (v.toArray.zip v.toArray)=v.toArray:=by
   apply Wf.mp;rw[XD,Wg,Wh (by simp)]
  refine US ?_;show P _ { s with heap:=sortedHeap s.heap a v (Array.map (λx:Keyed=>x.2) (v.toArray.zip v.toArray)) };rw[e];exact h
 ·have d:2<=v.length:=by omega
  rw[if_neg l,if_neg l];rw[if_neg (by omega)] at h;refine UC (U d _ ?_);refine UC (UM (xj rfl d u I) ?_ λ_ _ e=>e);rintro⟨⟨⟩,Y⟩ Z ⟨rfl,J,c,X⟩;dsimp only;have k:=Vx rfl J;refine UC (seqEpoch_at b rfl ?_);rw[k];refine UC (listUpdate_at b rfl ?_ (hsz2:=by rw[Zk,Za,Zt,c,Ut];omega));rw[X];simp only[bne_self_eq_false,ZR,if_false];exact US h
end
section
variable {prog:Program} {w:World} {A:Around} {E:Value->Shared->Prop} {s:Shared}
def zf(hl:s.heap.IsList l v.toArray)(J:SortKind)(lt:Nat->Nat->Bool)(B:eD lt v.length)
  (O:2<=v.length->∀ (A:Around) (k:Shared),(∀b o,s.heap.get? b=aw o->k.heap.get? b=aw o)->∀ (E:Value->Shared->Prop) (Q:SortKind->Shared->Prop),Q J k->wpAny (model prog w) A (keyKind' v.toArray) Q E k)
  (d:∀ (L:Around) (k:Shared),L=A.in1.in1->(∀b o,s.heap.get? b=aw o->k.heap.get? b=aw o)->∀i j,i < v.length->j < v.length->∀C:Bool->Shared->Prop,C (lt i j) k->kas_ask prog w L J v i j C k)
  (h:Q (.ref (s.heap.objs.size+1)) { s with heap:=sortedAll s.heap v (if v.length < 2 then v.toArray else Yr ((bV lt v.length).toList.map λi=>v.getD i Value.none)) }) :
  wpAny (model prog w) A (call (.builtin "sorted") [.ref l]) Q E s:=by
 refine WR kind_sorted plain_sorted entry_sorted (args_sorted1 _) ?_;have I:=B.le;unfold Builtin.«sorted»;refine UC (m:=checkCount "sorted" 1 1 _) (US ?_);refine UC (collect_list hl ?_);refine UC (UO ?_)
 have u:((s.heap.push (seqObj "list" #[] 0)).update s.heap.objs.size (Obj.mapSeq (·++v.toArray))).objs.size=s.heap.objs.size+1:=by
  rw[Yl,size_push']
 have y:(((s.heap.push (seqObj "list" #[] 0)).update s.heap.objs.size (Obj.mapSeq (·++v.toArray))).push (seqObj "list" v.toArray 0)).get? (s.heap.objs.size+1)=aw (seqObj "list" v.toArray 0):=by
  rw[<-u];exact Zu _ rfl
 have keep:∀b o,s.heap.get? b=aw o->(((((s.heap.push (seqObj "list" #[] 0)).update s.heap.objs.size (Obj.mapSeq (·++v.toArray))).push (seqObj "list" v.toArray 0)).update (s.heap.objs.size+1) (Obj.mapSeq λ_=>#[])).push (seqObj "tuple" v.toArray 0)).get? b=aw o:=λb o q=>by
  have d:b < s.heap.objs.size:=Zs q;refine Zd _ ?_;rw[Xq _ _ _ _ (ZH (Yw d))];refine Zd _ ?_;rw[Xq _ _ _ _ (ZH d)];exact Zd _ q
 show wpAny _ _ _ _ _ { s with heap:=((s.heap.push (seqObj "list" #[] 0)).update s.heap.objs.size (Obj.mapSeq (·++v.toArray))).push (seqObj "list" v.toArray 0) };rw[u];refine UC (UJ (UD slot_list_sort ⟨_,y,rfl⟩ entry_list_sort (qa y J lt B (λU Q q=>O U _ _ (λb o z=>Zd _ (keep b o z)) _ Q q) (λi j hi T C c=>d _ _ rfl (λb o z=>Zd _ (keep b o z)) i j hi T C c) ⟨_,rfl,?_⟩) (args_list_sort _)));exact US ⟨_,rfl,h⟩
end
end Ev
namespace Ev
open PySem PySem.Spec PyProof.Rows L2
open PySem.W (kas_sort KatTups)
section
variable {X:Cx} {K:Vp} {m:List Addr} {H:Hp} {S:Sto}
def xk(r:aM v its){i:Nat}(hi:i < v.length):aB (v.getD i .non) (its.getD i Value.none):=by
 obtain⟨u,e,b⟩:=r.get (gEG hi);rw[Zm,Zm,gEG hi,e];exact b
def oj{v:List V}{its:List Value}(r:aM v its):∀ (l:List Nat),(∀i ∈ l,i < v.length)->aM (l.map λi=>v.getD i .non) (l.map λi=>its.getD i Value.none)
 |[],_=>.nil
 |i::l,h=>.cons (xk r (h i Zi)) (oj r l λj b=>h j (Ze _ b))
abbrev vF(x:Int):List Int->List Int
 |[]=>[x]
 |y::l=>if x<=y then x::y::l else y::vF x l
abbrev cN:List Int->List Int
 |[]=>[]
 |x::l=>vF x (cN l)
def jv(x:Int):∀l,(vF x l).Perm (x::l)
 |[]=>List.Perm.refl _
 |y::l=>by
  unfold vF;split
  ·exact List.Perm.refl _
  ·exact((jv x l).cons y).trans (List.Perm.swap x y l)
def bu:∀l,(cN l).Perm l
 |[]=>List.Perm.refl _
 |x::l=>(jv x (cN l)).trans ((bu l).cons x)
def jX(x:Int):∀l:List Int,l.Pairwise (·<=·)->(vF x l).Pairwise (·<=·)
 |[],_=>by unfold vF;simp
 |y::l,h=>by
  unfold vF;rw[Yb] at h;split
  ·rename_i c;refine Yb.mpr ⟨λz hz=>?_,Yb.mpr h⟩;rcases Zn.mp hz with rfl |hz
   ·exact c
   ·have:=h.1 z hz;lia
  ·rename_i c;refine Yb.mpr ⟨λz hz=>?_,jX x l h.2⟩;rcases Zn.mp ((jv x l).mem_iff.mp hz) with rfl |hz
   ·lia
   ·exact h.1 z hz
def bv:∀l,(cN l).Pairwise (·<=·)
 |[]=>List.Pairwise.nil
 |x::l=>jX x _ (bv l)
def eX:∀ {a b:List Int},a.Perm b->a.Pairwise (·<=·)->b.Pairwise (·<=·)->a=b
 |[],b,p,_,_=>(List.Perm.nil_eq p)
 |x::a,[],p,_,_=>(List.Perm.nil_eq p.symm).symm
 |x::a,y::b,p,ha,hb=>by
  rw[Yb] at ha hb
  have e:x=y:=by
   have h1:=p.mem_iff.mp (Zi (a:=x) (l:=a));have h2:=p.mem_iff.mpr (Zi (a:=y) (l:=b));rcases Zn.mp h1 with rfl |h1
   ·rfl
   ·rcases Zn.mp h2 with h2 |h2
    ·exact h2.symm
    ·have:=ha.1 y h2;have:=hb.1 x h1
     lia
  subst e;rw[eX (List.Perm.cons_inv p) ha.2 hb.2]
def vG:aX X (.builtin "sorted") (λxs H Q=>∃a ns,xs=[.ref a]/\SqL X.K H a (ns.map V.int)/\ns.length < 64/\∀p,H p=aD->Q (.ref p) (upd H p (.lst ((cN ns).map V.int)))):=by
 intro v s Y H xs Z Q I r h;obtain⟨a,ns,rfl,B,U,q⟩:=h;obtain⟨u,rfl,y⟩:=cb r;cases y;obtain⟨j,k,C,l⟩:=I.list B;have c:=k.length;rw[Za] at c l;refine sorted_ints C.isList (bc k) (by lia) λout d L O J=>?_;have e:d=cN ns:=eX (O.trans (bu ns).symm) J (bv ns);subst e;obtain⟨e,T⟩:=sortedAll_at s.heap j out;refine⟨.ref (s.heap.objs.size+1),_,I.laid (t':=s.toks) (a:=s.heap.objs.size+1) (o:=.lst ((cN ns).map V.int)) (λb o z=>sortedAll_old z) (Yt _) ⟨by rw[Za,(bu ns).length_eq];exact l,out.toList,e,gx L,by simpa using T⟩,rfl,q _ (I.hok.fresh (Yt _))⟩
abbrev zg(_:Bool)(d:List D):Option (List D):=match bK d with
 |some ns=>if ns.length < 64 then aw ((cN ns).map D.int) else aD
 |none=>aD
def qb(h:VDs K m H d k):∀ (l:List Nat),(∀i ∈ l,i < d.length)->VDs K m H (l.map λi=>d.getD i .non) (l.map λi=>k.getD i .non)
 |[],_=>by rw[Z7,Z7,VDs]
 |i::l,hl=>by
  rw[Zz,Zz,VDs];obtain⟨v,e,c⟩:=h.get (gEG (hl i Zi));refine⟨_,_,rfl,?_,qb h l λj b=>hl j (Ze _ b)⟩;rw[Zm,Zm,gEG (hl i Zi),e];exact c
abbrev Fs(d:List D):Option (List D):=match bK d with
 |some ns=>if ns.length < 64 then aw ((cN ns).map D.int) else aD
 |none=>aD
def vH:aX X (.builtin "sorted") (λxs H Q=>∃a ns,xs=[.ref a]/\SqT X.K H a (ns.map V.int)/\ns.length < 64/\∀p,H p=aD->Q (.ref p) (upd H p (.lst ((cN ns).map V.int)))):=by
 intro v s Y H xs Z Q I r h;obtain⟨a,ns,rfl,B,U,q⟩:=h;obtain⟨u,rfl,y⟩:=cb r;cases y;obtain⟨j,k,C,l⟩:=I.tuple B;have c:=k.length;rw[Za] at c l;refine HT.vB C (bc k) (by lia) λout d L O J=>?_;have e:d=cN ns:=eX (O.trans (bu ns).symm) J (bv ns);subst e;obtain⟨e,T⟩:=sortedAll_at s.heap j out;refine⟨.ref (s.heap.objs.size+1),_,I.laid (t':=s.toks) (a:=s.heap.objs.size+1) (o:=.lst ((cN ns).map V.int)) (λb o z=>sortedAll_old z) (Yt _) ⟨by rw[Za,(bu ns).length_eq];exact l,out.toList,e,gx L,by simpa using T⟩,rfl,q _ (I.hok.fresh (Yt _))⟩
def zh:aX X (.builtin "sorted") (r1 (rTm X.K λT d=>if T=aS then zg T d else aD)):=by
 refine aX.imp vG λl H Q h=>?_;obtain⟨_,rfl,m,S,T,d,a,v,es,R,rfl,b,vd,e,q⟩:=cV h;cases T with
 |true=>cases e
 |false=>
  have e:zg aS d=aw es:=by simpa using e
  unfold zg at e;cases hi:bK d with
  |none=>rw[hi] at e;cases e
  |some ns=>
   rw[hi] at e;dsimp only at e;split at e
   ·rename_i j;cases e;have c:=ci hi;subst c;have k:=bA vd;subst k;exact⟨a,ns,rfl,b,j,iK R (jp _) q⟩
   ·cases e
end
end Ev
namespace Ev
open PySem PySem.Spec PyProof.Rows L2
abbrev iO:List Int->Int
 |[]=>0
 |n::ns=>ns.foldl (λa b=>if a < b then b else a) n
def iP:∀ (ns:List Int) (n:Int),(ns.foldl (λa b=>if a < b then b else a) n) ∈ n::ns/\∀x ∈ n::ns,x<=ns.foldl (λa b=>if a < b then b else a) n
 |[],n=>⟨Zi,λx hx=>by simp at hx;subst hx;exact ZF _⟩
 |m::ns,n=>by
  obtain⟨j,d⟩:=iP ns (if n < m then m else n);rw[XH];refine⟨?_,λx hx=>?_⟩
  ·rcases Zn.mp j with h |h
   ·rw[h];split <;> simp
   ·exact Ze _ (Ze _ h)
  ·have c:=d _ Zi;rcases Zn.mp hx with rfl |hx
   ·split at c <;> split <;> omega
   ·rcases Zn.mp hx with rfl |hx
    ·split at c <;> split <;> omega
    ·exact d x (Ze _ hx)
def Bw{M:Int}(c:M ∈ ns)(d:∀a,a ∈ ns->a<=M):M=iO ns:=by
 cases ns with
 |nil=>simp at c
 |cons n ns=>
  obtain⟨a,b⟩:=iP ns n;have:=d _ a;have:=b _ c;show M=ns.foldl _ n;omega
section
variable {X:Cx} {K:Vp} {m:List Addr} {H:Hp} {S:Sto}
def zi(hc:X.calm=aN):aX X (.builtin "max") (λxs H Q=>∃a ns,xs=[.ref a]/\SqL X.K H a (ns.map V.int)/\ns ≠ []/\Q (.int (iO ns)) H):=by
 intro c s O H xs us Q I r h;obtain⟨a,ns,rfl,Y,k,q⟩:=h;obtain⟨u,rfl,L⟩:=cb r;cases L;obtain⟨its,rv,pl,hz⟩:=I.list Y;have hi:=bc rv;have C:=pl.isList;obtain⟨y,e⟩:=hi.allInts.items
 have b:ns=y.toList.map (·.1):=by
  have z:=hi.numsOf;rw[<-nums_intItems,<-e];exact z.symm
 have d:0 < y.size:=by
  have J:0 < ns.length:=XX.mpr k;rw[b,Za,Zt] at J;exact J
 rw[e] at C;refine max_intList (I.ok.hd hc) C d λv h' T hv U=>?_;obtain⟨t,rfl⟩:=V9 hv;obtain⟨b1,b2⟩:=argBest_gt (numAt y) (y.size - 1);have l:∀M:Int,M ∈ ns->(∀a,a ∈ ns->a<=M)->∃x H',Inv X c O H' { s with heap:=h',toks:=T }/\aB x (.int M t)/\Q x H':=λM z h2=>⟨.int (iO ns),H,I.kept U,⟨t,by rw[Bw z h2]⟩,q⟩;refine l _ ?_ λa B=>?_
 ·rw[b,Uh];exact getD_mem (by rw[Za,Zt];omega)
 ·rw[b] at B;obtain⟨j,Z,rfl⟩:=mem_getD B;rw[Za,Zt] at Z;rw[<-Uh];exact b2 j (by omega)
def qd(u:A.handled=aD)(hl:s.heap.IsTuple l (V8 xs))(k:0 < xs.size)
  (h:∀v h' T,(V8 xs)[argBest (λi j=>decide (numAt xs i > numAt xs j)) (xs.size - 1)]?=aw v->(∀b o,s.heap.get? b=aw o->h'.get? b=aw o)->Q v { s with heap:=h',toks:=T }) :
  wpAny (model prog w) A (call (.builtin "max") [.ref l]) Q E s:=by
 have d:l < s.heap.objs.size:=by obtain⟨_,e,_⟩:=hl;exact Zs e
 refine call_max_walk (UV hl ?_);refine⟨_,[_,l],[_],_,_,_,_,rfl,Walks.tuple (A:=A.in1) u _ l (ZH d) (V8 xs),⟨⟨_,Zu _ rfl,rfl,rfl⟩,hl.push _⟩,λc hc=>?_,by simpa[V8] using k,CmpOf.ints_gt (numAt xs) (λ_ _=>V9),λv h' T q y=>?_⟩
 ·show c < (s.heap.push _).objs.size;rw[Yq];rcases Zn.mp hc with rfl |hc
  ·exact Xg _
  ·rcases Zn.mp hc with rfl |hc
   ·exact Yw d
   ·cases hc
 ·refine h v h' T (by simpa[V8] using q) λb o e=>y b o (λhm=>?_) (Zd _ e);rcases Zn.mp hm with e1 |hm
  ·exact absurd (e1 ▸ Zs e) (ZL _)
  ·cases hm
def zj(hc:X.calm=aN):aX X (.builtin "max") (λxs H Q=>∃a ns,xs=[.ref a]/\SqT X.K H a (ns.map V.int)/\ns ≠ []/\Q (.int (iO ns)) H):=by
 intro c s U H xs us Q I r h;obtain⟨a,ns,rfl,Z,k,q⟩:=h;obtain⟨u,rfl,O⟩:=cb r;cases O;obtain⟨B,rv,pl,hz⟩:=I.tuple Z;have hi:=bc rv;have J:s.heap.IsTuple a B.toArray:=pl;obtain⟨y,e⟩:=hi.allInts.items
 have b:ns=y.toList.map (·.1):=by
  have z:=hi.numsOf;rw[<-nums_intItems,<-e];exact z.symm
 have d:0 < y.size:=by
  have L:0 < ns.length:=XX.mpr k;rw[b,Za,Zt] at L;exact L
 rw[e] at J;refine qd (I.ok.hd hc) J d λv h' T hv Y=>?_;obtain⟨t,rfl⟩:=V9 hv;obtain⟨b1,b2⟩:=argBest_gt (numAt y) (y.size - 1);have l:∀M:Int,M ∈ ns->(∀a,a ∈ ns->a<=M)->∃x H',Inv X c U H' { s with heap:=h',toks:=T }/\aB x (.int M t)/\Q x H':=λM z h2=>⟨.int (iO ns),H,I.kept Y,⟨t,by rw[Bw z h2]⟩,q⟩;refine l _ ?_ λa C=>?_
 ·rw[b,Uh];exact getD_mem (by rw[Za,Zt];omega)
 ·rw[b] at C;obtain⟨j,hj,rfl⟩:=mem_getD C;rw[Za,Zt] at hj;rw[<-Uh];exact b2 j (by omega)
abbrev nA(T:Bool)(d:List D)(S:Sto):Option (D × Sto):=match bK d with
 |some (n::ns)=>aw (.int (iO (n::ns)),S)
 |_=>aD
def zk(hc:X.calm=aN):aX X (.builtin "max") (r1 (rSq X.K nA)):=by
 refine aX.imp (aX.or (zi hc) (zj hc)) λk H Q h=>?_;obtain⟨_,rfl,m,S,T,l,a,v,d,j,R,rfl,sq,vd,e,q⟩:=cV h;unfold nA at e;split at e
 ·rename_i n ns hi;cases e;have b:=ci hi;subst b;have c:=bA vd;subst c;rcases jr sq with sq |sq
  ·exact .inl ⟨a,n::ns,rfl,sq,by simp,q m H _ (Aft.refl R) bp⟩
  ·exact .inr ⟨a,n::ns,rfl,sq,by simp,q m H _ (Aft.refl R) bp⟩
 ·cases e
end
abbrev Bx(c:Int):List Int->Int
 |[]=>c
 |n::ns=>iO (n::ns)
section
variable {X:Cx} {K:Vp} {m:List Addr} {H:Hp} {S:Sto}
abbrev fP(d:D)(S:Sto):Bool:=match d with
 |.ref n=>(aQ S n).isSome
 |_=>aS
abbrev isTup:D->Bool
 |.tup _=>aN
 |_=>aS
abbrev zl(c:D->Sto->Bool)(f:D->List D->Sto->Option (D × Sto))(x:XE)(y:XA):XE:=λj S=>bnd (x j S) λd b=>if c d b=aN then bnd (y j b) λl k=>f d l k else aD
abbrev rM(K:Vp)(f:D->List D->Sto->Option (D × Sto)):V->List V->Hp->VK->Prop:=λv l H Q=>∃m S a k d j,Rel K m S H/\VD K m H a v/\VDs K m H k l/\f a k S=aw (d,j)/\∀c b u,Aft K m H j c b->VD K c b d u->Q u b
def qe(hT:∀ {m H S d v},Rel K m S H->VD K m H d v->c d S=aN->tyV K T v H)(h:tE K (zl c f x y) U H Q):tBM K T (rM K f) (tE K x) (tAr K y) U H Q:=by
 obtain⟨m,C,S,d,O,E,R,e,q⟩:=h;obtain⟨a,k,J,e⟩:=ab e;split at e
 ·rename_i hc;obtain⟨z,l,Y,e⟩:=ab e;refine⟨m,C,S,a,k,E,R,J,λm1 H1 v b B=>⟨hT b.rel B hc,m1,C,k,z,l,E.mono R b.ext,b.rel,Y,λm2 H2 vs j I=>?_⟩⟩;exact⟨m2,l,a,z,d,O,j.rel,B.mono b.rel j.ext,I,e,λZ L u A3 vd=>q Z L u ((b.trans j).trans A3) vd⟩
 ·cases e
def Bz(R:Rel K m S H)(vd:VD K m H d v)(h:fP d S=aN):tyV K "list" v H:=by
 cases d with
 |ref n=>
  simp only[fP] at h;obtain⟨u,hs⟩:=Yg.mp h;obtain⟨p,l,k,c,j⟩:=R.seq hs;obtain⟨q,b,rfl⟩:=vd.refs;rw[k] at b;cases b;exact .inl ⟨rfl,l,c⟩
 |_=>cases h
def BA(R:Rel K m S H)(vd:VD K m H d v)(h:(λd (_:Sto)=>isTup d) d S=aN):tyV K "tuple" v H:=by
 cases d with
 |tup j=>
  obtain⟨a,c,rfl,b,_⟩:=vd.tups;exact .inr (.inl ⟨rfl,.inr ⟨c,b⟩⟩)
 |_=>cases h
abbrev chg(n:Nat)(S:Sto)(f:List D->Option (D × List D)):Option (D × Sto):=match S[n]? with
 |some (.lst ds)=>(f ds).map λr=>(r.1,S.set n (.lst r.2))
 |_=>aD
def sK{n:Nat}(h:chg n S f=aw (d,l)):∃b j,S[n]?=aw (.lst b)/\f b=aw (d,j)/\l=S.set n (.lst j):=by
 unfold chg at h;cases k:S[n]? with
 |none=>rw[k] at h;cases h
 |some o=>
  rw[k] at h;cases o with
  |lst b=>
   dsimp only at h;cases c:f b with
   |none=>rw[c] at h;cases h
   |some r=>rw[c] at h;cases h;exact⟨b,r.2,rfl,c,rfl⟩
  |_=>cases h
abbrev sL(d:D)(c:List D)(S:Sto):Option (D × Sto):=match d,c with
 |.ref n,[e]=>chg n S λb=>if b.length < 100000 then aw (.non,b++[e]) else aD
 |_,_=>aD
abbrev ia(d:D)(c:List D)(S:Sto):Option (D × Sto):=match d,c with
 |.ref n,[.int i]=>chg n S λb=>match ixN b.length i with
  |some k=>(b[k]?).map λx=>(x,b.eraseIdx k)
  |none=>aD
 |_,_=>aD
def vI{n:Nat}(R:Rel K m S H)(vd:VD K m H (.ref n) v)(k:S[n]?=aw (.lst j)):∃a vs,v = .ref a/\m[n]?=aw a/\H a=aw (.lst vs)/\VDs K m H j vs:=by
 obtain⟨a,vs,c,d,q⟩:=R.lst k;obtain⟨l,b,e⟩:=vd.refs;rw[c] at b;cases b;exact⟨a,vs,e,c,d,q⟩
def jw{n:Nat}(R:Rel K m S H)(d:m[n]?=aw a)(vd:VDs K m H c b):Aft K m H (S.set n (.lst c)) m (upd H a (.lst b)):=let ⟨x,y⟩:=R.write d vd;⟨x,y⟩
def K6:MtR X "list.append" (rM X.K sL):=by
 intro c s u H x T v U Q I l B h;refine nZ c s u H x T v U Q I l B ?_;obtain⟨m,S,a,as,d,S',R,O,J,e,q⟩:=h;unfold sL at e;split at e
 ·rename_i n z;obtain⟨ds,es,Y,j,rfl⟩:=sK e;split at j
  ·rename_i hl;cases j;obtain⟨p,C,rfl,k,L,b⟩:=vI R O Y;obtain⟨y,rfl,Z⟩:=Fo J;refine⟨p,C,y,rfl,rfl,L,by rw[Ut,<-b.length];lia,q m _ _ (jw R k (b.append (.cons Z .nil))) pV⟩
  ·cases j
 ·cases e
def sM:∀ {b:List D} {v:List V} (k:Nat),VDs K m H b v->VDs K m H (b.eraseIdx k) (v.eraseIdx k)
 |[],v,k,h=>by rw[VDs] at h;subst h;exact .nil
 |d::b,v,0,h=>by
  rw[VDs] at h;obtain⟨y,r,rfl,p,q⟩:=h;exact q
 |d::b,v,k+1,h=>by
  rw[VDs] at h;obtain⟨y,r,rfl,p,q⟩:=h;exact .cons p (sM k q)
def zm:MtR X "list.pop" (rM X.K ia):=by
 intro j s T H x xs v us Q I O Y h;refine AO j s T H x xs v us Q I O Y ?_;obtain⟨m,S,a,as,d,S',R,va,vs,e,q⟩:=h;unfold ia at e;split at e
 ·rename_i n i;obtain⟨B,es,hn,c,rfl⟩:=sK e;cases u:ixN B.length i with
  |none=>rw[u] at c;cases c
  |some k=>
   rw[u] at c;dsimp only at c;cases l:B[k]? with
   |none=>rw[l] at c;cases c
   |some z=>
    rw[l] at c;cases c;obtain⟨p,ws,rfl,L,C,b⟩:=vI R va hn;obtain⟨y,rfl,U⟩:=Fo vs;cases U.ints;obtain⟨y,hy,vy⟩:=b.get l;have A:=jw R L (sM k b);obtain⟨Z,h2,h3,h4⟩:=pH u;have hz:=(I.lst C).choose_spec.choose_spec.2.2;have J:=b.length;rw[Ut] at hz;exact⟨p,ws,i,k,y,rfl,rfl,C,by lia,by lia,by rw[<-b.length];exact Z,hy,q m _ _ A (vy.mono R A.ext)⟩
 ·cases e
abbrev vJ(d:D)(b:List D)(S:Sto):Option (D × Sto):=match d,b with
 |.tup ds,[x]=>if cL x=aN/\ds.all cL=aN then aw (.int (ds.countP λz=>eqF z x:Nat),S) else aD
 |_,_=>aD
def Ft:MtR X "tuple.count" (rM X.K vJ):=by
 intro c s u H x T v U Q I l C h;refine yV X.K rfl c s u H x T v U Q I l C ?_;obtain⟨m,S,a,as,d,Y,R,O,L,e,q⟩:=h;unfold vJ at e;split at e
 ·rename_i Z z;split at e
  ·rename_i j;cases e;obtain⟨p,J,rfl,B,b⟩:=O.tups;obtain⟨y,rfl,k⟩:=Fo L;exact⟨p,J,y,rfl,rfl,.of B,kI k j.1,iL b j.2,q m H _ (Aft.refl R) (by rw[oi k j.1 b j.2];exact bp)⟩
  ·cases e
 ·cases e
abbrev jx(o i v:D)(S:Sto):Option Sto:=match o,i with
 | .ref n,.int k=>(match S[n]? with
  |some (.lst ds)=>(ixN ds.length k).map λj=>S.set n (.lst (ds.set j v))
  | _=>aD)
 |o,i=>Bg o i v S
abbrev PJ(K:Vp):Ez:=λo i v H Q=>∃m S a b c j,Rel K m S H/\VD K m H a o/\VD K m H b i/\VD K m H c v/\jx a b c S=aw j/\∀k d,Aft K m H j k d->Q d
def PL(hu:X.A.units+64 < cLine):J9 X (PJ X.K):=by
 intro l s σ H o i v ov iv u Q I T C J h;obtain⟨m,S,a,b,c,S',R,U,B,L,e,q⟩:=h;unfold jx at e;split at e
 ·rename_i n k;cases y:S[n]? with
  |none=>rw[y] at e;cases e
  |some ob=>
   rw[y] at e;cases ob with
   |lst O=>
    dsimp only at e;cases z:ixN O.length k with
    |none=>rw[z] at e;cases e
    |some j=>
     rw[z] at e;cases e;obtain⟨p,ws,rfl,hp,hH,d⟩:=vI R U y;cases B.ints;exact AN l s σ H _ _ v ov iv u Q I T C J ⟨p,ws,k,j,rfl,rfl,hH,by rw[<-d.length];exact z,q m _ (jw R hp (d.set L))⟩
   |_=>cases e
 ·obtain⟨k,n,Z,O,hk,rfl,y,hl,rfl⟩:=yX e;obtain⟨a,b,Y,rfl,rfl,g,A⟩:=Fg R hk y hl B U L;cases T;cases C;exact yU (show X.A.units+2 < cLine by lia) I g rfl J λs' I'=>⟨Y,I',q m Y A⟩
end
@[inline]abbrev Nxt:=Nat->Sto->Option (Option D)
@[inline]abbrev XI:=Rho->Sto->Option (Nxt × Sto)
structure ExtB(B:List Addr)(m:List Addr)(H:Hp)(m':List Addr)(H':Hp):Prop where
 pre:m <+: m'
 keep:∀a o,H a=aw o->a ∉ m->a ∉ B->H' a=aw o
 new:∀a,a ∈ m'->a ∉ m->H a=aD
 nb:∀b,b ∈ B->b ∉ m'
abbrev AtB(B:List Addr)(m:List Addr)(H:Hp):Prop:=∀b,b ∈ B->(∃v,H b=aw (.lst v))/\b ∉ m
def Ext.toB(c:AtB B m H)(x:Ext m H d H'):ExtB B m H d H':=⟨x.pre,λa o h n _=>x.keep a o h n,x.new,λb hb z=>by
 obtain⟨⟨v,e⟩,n⟩:=c b hb;have:=x.new b z n;rw[e] at this;cases this⟩
def ExtB.trans(x:ExtB B m H m1 c)(y:ExtB B m1 c d H2):ExtB B m H d H2:=by
 refine⟨x.pre.trans y.pre,λa o h n nb=>?_,λa h n=>?_,y.nb⟩
 ·have j:a ∉ m1:=λz=>by have:=x.new a z n;rw[this] at h;cases h
  exact y.keep a o (x.keep a o h n nb) j nb
 ·by_cases b:a ∈ m1
  ·exact x.new a b n
  ·cases e:H a with
   |none=>rfl
   |some o=>
    by_cases hb:a ∈ B
    ·exact absurd h (y.nb a hb)
    ·have:=x.keep a o e n hb;rw[y.new a h b] at this;cases this
def AtB.ext(c:AtB B m H)(x:Ext m H d H'):AtB B d H':=λb hb=>by
 obtain⟨⟨v,e⟩,n⟩:=c b hb;exact⟨⟨v,x.keep _ _ e n⟩,(x.toB c).nb b hb⟩
abbrev IOk(K:Vp)(B:List Addr)(J:It)(nx:Nxt)(m0:List Addr)(c:Hp):Prop:=∀ (m:List Addr) (S:Sto) (H:Hp) (i:Nat),ExtB B m0 c m H->Rel K m S H ->
 (nx i S=aw aD->J.stop i H)/\(∀d,nx i S=aw (aw d)->J.go i H/\∀x b,J.yld i H x b->Aft K m H S m b/\VD K m b d x)
abbrev tIt(K:Vp)(B:List Addr)(x:XI):TI:=λk H R=>∃m d S nx j,EnvR K m H d k/\Rel K m S H/\AtB B m H/\x d S=aw (nx,j)/\∀c b J,Aft K m H j c b->IOk K B J nx c b->R J b
abbrev nxL(d:List D):Nxt:=λi _=>aw d[i]?
abbrev nxS(n:Nat):Nxt:=λi S=>(aQ S n).map λd=>d[i]?
abbrev nxR(lo:Int)(n:Nat):Nxt:=λi _=>aw (if i < n then aw (.int (lo+i)) else aD)
abbrev xf(i:Nat)(d:D):D:=.tup [.int i,d]
abbrev enm(d:List D)(i:Nat):Option (Option D):=if i<=d.length then aw (d[i]?.map (xf i)) else aD
abbrev Fu(d:List D):Nxt:=λi _=>enm d i
section
variable {X:Cx} {K:Vp} {m B:List Addr} {H:Hp} {S:Sto}
def Fv(R:Rel K m0 d b)(c:AtB B m0 b)(x:ExtB B m0 b m H)(h:b a=aw (.tup xs)):H a=aw (.tup xs):=x.keep _ _ h (R.notTup h) λz=>by
 obtain⟨⟨v,e⟩,_⟩:=c a z;rw[e] at h;cases h
def VDs.monoB(R:Rel K m0 j b)(c:AtB B m0 b)(x:ExtB B m0 b m H)(h:VDs K m0 b d vs):VDs K m H d vs:=VDs.mono0 x.pre (λ_ _=>Fv R c x) h
def VD.monoB(R:Rel K m0 j b)(c:AtB B m0 b)(x:ExtB B m0 b m H)(h:VD K m0 b d v):VD K m H d v:=VD.mono0 x.pre (λ_ _=>Fv R c x) h
def EnvR.monoB(R:Rel K m0 k b)(c:AtB B m0 b)(x:ExtB B m0 b m H)(h:EnvR K m0 b j σ):EnvR K m H j σ:=
 ⟨h.len,λi d e=>let ⟨v,p,q⟩:=h.at_ i d e;⟨v,p,VD.monoB R c x q⟩⟩
def sN(h:∀m S H i o,ExtB B m0 H0 m H->Rel K m S H->nx i S=aw o->∃j b,o=j[i]?/\SqL K H a b/\VDs K m H j b):IOk K B (Itl K a) nx m0 H0:=by
 intro m S H i x R;refine⟨λe=>?_,λd e=>?_⟩
 ·obtain⟨j,b,k,c,vd⟩:=h m S H i _ x R e;exact⟨b,c,by rw[<-vd.length];exact Ye.mp k.symm⟩
 ·obtain⟨j,b,k,c,vd⟩:=h m S H i _ x R e;obtain⟨v,l,u⟩:=vd.get k.symm;refine⟨⟨b,v,c,l⟩,λy C ⟨z,q⟩=>?_⟩;subst z;have:=q b c;rw[l] at this;cases this;exact⟨Aft.refl R,u⟩
def Fw(l:Rel K m0 J H0)(j:AtB B m0 H0)(q:H0 a=aw (.tup vs))(vd:VDs K m0 H0 C vs):IOk K B (Itt K a) (nxL C) m0 H0:=by
 intro m S H i x R;have b:SqT K H a vs:=.of (Fv l j x q);have c:=vd.monoB l j x;refine⟨λe=>⟨vs,b,?_⟩,λd e=>?_⟩
 ·rw[<-c.length];exact Ye.mp (Option.some.inj e)
 ·obtain⟨v,k,u⟩:=c.get (Option.some.inj e);refine⟨⟨vs,v,b,k⟩,λy L ⟨I,z⟩=>?_⟩;subst I;have:=z vs b;rw[k] at this;cases this;exact⟨Aft.refl R,u⟩
def xl{lo:Int}{n:Nat}:IOk K B (Itr lo n) (nxR lo n) m0 H0:=by
 intro m S H i x R;unfold nxR;refine⟨λe=>?_,λd e=>?_⟩
 ·split at e
  ·cases e
  ·show n<=i;lia
 ·split at e
  ·rename_i hi;cases e;exact⟨hi,λy j ⟨c,b⟩=>by subst c;subst b;exact⟨Aft.refl R,bp⟩⟩
  ·cases e
def Fx(h:∀m S H i o,ExtB B m0 H0 m H->Rel K m S H->nx i S=aw o->∃j c,enm j i=aw o/\l K H a c/\VDs K m H j c):IOk K B (Ite K a l) nx m0 H0:=by
 intro m S H i x R;refine⟨λe=>?_,λd e=>?_⟩
 ·obtain⟨j,c,b,k,vd⟩:=h m S H i _ x R e;unfold enm at b;split at b
  ·rename_i Q;refine⟨c,k,?_⟩;rw[<-vd.length];cases hd:j[i]? with
   |none=>have:=Ye.mp hd;lia
   |some z=>rw[hd] at b;cases b
  ·cases b
 ·obtain⟨j,c,b,k,vd⟩:=h m S H i _ x R e;unfold enm at b;split at b
  ·cases hd:j[i]? with
   |none=>rw[hd] at b;cases b
   |some z=>
    rw[hd] at b;cases b;obtain⟨v,q,I⟩:=vd.get hd;refine⟨⟨c,v,k,q⟩,λy U ⟨T,u,J,O⟩=>?_⟩;subst J;have L:=O c v k q;subst L;have C:=Ext.beside R u (.tup [.int i,v]);exact⟨⟨C,R.beside u _⟩,lH az (.cons bp (.cons (I.mono R C) .nil))⟩
  ·cases b
abbrev Te(d:D):Option Nxt:=match d with
 |.tup ds=>aw (nxL ds)
 |.ref n=>aw (nxS n)
 |_=>aD
abbrev xIV(x:XE):XI:=λc S=>bnd (x c S) λd b=>match d with
 |.tup ds=>aw (nxL ds,b)
 |.ref n=>if (aQ b n).isSome=aN then aw (nxS n,b) else aD
 |_=>aD
abbrev xIT(x:XA):XI:=λc S=>bnd (x c S) λd b=>aw (nxL d,b)
abbrev xEV(x:XE):XI:=λc S=>bnd (x c S) λd b=>match d with
 |.tup ds=>aw (Fu ds,b)
 |_=>aD
abbrev lim(i:Int):Bool:=decide (-(2 ^ 62)<=i) && decide (i < 2 ^ 62)
abbrev xR1(x:XE):XI:=λc S=>bnd (x c S) λd b=>match d with
 |.int j=>if lim j=aN then aw (nxR 0 j.toNat,b) else aD
 |_=>aD
abbrev xR2(x y:XE):XI:=λb S=>bnd (x b S) λd c=>bnd (y b c) λe k=>match d,e with
 |.int i,.int j=>if lim i=aN/\lim j=aN then aw (nxR i (j - i).toNat,k) else aD
 |_,_=>aD
def fQ{i:Int}(h:lim i=aN):-(2 ^ 62)<=i/\i < 2 ^ 62:=by simpa[lim] using h
def xm{n:Nat}(j:m0[n]?=aw a)(x:m0 <+: m)(R:Rel K m S H)(hs:aQ S n=aw d):∃vs,SqL K H a vs/\VDs K m H d vs:=by
 obtain⟨p,vs,b,c,vd⟩:=R.seq hs;have:=pR x j;rw[this] at b;cases b;exact⟨vs,c,vd⟩
def Su(b:AtB B m H)(h:H a=aD):a ∉ B:=λz=>by
 obtain⟨⟨v,e⟩,_⟩:=b a z;rw[h] at e;cases e
def Sv(h:tIt K B (xIV x) Q H R):AA K (tE K x) Q H R\/Pc K (tE K x) Q H R:=by
 obtain⟨m,T,S,nx,S',E,O,hB,e,q⟩:=h;obtain⟨d,S1,L,e⟩:=ab e;cases d with
 |tup ds=>
  cases e;refine .inr ⟨m,T,S,_,_,E,O,L,λm1 l v b vd=>?_⟩;obtain⟨a,C,rfl,k,c⟩:=vd.tups;exact⟨a,rfl,⟨C,.of k⟩,q m1 l _ b (Fw b.rel (hB.ext b.ext) k c)⟩
 |ref n=>
  dsimp only at e;split at e
  ·rename_i hs;cases e;refine .inl ⟨m,T,S,_,_,E,O,L,λm1 l v b vd=>?_⟩;obtain⟨a,J,rfl⟩:=vd.refs;obtain⟨ds,y⟩:=Yg.mp hs;obtain⟨C,k,c⟩:=xm J (Yk _) b.rel y;refine⟨a,rfl,⟨C,k⟩,q m1 l _ b (sN λm2 Y H2 i o x2 R2 j=>?_)⟩;unfold nxS at j;cases I:aQ Y n with
   |none=>rw[I] at j;cases j
   |some U=>
    rw[I] at j;cases j;obtain⟨Z,z,u⟩:=xm J x2.pre R2 I;exact⟨U,Z,rfl,z,u⟩
  ·cases e
 |_=>cases e
def Sw(h:tIt K B (xIT x) z H R):AA K (fB K x) z H R:=by
 obtain⟨m,L,S,nx,T,E,y,d,e,q⟩:=h;obtain⟨I,O,u,e⟩:=ab e;cases e;refine⟨m,L,S,_,_,E,y,u,λm1 k a v b c J U l vd=>⟨a,rfl,⟨v,.of c⟩,q m1 k _ b (sN λZ Q Y i o j R2 C=>?_)⟩⟩;cases C;exact⟨I,v,rfl,.of (j.keep _ _ c J (Su d l)),vd.monoB b.rel (d.ext b.ext) j⟩
def PM(h:tIt K B (xEV x) I H R):Py K (cf (tE K x) jh) I H R:=by
 obtain⟨m,O,S,nx,U,E,C,k,e,q⟩:=h;obtain⟨d,Q,z,e⟩:=ab e;cases d with
 |tup L=>
  cases e;refine⟨m,O,S,_,_,E,C,z,λm1 y v b vd=>?_⟩;obtain⟨a,u,rfl,j,c⟩:=vd.tups;refine⟨a,u,rfl,.of j,q m1 y _ b (Fx λZ T Y i o l R2 J=>⟨L,u,J,.of (Fv b.rel (k.ext b.ext) l j),c.monoB b.rel (k.ext b.ext) l⟩)⟩
 |_=>cases e
def PN(h:tIt K B (xR1 x) C H R):IR (cf (tE K x) jh) C H R:=by
 obtain⟨m,y,S,nx,J,E,z,I,e,q⟩:=h;obtain⟨d,c,u,e⟩:=ab e;refine⟨m,y,S,d,c,E,z,u,λm1 k v l vd=>?_⟩;cases d with
 |int j=>
  dsimp only at e;split at e
  ·rename_i b;cases e;exact⟨j,by rw[vd.ints],(fQ b).1,(fQ b).2,q m1 k _ l xl⟩
  ·cases e
 |_=>cases e
def PP(h:tIt K B (xR2 x y) J H R):IS (cf (tE K x) (cf (tE K y) jh)) J H R:=by
 obtain⟨m,z,S,nx,Z,E,u,hB,e,q⟩:=h;obtain⟨d,l,C,e⟩:=ab e;obtain⟨c,I,L,e⟩:=ab e;refine⟨m,z,S,d,l,E,u,C,λm1 Y v k vd=>⟨m1,z,l,c,I,E.mono u k.ext,k.rel,L,λU Q w T O=>?_⟩⟩;cases d with
 |int i=>
  cases c with
  |int j=>
   dsimp only at e;split at e
   ·rename_i b;cases e;exact⟨i,j,by rw[vd.ints,O.ints],⟨(fQ b.1).1,(fQ b.1).2,(fQ b.2).1,(fQ b.2).2⟩,q U Q _ (k.trans T) xl⟩
   ·cases e
  |_=>cases e
 |_=>cases e
inductive Tg where
 |name (i:Nat) |tup (ts:List Tg)
mutual
noncomputable def aC:Tg->D->Rho->Option Rho
 |.name i,d,ρ=>if i < ρ.length then aw (ρ.set i (aw d)) else aD
 |.tup ts,.tup ds,ρ=>aO ts ds ρ
 |_,_,_=>aD
noncomputable def aO:List Tg->List D->Rho->Option Rho
 |[],[],ρ=>aw ρ
 |t::ts,d::ds,ρ=>match aC t d ρ with
  |some b=>aO ts ds b
  |none=>aD
 |_,_,_=>aD
end
abbrev tTg(K:Vp)(t:Tg):TG:=λx k H Q=>∃m S j d b,Rel K m S H/\EnvR K m H j k/\VD K m H d x/\aC t d j=aw b/\∀c,EnvR K m H b c->Q c H
abbrev BC(K:Vp)(T:List Tg):TGs:=λk l H Q=>∃m S d j b,Rel K m S H/\EnvR K m H d l/\VDs K m H j k/\aO T j d=aw b/\∀c,EnvR K m H b c->Q c H
def EnvR.set{i:Nat}(E:EnvR K m H k q)(h:VD K m H d v):EnvR K m H (k.set i (aw d)) (q.set i (aw v)):=by
 refine⟨by simp[E.len],λj c e=>?_⟩;rw[Yv] at e;rw[Yv,<-E.len];by_cases b:i=j
 ·rw[if_pos b] at e ⊢;split at e
  ·rename_i l;rw[if_pos l];cases e;exact⟨v,rfl,h⟩
  ·cases e
 ·rw[if_neg b] at e ⊢;exact E.at_ j c e
def qf{i:Nat}(h:tTg K (.name i) x c H Q):rO i x c H Q:=by
 obtain⟨m,S,j,d,b,R,E,vd,e,q⟩:=h;simp only[aC] at e;split at e
 ·cases e;exact q _ (E.set vd)
 ·cases e
def K7{n:Nat}(l:n=T.length)(h:tTg K (.tup T) x u H Q):O9 K n (BC K T) x u H Q:=by
 obtain⟨m,S,j,d,b,R,E,vd,e,q⟩:=h;cases d with
 |tup c=>
  simp only[aC] at e;obtain⟨a,y,rfl,k,v⟩:=vd.tups;refine⟨a,y,rfl,.of k,?_,m,S,j,c,b,R,E,v,e,q⟩
  have len:∀ (T:List Tg) (c:List D) (j b:Rho),aO T c j=aw b->T.length=c.length:=by
   intro T
   induction T with
   |nil=>intro c j b e;cases c with |nil=>rfl |cons _ _=>simp[aO] at e
   |cons t T I=>
    intro c j b e;cases c with
    |nil=>simp[aO] at e
    |cons d c=>
     simp only[aO] at e;split at e
     ·simp[I _ _ _ e]
     ·cases e
  rw[l,<-v.length];exact(len _ _ _ _ e).symm
 |_=>simp[aC] at e
def Fy(h:BC K [] xs c H Q):O8 xs c H Q:=by
 obtain⟨m,S,j,d,b,R,E,vd,e,q⟩:=h;cases d with
 |nil=>simp[aO] at e;subst e;rw[VDs] at vd;exact⟨vd,q _ E⟩
 |cons _ _=>simp[aO] at e
def BD(h:BC K (t::T) xs v H Q):IQ (tTg K t) (BC K T) xs v H Q:=by
 obtain⟨m,S,k,j,c,R,E,vd,e,q⟩:=h;cases j with
 |nil=>simp[aO] at e
 |cons d j=>
  simp only[aO] at e;rw[VDs] at vd;obtain⟨y,r,rfl,p,u⟩:=vd;cases hb:aC t d k with
  |none=>rw[hb] at e;cases e
  |some b=>
   rw[hb] at e;exact⟨y,r,rfl,m,S,k,d,b,R,E,p,hb,λl z=>⟨m,S,b,j,c,R,z,u,e,q⟩⟩
def PG.imp(h:PG X e t)(f:∀x c H Q,t' x c H Q->t x c H Q):PG X e t':=λb s c H v u Q I r q=>h b s c H v u Q I r (f v c H Q q)
def PGs.imp(h:PGs X d t)(f:∀x c H Q,t' x c H Q->t x c H Q):PGs X d t':=λb s c H v u Q I r q=>h b s c H v u Q I r (f v c H Q q)
end
inductive Fl where
 |nx |bk |ct |rt (d:D)
@[inline]abbrev XS:=Rho->Sto->Option (Fl × Rho × Sto)
abbrev BE(K:Vp)(m:List Addr)(H:Hp)(j:Fl)(c:Rho)(D:Ends):Prop:=match j with
 |.nx=>∀b,EnvR K m H c b->D.nx b H
 |.bk=>∀b,EnvR K m H c b->D.bk b H
 |.ct=>∀b,EnvR K m H c b->D.ct b H
 |.rt d=>∀v,VD K m H d v->D.rt v H
abbrev tSt(K:Vp)(x:XS):TS:=λD q H=>∃m d S c b k,EnvR K m H d q/\Rel K m S H/\x d S=aw (c,b,k)/\∀l j,Aft K m H k l j->BE K l j c b D
section
variable {X:Cx} {K:Vp} {m:List Addr} {H:Hp} {S:Sto}
abbrev BF(x y:XS):XS:=λb S=>match x b S with
 |none=>aD
 |some (.nx,ρ1,S1)=>y ρ1 S1
 |some r=>aw r
abbrev Jb:XS:=λb S=>aw (.nx,b,S)
def Fz{D:Ends}{b:L2.St}{H:Hp}(h:tSt K Jb D b H):IL D b H:=by
 obtain⟨m,j,S,d,c,k,E,R,e,q⟩:=h;cases e;exact q m H (Aft.refl R) b E
def K8{x y:XS}{D:Ends}{v:L2.St}{H:Hp}(h:tSt K (BF x y) D v H):O5 (tSt K x) (tSt K y) D v H:=by
 obtain⟨m,B,S,L,k,C,E,R,e,q⟩:=h;unfold BF at e;cases l:x B S with
 |none=>rw[l] at e;cases e
 |some r=>
  obtain⟨z,c,u⟩:=r;rw[l] at e;refine⟨m,B,S,z,c,u,E,R,l,λm1 j b=>?_⟩;cases z with
  |nx=>exactλI Q=>⟨m1,c,u,L,k,C,Q,b.rel,e,λT J O=>q T J (b.trans O)⟩
  |bk=>cases e;exact q m1 j b
  |ct=>cases e;exact q m1 j b
  |rt d=>cases e;exact q m1 j b
abbrev sO(x:XE):XS:=λb S=>match x b S with
 |none=>aD
 |some (_,S1)=>aw (.nx,b,S1)
abbrev BG(x:XE):XS:=λb S=>match x b S with
 |none=>aD
 |some (d,S1)=>aw (.rt d,b,S1)
abbrev PQ:XS:=λb S=>aw (.ct,b,S)
def FA{x:XE}{D:Ends}{c:L2.St}{H:Hp}(h:tSt K (sO x) D c H):IP (tE K x) D c H:=by
 obtain⟨m,k,S,z,l,B,E,R,e,q⟩:=h;unfold sO at e;cases b:x k S with
 |none=>rw[b] at e;cases e
 |some r=>
  obtain⟨d,y⟩:=r;rw[b] at e;cases e;exact⟨m,k,S,d,_,E,R,b,λm1 u v j _=>q m1 u j c (E.mono R j.ext)⟩
def K9{x:XE}{D:Ends}{j:L2.St}{H:Hp}(h:tSt K (BG x) D j H):J7 (tE K x) D j H:=by
 obtain⟨m,c,S,z,k,B,E,R,e,q⟩:=h;unfold BG at e;cases b:x c S with
 |none=>rw[b] at e;cases e
 |some r=>
  obtain⟨d,y⟩:=r;rw[b] at e;cases e;exact⟨m,c,S,d,_,E,R,b,λm1 l v u vd=>q m1 l u v vd⟩
def La{D:Ends}{b:L2.St}{H:Hp}(h:tSt K PQ D b H):IM D b H:=by
 obtain⟨m,j,S,d,c,k,E,R,e,q⟩:=h;cases e;exact q m H (Aft.refl R) b E
abbrev xIf(c:XT)(x y:XS):XS:=λd S=>match c d S with
 |none=>aD
 |some (b,S1)=>if b=aN then x d S1 else y d S1
def PR{c:XT}{x y:XS}{D:Ends}{J:L2.St}{H:Hp}(h:tSt K (xIf c x y) D J H):O6 (tT K c) (tSt K x) (tSt K y) D J H:=by
 obtain⟨m,k,S,C,j,I,E,R,e,q⟩:=h;unfold xIf at e;cases z:c k S with
 |none=>rw[z] at e;cases e
 |some r=>
  obtain⟨b,l⟩:=r;rw[z] at e;dsimp only at e;refine⟨m,k,S,b,l,E,R,z,λm1 L d=>?_⟩;dsimp only;split
  ·rename_i hb;rw[if_pos hb] at e;exact⟨m1,k,l,C,j,I,E.mono R d.ext,d.rel,e,λB u v=>q B u (d.trans v)⟩
  ·rename_i hb;rw[if_neg hb] at e;exact⟨m1,k,l,C,j,I,E.mono R d.ext,d.rel,e,λB u v=>q B u (d.trans v)⟩
abbrev nB(x:XE)(t:Tg):XS:=λc S=>match x c S with
 |none=>aD
 |some (d,S1)=>(aC t d c).map λb=>(.nx,b,S1)
def vK{x:XE}{t:Tg}{D:Ends}{l:L2.St}{H:Hp}(h:tSt K (nB x t) D l H):Ay (tE K x) (tTg K t) D l H:=by
 obtain⟨m,b,S,I,u,J,E,R,e,q⟩:=h;unfold nB at e;cases k:x b S with
 |none=>rw[k] at e;cases e
 |some r=>
  obtain⟨d,C⟩:=r;rw[k] at e;dsimp only at e;cases hb:aC t d b with
  |none=>rw[hb] at e;cases e
  |some z=>
   rw[hb] at e;cases e;exact⟨m,b,S,d,_,E,R,k,λm1 y v j vd=>⟨m1,_,b,d,_,j.rel,E.mono R j.ext,vd,hb,λc B=>q m1 y j c B⟩⟩
abbrev sP(v o i:XE):XS:=λb S=>match v b S with
 |none=>aD
 |some (dv,S1)=>match o b S1 with
  |none=>aD
  |some (d_o,S2)=>match i b S2 with
   |none=>aD
   |some (di,S3)=>(jx d_o di dv S3).map λc=>(.nx,b,c)
def FB{v o i:XE}{D:Ends}{y:L2.St}{H:Hp}(h:tSt K (sP v o i) D y H):Ay (tE K v) (Pa (tE K o) (tE K i) (PJ K)) D y H:=by
 obtain⟨m,d,S,fl,ρ',S',E,R,e,q⟩:=h;unfold sP at e;cases I:v d S with
 |none=>rw[I] at e;cases e
 |some r1=>
  obtain⟨z,k⟩:=r1;rw[I] at e;dsimp only at e;cases O:o d k with
  |none=>rw[O] at e;cases e
  |some r2=>
   obtain⟨J,l⟩:=r2;rw[O] at e;dsimp only at e;cases C:i d l with
   |none=>rw[C] at e;cases e
   |some Z=>
    obtain⟨L,T⟩:=Z;rw[C] at e;dsimp only at e;cases h4:jx J L z T with
    |none=>rw[h4] at e;cases e
    |some S4=>
     rw[h4] at e;cases e;refine⟨m,d,S,z,k,E,R,I,λm1 H1 v1 b Q=>⟨m1,d,k,J,l,E.mono R b.ext,b.rel,O,λm2 H2 v2 c B=>⟨m2,d,l,L,T,E.mono R (b.trans c).ext,c.rel,C,λm3 H3 v3 j u=>?_⟩⟩⟩;exact⟨m3,T,J,L,z,_,j.rel,B.mono c.rel j.ext,u,Q.mono b.rel (c.trans j).ext,h4,λm4 Y U=>q m4 Y (((b.trans c).trans j).trans U) y (E.mono R (((b.trans c).trans j).trans U).ext)⟩
abbrev fC(nx:Nxt)(T:Tg)(b:XS):Nat->Nat->XS
 |0,_=>λ_ _=>aD
 |k+1,i=>λj S=>match nx i S with
  |none=>aD
  |some aD=>aw (.nx,j,S)
  |some (aw d)=>match aC T d j with
   |none=>aD
   |some c=>match b c S with
    |none=>aD
    |some (.nx,ρ2,S2)=>fC nx T b k (i+1) ρ2 S2
    |some (.ct,ρ2,S2)=>fC nx T b k (i+1) ρ2 S2
    |some (.bk,ρ2,S2)=>aw (.nx,ρ2,S2)
    |some (.rt d,ρ2,S2)=>aw (.rt d,ρ2,S2)
abbrev BH(it:XI)(T:Tg)(b:XS)(k:Nat):XS:=λc S=>match it c S with
 |none=>aD
 |some (nx,S1)=>fC nx T b k 0 c S1
abbrev lpW(K:Vp)(nx:Nxt)(T:Tg)(b:XS)(m1:List Addr)(v:Hp)(D:Ends)(i k:Nat)(y:L2.St)(H:Hp):Prop:=∃m j S d c q,EnvR K m H j y/\Rel K m S H/\Ext m1 v m H/\fC nx T b k i j S=aw (d,c,q)/\∀u l,Aft K m H q u l->BE K u l d c D
def FC{nx:Nxt}{Z:Tg}{b:XS}{J:It}{m1:List Addr}{H1:Hp}{D:Ends}(hI:IOk K [] J nx m1 H1)(k:Nat){m:List Addr}{T:Rho}{S:Sto}{l:L2.St}{H:Hp}{Q:Fl}{c:Rho}{O:Sto}(E:EnvR K m H T l)(R:Rel K m S H)(x:Ext m1 H1 m H)(e:fC nx Z b k 0 T S=aw (Q,c,O))(q:∀Y j,Aft K m H O Y j->BE K Y j Q c D) :
  ∃W:Nat->Nat->L2.St->Hp->Prop,(∃m,W 0 m l H)/\∀i m l H,W i m l H ->
   (J.stop i H/\D.nx l H)\/(J.go i H/\∃N:L2.St->Hp->Prop,(∀C j,N C j->∃Y,Y < m/\W (i+1) Y C j)/\∀x j,J.yld i H x j->tTg K Z x l j λU H2=>tSt K b { D with nx:=N,ct:=N,bk:=D.nx } U H2):=by
 refine⟨lpW K nx Z b m1 H1 D,⟨k,m,T,S,Q,c,O,E,R,x,e,q⟩,?_⟩;intro i k l H z;obtain⟨m,T,S,Q,c,O,E,R,x,e,q⟩:=z;cases k with
 |zero=>simp[fC] at e
 |succ k=>
  simp only[fC] at e;cases hn:nx i S with
  |none=>rw[hn] at e;cases e
  |some o=>
   rw[hn] at e;obtain⟨h1,h2⟩:=hI m S H i (x.toB λb hb=>absurd hb (by simp)) R;cases o with
   |none=>cases e;exact .inl ⟨h1 hn,q m H (Aft.refl R) l E⟩
   |some d=>
    obtain⟨go,hy⟩:=h2 d hn;dsimp only at e;cases hb:aC Z d T with
    |none=>rw[hb] at e;cases e
    |some I=>
     rw[hb] at e;dsimp only at e;cases hx:b I S with
     |none=>rw[hx] at e;cases e
     |some r=>
      obtain⟨f2,B,S2⟩:=r;rw[hx] at e;refine .inr ⟨go,lpW K nx Z b m1 H1 D (i+1) k,λC j z=>⟨k,Xg k,z⟩,λy j yl=>?_⟩;obtain⟨A,vd⟩:=hy y j yl;refine⟨m,S,T,d,I,A.rel,E.mono R A.ext,vd,hb,λU E2=>⟨m,I,S,f2,B,S2,E2,A.rel,hx,λm3 H3 u=>?_⟩⟩;cases f2 with
      |nx=>exactλL E3=>⟨m3,B,S2,Q,c,O,E3,u.rel,(x.trans A.ext).trans u.ext,e,λm4 H4 A4=>q m4 H4 ((A.trans u).trans A4)⟩
      |ct=>exactλL E3=>⟨m3,B,S2,Q,c,O,E3,u.rel,(x.trans A.ext).trans u.ext,e,λm4 H4 A4=>q m4 H4 ((A.trans u).trans A4)⟩
      |bk=>cases e;exactλL E3=>q m3 H3 (A.trans u) L E3
      |rt d=>cases e;exactλv vd=>q m3 H3 (A.trans u) v vd
def Lb{it:XI}{T:Tg}{b:XS}{k:Nat}{D:Ends}{j:L2.St}{H:Hp}(h:tSt K (BH it T b k) D j H):Pd (tIt K [] it) (tTg K T) (tSt K b) D j H:=by
 obtain⟨m,d,S,I,l,L,E,R,e,q⟩:=h;unfold BH at e;cases hi:it d S with
 |none=>rw[hi] at e;cases e
 |some r=>
  obtain⟨nx,u⟩:=r;rw[hi] at e;exact⟨m,d,S,nx,u,E,R,λb hb=>absurd hb (by simp),hi,λm1 C J c z=>FC z k (E.mono R c.ext) c.rel (Ext.refl _ _) e λB v y=>q B v (c.trans y)⟩
end
mutual
noncomputable def dA:Tg->Rho->Bool
 |.name i,ρ=>match ρ[i]? with
  |some aD=>aN
  |_=>aS
 |.tup ts,ρ=>fR ts ρ
noncomputable def fR:List Tg->Rho->Bool
 |[],_=>aN
 |t::ts,ρ=>dA t ρ && fR ts ρ
end
structure LeR(ρ ρ':Rho):Prop where
 len:ρ.length=ρ'.length
 at_:∀ (i:Nat) (d:D),ρ[i]?=aw (aw d)->ρ'[i]?=aw (aw d)
def LeR.refl(ρ:Rho):LeR ρ ρ:=⟨rfl,λ_ _ h=>h⟩
mutual
theorem sQ:∀ {t:Tg} {d:D} {k b:Rho},LeR c k->dA t c=aN->aC t d k=aw b->LeR c b
 |.name i,d,k,b,l,f,e=>by
  simp only[aC] at e;split at e
  ·cases e;refine⟨by simp[l.len],λj u h=>?_⟩;rw[Yv];by_cases q:i=j
   ·subst q;simp only[dA] at f;rw[h] at f;cases f
   ·rw[if_neg q];exact l.at_ j u h
  ·cases e
 |.tup ts,.tup ds,k,b,l,f,e=>by
  simp only[aC] at e;simp only[dA] at f;exact om l f e
 |.tup ts,.non,_,_,_,_,e=>by simp[aC] at e
 |.tup ts,.bl _,_,_,_,_,e=>by simp[aC] at e
 |.tup ts,.int _,_,_,_,_,e=>by simp[aC] at e
 |.tup ts,.str _,_,_,_,_,e=>by simp[aC] at e
 |.tup ts,.ref _,_,_,_,_,e=>by simp[aC] at e
theorem om:∀ {T:List Tg} {k:List D} {c b:Rho},LeR j c->fR T j=aN->aO T k c=aw b->LeR j b
 |[],[],c,b,l,_,e=>by simp only[aO] at e;cases e;exact l
 |[],_::_,_,_,_,_,e=>by simp[aO] at e
 |_::_,[],_,_,_,_,e=>by simp[aO] at e
 |t::T,d::k,c,b,l,f,e=>by
  simp only[aO] at e;simp only[fR,bAE] at f;cases hb:aC t d c with
  |none=>rw[hb] at e;cases e
  |some q=>rw[hb] at e;exact om (sQ l f.1 hb) f.2 e
end
section
variable {X:Cx} {K:Vp} {m:List Addr} {H:Hp} {S:Sto}
def EnvR.weaken(E:EnvR K m H b σ)(l:LeR c b):EnvR K m H c σ:=⟨l.len.trans E.len,λi d h=>E.at_ i d (l.at_ i d h)⟩
abbrev bq(nx:Nxt)(T:Tg)(c:XA)(j:Rho):Nat->Nat->Sto->Option (List D × Sto)
 |0,_,_=>aD
 |k+1,i,S=>match nx i S with
  |none=>aD
  |some aD=>aw ([],S)
  |some (aw d)=>match aC T d j with
   |none=>aD
   |some b=>bnd (c b S) λq l=>bnd (bq nx T c j k (i+1) l) λv u=>aw (q++v,u)
abbrev BI(t:XT)(c:XA):XA:=λj S=>bnd (t j S) λb d=>if b=aN then c j d else aw ([],d)
abbrev Jc(x:XE):XA:=λc S=>bnd (x c S) λd b=>aw ([d],b)
abbrev jy(it:XI)(T:Tg)(c:XA)(k:Nat):XA:=λb S=>if dA T b=aN then bnd (it b S) λnx d=>bq nx T c b k 0 d else aD
abbrev lY(own:Nat)(it:XI)(T:Tg)(c:XA)(k:Nat):XA:=λb S=>bnd (it b S) λnx j=>if dA T (b++ZN own aD)=aN then
 (bnd (bq nx T c (b++ZN own aD) k 0 j) λd l=>if d.length<=100000 then aw (d,l) else aD) else aD
abbrev tCl(K:Vp)(b:Addr)(c:XA):TS:=λD B H=>∃m q S l u z y,EnvR K m H q B/\Rel K m S H/\b ∉ m/\H b=aw (.lst y)/\VDs K m H z y/\z.length+l.length<=100000/\c q S=aw (l,u) ∧
 ∀k d j v,ExtB [b] m H k d->Rel K k u d->d b=aw (.lst v)->VDs K k d (z++l) v->EnvR K k d q j->D.nx j d
def BJ(h:H c=aw (.lst v))(n:c ∉ m):AtB [c] m H:=λb hb=>by simp at hb;subst hb;exact⟨⟨v,h⟩,n⟩
def ExtB.refl(n:c ∉ m):ExtB [c] m H m H:=⟨Yk m,λ_ _ h _ _=>h,λ_ h n=>absurd h n,λb hb=>by simp at hb;subst hb;exact n⟩
def ExtB.put(n:c ∉ m)(o:HO):ExtB [c] m H m (upd H c o):=⟨Yk m,λa u h _ nb=>by
 rw[ac (λz=>nb (by simp[z]))];exact h,λ_ h n=>absurd h n,λb hb=>by simp at hb;subst hb;exact n⟩
def Rel.extB(R:Rel K m S H)(c:AtB [j] m H)(x:ExtB [j] m H m H')(k:∀b ∈ m,H' b=H b):Rel K m S H':=by
 refine⟨R.len,R.nd,λi o e=>?_⟩;obtain⟨b,hb,r⟩:=R.ob i o e;have d:b ∈ m:=Zc hb;refine⟨b,hb,?_⟩;cases o with
 |lst B=>obtain⟨v,p,q⟩:=r;exact⟨v,(k b d).trans p,VDs.monoB R c x q⟩
 |frz B=>obtain⟨o,v,p,q⟩:=r;exact⟨o,v,(k b d).trans p,VDs.monoB R c x q⟩
 |dic ks B=>obtain⟨v,p,l,q⟩:=r;exact⟨v,(k b d).trans p,l,VDs.monoB R c x q⟩
 |tbl T p q=>
  obtain⟨e,ps,z⟩:=r;refine⟨e,ps,(k _ d).trans z.at_,z.tr,λO J=>?_⟩;obtain⟨I,L,C⟩:=z.cd O J;refine⟨I,L,x.keep _ _ C (R.notCd C) λy=>?_⟩;obtain⟨⟨v,u⟩,_⟩:=c I y;rw[C] at u;unfold cdO at u;cases u
 |dfz ks B=>obtain⟨o,v,p,l,q⟩:=r;exact⟨o,v,(k b d).trans p,l,VDs.monoB R c x q⟩
def FD{c:Addr}{x:XE}{D:Ends}{C:L2.St}{H:Hp}(h:tCl K c (Jc x) D C H):IY c (tE K x) D C H:=by
 obtain⟨m,Y,S,es,S',zs,B,E,R,L,J,O,T,e,q⟩:=h;obtain⟨d,Z,Q,e⟩:=ab e;cases e;refine⟨m,Y,S,d,_,E,R,Q,λm1 I v k vd=>?_⟩;have U:=BJ J L;have u:I c=aw (.lst B):=k.ext.keep _ _ J L;have xB:=k.ext.toB U;have l:c ∉ m1:=xB.nb c (by simp);have y:=ExtB.put (H:=I) l (.lst (B++[v]));have j:=BJ u l;have lz:=O.length;simp only[Zq] at T;refine⟨B,u,by rw[Ut];lia,q m1 _ C (B++[v]) (xB.trans y) (k.rel.extB j y λb hb=>ac λz=>l (z ▸ hb)) az ?_ ((E.mono R k.ext).monoB k.rel j y)⟩;exact VDs.append ((O.mono R k.ext).monoB k.rel j y) (.cons (vd.monoB k.rel j y) .nil)
def FE{d:Addr}{t:XT}{c:XA}{D:Ends}{u:L2.St}{H:Hp}(h:tCl K d (BI t c) D u H):fv (tT K t) (tCl K d c) D u H:=by
 obtain⟨m,O,S,Q,Y,Z,y,E,R,J,I,L,U,e,q⟩:=h;obtain⟨b,B,T,e⟩:=ab e;refine⟨m,O,S,b,B,E,R,T,λm1 C j=>?_⟩;have hB:=BJ I J;have k:C d=aw (.lst y):=j.ext.keep _ _ I J;have xB:=j.ext.toB hB;have z:d ∉ m1:=xB.nb d (by simp);dsimp only;split
 ·rename_i hb;rw[if_pos hb] at e;exact⟨m1,O,B,Q,Y,Z,y,E.mono R j.ext,j.rel,z,k,L.mono R j.ext,U,e,λm2 H2 l v x2 R2 h2 v2 E2=>q m2 H2 l v (xB.trans x2) R2 h2 v2 E2⟩
 ·rename_i hb;rw[if_neg hb] at e;cases e;refine q m1 C u y xB j.rel k ?_ (E.mono R j.ext);rw[Z0];exact L.mono R j.ext
def sR{t:TS}{D:Ends}{b:L2.St}{H:Hp}(h:t D b H):fv EU t D b H:=by
 show if aN=aN then t D b H else D.nx b H
 rw[if_pos rfl];exact h
def Lc{b:Addr}{c:XA}{D:Ends}{d:L2.St}{H:Hp}(h:tCl K b c D d H):fv EU (tCl K b c) D d H:=by
 exact sR h
abbrev clW(K:Vp)(b:Addr)(nx:Nxt)(T:Tg)(c:XA)(u:Rho)(m1:List Addr)(C:Hp)(I:Ends)(i k:Nat)(J:L2.St)(H:Hp):Prop:=∃m S y q z B,EnvR K m H u J/\Rel K m S H/\ExtB [b] m1 C m H/\H b=aw (.lst B)/\VDs K m H z B/\z.length+q.length<=100000/\bq nx T c u k i S=aw (q,y)/\∀l d j v,ExtB [b] m H l d->Rel K l y d->d b=aw (.lst v)->VDs K l d (z++q) v->EnvR K l d u j->I.nx j d
def xn(hI:IOk K [b] J nx m1 H1)(hts:∀D v H,tCl K b c D v H->ts D v H)(k:Nat)
  (fr:dA T l=aN) (E:EnvR K m H l v) (R:Rel K m S H) (x:ExtB [b] m1 H1 m H) (B:H b=aw (.lst vs)) (U:VDs K m H zs vs) (hl:zs.length+L.length<=100000) (e:bq nx T c l k 0 S=aw (L,S'))
  (q:∀Q j u I,ExtB [b] m H Q j->Rel K Q S' j->j b=aw (.lst I)->VDs K Q j (zs++L) I->EnvR K Q j l u->EE.nx u j):rX J (tTg K T) ts EE v H:=by
 refine⟨clW K b nx T c l m1 H1 EE,⟨k,m,S,S',L,zs,vs,E,R,x,B,U,hl,e,q⟩,?_⟩;intro i k v H z;obtain⟨m,S,S',L,zs,vs,E,R,x,B,U,hl,e,q⟩:=z;have O:b ∉ m:=x.nb b (by simp);have hB:=BJ B O;cases k with
 |zero=>simp[bq] at e
 |succ k=>
  simp only[bq] at e;cases Y:nx i S with
  |none=>rw[Y] at e;cases e
  |some o=>
   rw[Y] at e;obtain⟨h1,h2⟩:=hI m S H i x R;cases o with
   |none=>
    cases e;exact .inl ⟨h1 Y,q m H v vs (ExtB.refl O) R B (by rw[Z0];exact U) E⟩
   |some d=>
    obtain⟨go,hy⟩:=h2 d Y;dsimp only at e;cases hb:aC T d l with
    |none=>rw[hb] at e;cases e
    |some C=>
     rw[hb] at e;dsimp only at e;obtain⟨e1,S1,c1,e⟩:=ab e;obtain⟨rs,S2,c2,e⟩:=ab e;cases e;rw[Zf] at hl;refine .inr ⟨go,clW K b nx T c l m1 H1 EE (i+1) k,λu j z=>⟨k,Xg k,z⟩,λy j yl=>?_⟩;obtain⟨A,vd⟩:=hy y j yl;have xA:=A.ext.toB hB;have ha':j b=aw (.lst vs):=A.ext.keep _ _ B O;refine⟨m,S,l,d,C,A.rel,E.mono R A.ext,vd,hb,λσ2 E2=>hts _ _ _ ⟨m,C,S,e1,S1,zs,vs,E2,A.rel,O,ha',U.mono R A.ext,by lia,c1,λm3 H3 σ3 vs3 x3 R3 h3 v3 E3=>?_⟩⟩;refine⟨m3,S1,_,rs,zs++e1,vs3,E3.weaken (sQ (LeR.refl l) fr hb),R3,(x.trans xA).trans x3,h3,v3,by rw[Zf];lia,c2,λm4 H4 σ4 Z x4 R4 h4 v4 E4=>?_⟩;refine q m4 H4 σ4 Z ((xA.trans x3).trans x4) R4 h4 ?_ E4;rw[<-Yu];exact v4
def BK{b:Addr}{it:XI}{T:Tg}{t:TT}{c C:XA}{k:Nat}{D:Ends}{j:L2.St}{H:Hp}(u:∀D j H,tCl K b c D j H->fv t (tCl K b C) D j H)(h:tCl K b (jy it T c k) D j H):AS (tIt K [b] it) (tTg K T) t (tCl K b C) D j H:=by
 obtain⟨m,ρ,S,es,S',zs,vs,E,R,B,z,Z,U,e,q⟩:=h;unfold jy at e;split at e
 ·rename_i fr;obtain⟨nx,L,O,e⟩:=ab e;have I:=BJ z B;refine⟨m,ρ,S,nx,L,E,R,I,O,λm1 H1 J d Q=>?_⟩;have xB:=d.ext.toB I;have y:b ∉ m1:=xB.nb b (by simp);exact xn Q u k fr (E.mono R d.ext) d.rel (ExtB.refl y) (d.ext.keep _ _ z B) (Z.mono R d.ext) U e λm2 Y l v x2 R2 h2 v2 E2=>q m2 Y l v (xB.trans x2) R2 h2 v2 E2
 ·cases e
def EnvR.more(E:EnvR K m H b c)(n:Nat):EnvR K m H (b++ZN n aD) (c++ZN n aD):=by
 refine⟨by simp[E.len],λi d e=>?_⟩;by_cases hi:i < b.length
 ·rw[Zv hi] at e;rw[Zv (by rw[<-E.len];exact hi)];exact E.at_ i d e
 ·rw[Zp (by lia),Yy] at e;split at e <;> cases e
def xo{own:Nat}{k:Nat}(B:∀acc D v H,tCl K acc c D v H->fv t (tCl K acc c') D v H)(h:fB K (lY own it tg c k) v H Q):AU own (tIt K [] it) (tTg K tg) (λacc=>fv t (tCl K acc c')) v H Q:=by
 obtain⟨m,ρ,S,es,S',E,R,e,q⟩:=h;obtain⟨nx,Y,e1,e⟩:=ab e;split at e
 ·rename_i fr;obtain⟨es',T,e2,e⟩:=ab e;split at e
  ·rename_i hl;cases e;refine⟨m,ρ,S,nx,Y,E,R,λb hb=>absurd hb (by simp),e1,λm1 O J j hI acc d=>?_⟩;have x0:=Ext.beside j.rel d (.lst []);have R0:=j.rel.beside d (.lst []);have I:=j.rel.no d
   have L:IOk K [acc] J nx m1 (upd O acc (.lst [])):=by
    intro y T H2 i l R2;refine hI y T H2 i ⟨l.pre,λa o h n _=>?_,λa h n=>?_,λb hb=>absurd hb (by simp)⟩ R2
    ·have ne:a ≠ acc:=aV h d;exact l.keep a o (by rw[ac ne];exact h) n (by simp[ne])
    ·have:=l.new a h n;by_cases u:a=acc
     ·subst u;exact d
     ·rw[ac u] at this;exact this
   refine xn (zs:=[]) (vs:=[]) L (B acc) k fr ((E.mono R j.ext |>.mono j.rel x0).more own) R0 (ExtB.refl I) az .nil (by simpa using hl) e2 λy H2 Z C l R2 h2 v2 E2=>?_
   have xx:Ext m1 O y H2:=⟨l.pre,λa o h n=>by
    have ne:a ≠ acc:=aV h d;exact l.keep a o (by rw[ac ne];exact h) n (by simp[ne]),λa h n=>by
    have:=l.new a h n;by_cases u:a=acc
    ·subst u;exact d
    ·rw[ac u] at this;exact this⟩
   have hn:H acc=aD:=by
    cases eh:H acc with
    |none=>rfl
    |some o=>
     by_cases U:acc ∈ m
     ·exact absurd (j.ext.pre.subset U) I
     ·have:=j.ext.keep acc o eh U;rw[d] at this;cases this
   exact q y H2 acc C (j.trans ⟨xx,R2⟩) h2 (l.nb acc (by simp)) (λb hb z=>I (j.ext.pre.subset (z ▸ hb))) hn (by simpa using v2)
  ·cases e
 ·cases e
end
section
variable {X:Cx} {K:Vp} {m:List Addr} {H:Hp} {S:Sto}
abbrev BL(x y:XE):XE:=λc S=>bnd (x c S) λd b=>match d with
 |.bl aN=>y c b
 |.bl aS=>aw (.bl aS,b)
 |_=>aD
abbrev xOr(x y:XE):XE:=λc S=>bnd (x c S) λd b=>match d with
 |.bl aN=>aw (.bl aN,b)
 |.bl aS=>y c b
 |_=>aD
abbrev zn:D->Sto->Option (D × Sto)
 |.bl b,S=>aw (.bl (!b),S)
 |_,_=>aD
abbrev Lg:D->Sto->Option (D × Sto)
 |.int i,S=>aw (.int (-i),S)
 |_,_=>aD
abbrev Lh(c:XT)(x y:XE):XE:=λd S=>bnd (c d S) λb j=>if b=aN then x d j else y d j
def BM(h:tE K (BL x y) L H Q):II (tE K x) (tE K y) L H Q:=by
 obtain⟨m,k,S,d,I,E,R,e,q⟩:=h;obtain⟨a,j,z,e⟩:=ab e;refine⟨m,k,S,a,j,E,R,z,λm1 l v c C=>?_⟩;cases a with
 |bl b=>
  refine⟨b,C.bls,?_⟩;cases b with
  |true=>exact⟨m1,k,j,d,I,E.mono R c.ext,c.rel,e,λJ u w B vd=>q J u w (c.trans B) vd⟩
  |false=>cases e;exact q m1 l _ c bJ
 |_=>cases e
def Jd(h:tE K (xOr x y) L H Q):O4 (tE K x) (tE K y) L H Q:=by
 obtain⟨m,k,S,d,I,E,R,e,q⟩:=h;obtain⟨a,j,z,e⟩:=ab e;refine⟨m,k,S,a,j,E,R,z,λm1 l v c C=>?_⟩;cases a with
 |bl b=>
  refine⟨b,C.bls,?_⟩;cases b with
  |false=>exact⟨m1,k,j,d,I,E.mono R c.ext,c.rel,e,λJ u w B vd=>q J u w (c.trans B) vd⟩
  |true=>cases e;exact q m1 l _ c bJ
 |_=>cases e
def Li(h:tE K (xUn zn x) z H Q):IJ (tE K x) z H Q:=by
 obtain⟨m,y,S,d,B,E,R,e,q⟩:=h;obtain⟨a,c,l,e⟩:=ab e;refine⟨m,y,S,a,c,E,R,l,λm1 j v k u=>?_⟩;cases a with
 |bl b=>cases e;exact⟨b,u.bls,q m1 j _ k bJ⟩
 |_=>cases e
def FF:UnR X (unaryOp .USub) (rS1 X.K Lg):=by
 intro b s k H x v Q I j h;refine uI b s k H x v Q I j ?_;obtain⟨m,S,a,d,l,R,c,e,q⟩:=h;cases a with
 |int i=>cases e;exact⟨i,c.ints,q m H _ (Aft.refl R) bp⟩
 |_=>cases e
def Lj(h:tE K (Lh c x y) I H Q):tIf (tT K c) (tE K x) (tE K y) I H Q:=by
 obtain⟨m,v,S,d,B,E,R,e,q⟩:=h;obtain⟨b,k,C,e⟩:=ab e;refine⟨m,v,S,b,k,E,R,C,λm1 J j=>?_⟩;dsimp only;split
 ·rename_i hb;rw[if_pos hb] at e;exact⟨m1,v,k,d,B,E.mono R j.ext,j.rel,e,λz l w u vd=>q z l w (j.trans u) vd⟩
 ·rename_i hb;rw[if_neg hb] at e;exact⟨m1,v,k,d,B,E.mono R j.ext,j.rel,e,λz l w u vd=>q z l w (j.trans u) vd⟩
abbrev zo(f g:D->D->Sto->Option (D × Sto))(x y z:XE):XE:=λd S=>bnd (x d S) λa k=>bnd (y d k) λb q=>bnd (f a b q) λr j=>match r with
 |.bl aN=>bnd (z d j) λc l=>g b c l
 |.bl aS=>aw (.bl aS,j)
 |_=>aD
def BN(h:tE K (zo f g x y z) σ H Q):uJ (rS K f) (rS K g) (tE K x) (tE K y) (tE K z) σ H Q:=by
 obtain⟨m,I,S,d,S',E,R,e,q⟩:=h;obtain⟨a,J,Z,e⟩:=ab e;obtain⟨b,O,e2,e⟩:=ab e;obtain⟨r,U,e3,e⟩:=ab e;refine⟨m,I,S,a,J,E,R,Z,λm1 H1 v j va=>⟨m1,I,J,b,O,E.mono R j.ext,j.rel,e2,λm2 H2 w l L=>?_⟩⟩;refine⟨m2,O,a,b,r,U,l.rel,va.mono j.rel l.ext,L,e3,λT H3 u B vr=>?_⟩;cases r with
 |bl k=>
  refine⟨k,vr.bls,?_⟩;cases k with
  |true=>
   dsimp only at e;obtain⟨c,Y,e4,e⟩:=ab e;exact⟨T,I,U,c,Y,E.mono R ((j.trans l).trans B).ext,B.rel,e4,λm4 H4 y C vc=>⟨m4,Y,b,c,d,S',C.rel,L.mono l.rel (B.trans C).ext,vc,e,λm5 H5 t A5 vd=>q m5 H5 t ((((j.trans l).trans B).trans C).trans A5) vd⟩⟩
  |false=>cases e;exact q T H3 _ ((j.trans l).trans B) bJ
 |_=>cases e
abbrev BO(x y:XT):XT:=λd S=>bnd (x d S) λb c=>if b=aN then y d c else aw (aS,c)
abbrev Ll(x y:XT):XT:=λd S=>bnd (x d S) λb c=>if b=aN then aw (aN,c) else y d c
abbrev BP(x:XT):XT:=λd S=>bnd (x d S) λb c=>aw (!b,c)
def BQ(h:tT K (BO x y) I H Q):O2 (tT K x) (tT K y) I H Q:=by
 obtain⟨m,k,S,d,B,E,R,e,q⟩:=h;obtain⟨b,j,v,e⟩:=ab e;refine⟨m,k,S,b,j,E,R,v,λm1 l c=>?_⟩;dsimp only;split
 ·rename_i hb;rw[if_pos hb] at e;exact⟨m1,k,j,d,B,E.mono R c.ext,c.rel,e,λC u z=>q C u (c.trans z)⟩
 ·rename_i hb;rw[if_neg hb] at e;cases e;exact q m1 l c
def Je(h:tT K (Ll x y) I H Q):tOr (tT K x) (tT K y) I H Q:=by
 obtain⟨m,k,S,d,B,E,R,e,q⟩:=h;obtain⟨b,j,v,e⟩:=ab e;refine⟨m,k,S,b,j,E,R,v,λm1 l c=>?_⟩;dsimp only;split
 ·rename_i hb;rw[if_pos hb] at e;cases e;exact q m1 l c
 ·rename_i hb;rw[if_neg hb] at e;exact⟨m1,k,j,d,B,E.mono R c.ext,c.rel,e,λC u z=>q C u (c.trans z)⟩
def Lm(h:tT K (BP x) u H Q):O3 (tT K x) u H Q:=by
 obtain⟨m,l,S,d,y,E,R,e,q⟩:=h;obtain⟨b,v,k,e⟩:=ab e;cases e;exact⟨m,l,S,b,_,E,R,k,λm1 c j=>q m1 c j⟩
@[inline]abbrev Calls:=Nat->List D->Sto->Option (D × Sto)
abbrev spC(K:Vp)(g:List D->Sto->Option (D × Sto))(n:Nat):Sp:=λl H Q _=>∃m c S d k,VDs K m H c l/\Rel K m S H/\c.length=n/\g c S=aw (d,k)/\∀j b v,Aft K m H k j b->VD K j b d v->Q v b
abbrev sS(g:List D->Sto->Option (D × Sto))(n:Nat)(x:XA):XE:=λc S=>bnd (x c S) λd b=>if d.length=n then g d b else aD
def FG{n:Nat}(h:tE K (sS g n x) J H Q):IU (spC K g n) [] E0 (tAr K x) J H Q:=by
 obtain⟨m,y,S,d,z,E,R,e,q⟩:=h;obtain⟨j,b,l,e⟩:=ab e;split at e
 ·rename_i C;refine⟨m,y,S,j,b,E,R,l,λm1 L O c vd=>⟨m1,j,b,d,z,by rw[Z0];exact vd,c.rel,C,e,λI k v u B=>q I k v (c.trans u) B⟩⟩
 ·cases e
end
abbrev bx(x y:Int × List Int):Bool:=if x.1=y.1 then HT.c6 x.2 y.2 else decide (x.1 < y.1)
def lZ:∀ns:List Int,HT.c6 ns ns=aS
 |[]=>rfl
 |n::ns=>by rw[HT.k6,if_pos rfl];exact lZ ns
section
open PySem.SeqAt
open PySem.AutoSeq1 (wpAny_loadPart')
open PySem.MeetsSeq PySem.MeetsSeq2 PySem.MeetsSeq3
def nD(l b:Addr)(x y:Int)(t u:Tok)(p q:Addr)(n n2:Nat)(dd X:Option Addr)(sl L:Array (Option Value))(ns J:List Int) :
  Meets (Builtin.«tuple.__lt__» ⟨[.ref l,.ref b],[]⟩)
   (λA R s=>s.heap.get? l=aw { cls:=.type "tuple", dict:=dd,data:=.seq #[.int x t,.ref p] n,slots:=sl }/\s.heap.get? b=aw { cls:=.type "tuple", dict:=X,data:=.seq #[.int y u,.ref q] n2,slots:=L } ∧
    (∃xs Y,IsTup s.heap p xs/\IsTup s.heap q Y/\IntsAre xs.toList ns/\IntsAre Y.toList J)/\A.in1.units < cLine ∧
    R (.ok (.ret (.bool (bx (x,ns) (y,J))))) s):=
 .of_wp λprog w A R s h=>by
  obtain⟨B,g,d,T,os⟩:=s;obtain⟨hl,hb,⟨xs,Y,tp,tq,i1,Z⟩,hu,h⟩:=h;have f2:=AutoSeq1.sub_tuple_tuple
  wp_walk using UL hl,UL hb,UH _ (λj b O=>b.1=aD/\O=⟨B,g,d,T,os⟩/\((j=[(.int x t,.int y u),(.ref p,.ref q)])\/(j=[(.ref p,.ref q)]/\x=y)\/(j=[]/\x=y/\ns=J))) _
  case turn=>
   rintro⟨v,z⟩ j b O ⟨C,rfl,k⟩;rcases k with k |⟨k,hxy⟩ |⟨k,_⟩
   ·injection k with hvz hrest;injection hvz with hv hz;subst hv hz;obtain⟨e,U,c⟩:=HT.rR A.in1 ⟨B,g,d,T,os⟩ x t y u;refine UC (U prog w _ _ ?_);cases e with
    |true=>
     wp_walk
     exact⟨rfl,rfl,.inr (.inl ⟨hrest,c.mp rfl⟩)⟩
    |false=>
     have I:=HT.rV A.in1 ⟨B,g,d,T,os⟩ x t y u prog w
     wp_walk using I
     refine⟨_,rfl,?_⟩;unfold bx at h;rw[if_neg (λq=>absurd (c.mpr q) Zh)] at h
     simpa using h
   ·injection k with hvz hrest;injection hvz with hv hz;subst hv hz hxy;obtain⟨e,U,c⟩:=jq (A:=A.in1) (s:=⟨B,g,d,T,os⟩) hu tp tq i1 Z;refine UC (U prog w _ _ ?_);unfold bx at h;rw[if_pos rfl] at h;cases e with
    |true=>
     wp_walk
     exact⟨rfl,rfl,.inr (.inr ⟨hrest,rfl,c.mp rfl⟩)⟩
    |false=>
     have I:∀ (E:Value->Shared->Prop) (Q:Value->Shared->Prop),Q (.bool (HT.c6 ns J)) ⟨B,g,d,T,os⟩->wpAny (model prog w) A.in1 (Um .Lt (.ref p) (.ref q)) Q E ⟨B,g,d,T,os⟩:=λE Q hq=>HT.lc (s:=⟨B,g,d,T,os⟩) tp tq i1 Z hu hq
     wp_walk using I
     exact⟨_,rfl,by simpa using h⟩
   ·cases k
  case fin=>
   rintro⟨b1,b2⟩ O ⟨C,rfl,k⟩;simp only at C;subst C;rcases k with k |⟨k,_⟩ |⟨_,hxy,hnm⟩
   ·cases k
   ·cases k
   ·subst hxy hnm;unfold bx at h;rw[if_pos rfl,lZ] at h
    wp_walk
    exact⟨_,rfl,by simpa[Builtin.Tuple.tupleCompareSizes] using h⟩
  case h=>exact⟨rfl,rfl,.inl rfl⟩
end
section
variable {prog:Program} {w:World} {A:Around} {R:Result->Shared->Prop} {I S:Addr} {fp wr:List Addr} {n:Nat} {P:Nat->Value->Prop} {St:Nat->Heap->Prop} {bt:Nat->Nat->Bool} {base:Heap} {d:Value}
abbrev Ln(prog:Program)(w:World)(A:Around)(base:Heap)(P:Nat->Value->Prop)(bt:Nat->Nat->Bool):Prop:=
 ∀i j v b (s:Shared) (Q:Value->Shared->Prop) (E:Value->Shared->Prop),(∀a o,base.get? a=aw o->s.heap.get? a=aw o)->P i v->P j b->Q (.bool (bt i j)) s->wpAny (model prog w) A (Um .Lt v b) Q E s
def BR(a d:Value):argsOk "min" ⟨[a],[(Str.ofString "default", d)]⟩:=by unfold argsOk;kernel_rfl
def xq:(toString "min" ++ toString ".loop" : String) = "min.loop" := by decide
def l3(W:Walks prog w A.in1 I fp wr n P St)(X:Ln prog w A.in1 base P bt)(C:S ∉ fp)(bw:∀a ∈ wr,base.get? a=aD)(U:base.get? S=aD):∀ (m i:Nat) (s:Shared) (b:Value) (c:Nat),i+1+m=n->St (i+1) s.heap->P (argBest bt i) b->(∀a o,base.get? a=aw o->s.heap.get? a=aw o)->s.heap.get? S=aw { cls:=.type "list", dict:=aD,data:=.seq #[b,b] c,slots:=#[] } ->
  (∀v h' L,P (argBest bt (n - 1)) v->(∀a o,a ∉ wr->a ≠ S->s.heap.get? a=aw o->h'.get? a=aw o)->R (.ok (.ret v)) { s with heap:=h',toks:=L })->codeAny (model prog w) A (.builtin "min.loop" ⟨[.ref I,.none,.ref S],[(Str.ofString "default", d)]⟩) R s
 |0,i,s,b,c,e,st,pb,kb,gs,r=>by
  have O:S ∉ wr:=λh=>C (W.sub _ h);refine VZ WY ?_;rw[Around.under_plainId W4 _];show wpAny _ A.in1 (Ur (.ref S) >>= _) _ _ s;refine UC (UY gs rfl ?_);show wpAny _ A.in1 (tryCatch (pyNext (.ref I)) _ >>= _) _ _ s;refine UC (U3 (W.done s _ _ (by rw[<-e];exact st) λh' L k=>?_));show wpAny _ A.in1 (updateSeq S (λ_=>#[]) >>= _) _ _ _;refine UC (U5 (k S _ O gs) rfl (UC (UK (US ?_))));exact r b _ L (by rw[<-e];exact pb) λa o y B z=>(ZY _ _ (Ne.symm B)).trans (k a o y z)
 |m+1,i,s,b,c,e,st,pb,kb,gs,r=>by
  have O:S ∉ wr:=λh=>C (W.sub _ h);refine VZ WY ?_;rw[Around.under_plainId W4 _];show wpAny _ A.in1 (Ur (.ref S) >>= _) _ _ s;refine UC (UY gs rfl ?_);show wpAny _ A.in1 (tryCatch (pyNext (.ref I)) _ >>= _) _ _ s;refine UC (U3 (W.item (i+1) s _ _ (by lia) st λv h' L pv J k=>?_));have u:=k S _ O gs;have Z:∀a o,base.get? a=aw o->a ∉ wr/\a ≠ S:=λa o h=>⟨λz=>(by rw[bw a z] at h;cases h),λz=>(by rw[z,U] at h;cases h)⟩;have l:∀a o,base.get? a=aw o->h'.get? a=aw o:=λa o h=>k a o (Z a o h).1 (kb a o h);show wpAny _ A.in1 (tryCatch (holding [v,v] (Um .Lt v b >>= _)) _ >>= _) _ _ _;refine UC (U3 (UJ (UC (X (i+1) (argBest bt i) v b _ _ _ l pv pb ?_))));refine UC (UJ (U2 ?_));refine UC (UK (US ?_));cases hb:bt (i+1) (argBest bt i) with
  |true=>
   simp only[if_true];refine UC (U5 u rfl (UC (UK ?_)));rw[xq];refine US ⟨Ui W4 _,l3 W X C bw U m (i+1) _ v _ (by lia) (W.frame _ _ _ J λa af o z=>?_) (by simp only[argBest,hb,if_true];exact pv) (λa o h=>(ZY _ _ (Ne.symm (Z a o h).2)).trans (l a o h)) (YJ _ u rfl) λQ j T q Y=>?_⟩
   ·exact(ZY _ _ (λz:S=a=>C (by rw[z];exact af))).trans z
   ·exact r Q j T q λa o y B z=>Y a o y B ((ZY _ _ (Ne.symm B)).trans (k a o y z))
  |false=>
   simp only[ZR,if_false];refine UC (UK ?_);rw[xq];refine US ⟨Ui W4 _,l3 W X C bw U m (i+1) _ b c (by lia) J (by simp only[argBest,hb,ZR,if_false];exact pb) l u λQ j T q Y=>?_⟩;exact r Q j T q λa o y B z=>Y a o y B (k a o y z)
def zp{s:Shared}(W:Walks prog w A.in1 I fp wr n P St)(Z:Ln prog w A.in1 base P bt)(q:S ∉ fp)(bw:∀a ∈ wr,base.get? a=aD)(J:base.get? S=aD)(X:0 < n){c:Nat}(st:St 0 s.heap)(O:∀a o,base.get? a=aw o->s.heap.get? a=aw o)(gs:s.heap.get? S=aw { cls:=.type "list", dict:=aD,data:=.seq #[] c,slots:=#[] })
  (r:∀v h' y,P (argBest bt (n - 1)) v->(∀a o,a ∉ wr->a ≠ S->s.heap.get? a=aw o->h'.get? a=aw o)->R (.ok (.ret v)) { s with heap:=h',toks:=y }):codeAny (model prog w) A (.builtin "min.loop" ⟨[.ref I,.none,.ref S],[(Str.ofString "default", d)]⟩) R s:=by
 have Q:S ∉ wr:=λh=>q (W.sub _ h);refine VZ WY ?_;rw[Around.under_plainId W4 _];show wpAny _ A.in1 (Ur (.ref S) >>= _) _ _ s;refine UC (UY gs rfl ?_);show wpAny _ A.in1 (tryCatch (pyNext (.ref I)) _ >>= _) _ _ s;refine UC (U3 (W.item 0 s _ _ X st λv h' y Y u k=>?_));have b:=k S _ Q gs;have B:∀a o,base.get? a=aw o->a ∉ wr/\a ≠ S:=λa o h=>⟨λz=>(by rw[bw a z] at h;cases h),λz=>(by rw[z,J] at h;cases h)⟩;show wpAny _ A.in1 (updateSeq S (λ_=>#[v,v]) >>= _) _ _ _;refine UC (U5 b rfl ?_);rw[xq];refine US ⟨Ui W4 _,l3 W Z q bw J (n - 1) 0 _ v _ (by lia) (W.frame _ _ _ u λa af o z=>?_) Y (λa o h=>(ZY _ _ (Ne.symm (B a o h).2)).trans (k a o (B a o h).1 (O a o h))) (YJ _ b rfl) λU j T l k2=>?_⟩
 ·exact(ZY _ _ (λz:S=a=>q (by rw[z];exact af))).trans z
 ·exact r U j T l λa o L C z=>k2 a o L C ((ZY _ _ (Ne.symm C)).trans (k a o L z))
def BS{s:Shared}(W:Walks prog w A.in1 I fp wr 0 P St)(b:S ∉ fp){c:Nat}(st:St 0 s.heap)(gs:s.heap.get? S=aw { cls:=.type "list", dict:=aD,data:=.seq #[] c,slots:=#[] })
  (r:∀h' T,(∀a o,a ∉ wr->s.heap.get? a=aw o->h'.get? a=aw o)->R (.ok (.ret d)) { s with heap:=h',toks:=T }):codeAny (model prog w) A (.builtin "min.loop" ⟨[.ref I,.none,.ref S],[(Str.ofString "default", d)]⟩) R s:=by
 refine VZ WY ?_;rw[Around.under_plainId W4 _];show wpAny _ A.in1 (Ur (.ref S) >>= _) _ _ s;refine UC (UY gs rfl ?_);show wpAny _ A.in1 (tryCatch (pyNext (.ref I)) _ >>= _) _ _ s;refine UC (U3 (W.done s _ _ st λh' T k=>?_));exact UC (UX (US (r h' T k)))
variable {E:Value->Shared->Prop} {s:Shared} {l:Addr} {its:Array Value} {Q:Value->Shared->Prop}
def BU(hl:s.heap.IsList l its)
  (h:∀c:Shared,c={ s with heap:=s.heap.push { cls:=.type "list_iterator", data:=.fields #[.ref l,.int 0 0] } } ->
   (c.heap.IsListIter s.heap.objs.size l 0/\c.heap.IsList l its)->(∀b ∈ [s.heap.objs.size,l],b < c.heap.objs.size)->l ≠ s.heap.objs.size->Q (.ref s.heap.objs.size) c) :
  wpAny (model prog w) A (pyIter (.ref l)) Q E s:=by
 have j:l < s.heap.objs.size:=by obtain⟨_,e,_⟩:=hl;exact Zs e
 refine UT hl (h _ rfl ⟨⟨_,Zu _ rfl,rfl,rfl⟩,hl.push _⟩ (λb hb=>?_) (ZH j));show b < (s.heap.push _).objs.size;rw[Yq];simp only[Zn,Wi,or_false] at hb;rcases hb with rfl |rfl
 ·exact Xg _
 ·exact Yw j
def BV(L:A.handled=aD)(hl:s.heap.IsList l its)(B:Ln prog w A.in1 s.heap (λi v=>its[i]?=aw v) bt)
  (U:0 < its.size->∀v h' T,its[argBest bt (its.size - 1)]?=aw v->(∀b o,s.heap.get? b=aw o->h'.get? b=aw o)->Q v { s with heap:=h',toks:=T })
  (C:its.size=0->∀h' T,(∀b o,s.heap.get? b=aw o->h'.get? b=aw o)->Q d { s with heap:=h',toks:=T }):wpAny (model prog w) A (call (.builtin "min") [.ref l] [(Str.ofString "default", d)]) Q E s:=by
 refine kmb_tree F.kind_min F.plain_min F.entry_min (BR _ _) ?_;show wpAny _ A.in1 (Builtin.Builtins.bindParams "min" ["key", "default"] 0 ⟨[],[(Str.ofString "default", d)]⟩ >>= _) _ _ s;refine UC (UQ (show Builtin.Builtins.bindParams "min" ["key", "default"] 0 ⟨[],[(Str.ofString "default", d)]⟩=pure [aD,aw d] from rfl) ?_);refine UC (US ?_);refine UC (BU hl λX e st c O=>?_);subst e;have W:=Walks.list (prog:=prog) (w:=w) (A:=A.in1) L s.heap.objs.size l O its;refine UC (UP ?_);have Y:∀b ∈ [s.heap.objs.size,l],b < (s.heap.push { cls:=.type "list_iterator", data:=.fields #[.ref l,.int 0 0] }).objs.size:=c;rw[xq]
 have J:s.heap.get? s.heap.objs.size=aD:=by
  cases q:s.heap.get? s.heap.objs.size with
  |none=>rfl
  |some o=>exact absurd (Zs q) (ZL _)
 by_cases u:its.size=0
 ·rw[u] at W;refine US ⟨Ui W4 _,BS W (λj=>ZL _ (c _ j)) (W.frame _ _ _ st λb _ o e=>Zd _ e) (Zu _ rfl) λh' T k=>?_⟩;exact C u h' T (old_kept λb o hb e=>k b o hb (Zd _ e))
 ·refine US ⟨Ui W4 _,zp (base:=s.heap) W B (λj=>ZL _ (c _ j)) ?_ ?_ (by lia) (W.frame _ _ _ st λb _ o e=>Zd _ e) (λa o e=>Zd _ (Zd _ e)) (Zu _ rfl) λv h' T y k=>?_⟩
  ·intro a z;rw[ZE.mp z];exact J
  ·cases q:s.heap.get? (s.heap.push { cls:=.type "list_iterator", data:=.fields #[.ref l,.int 0 0] }).objs.size with
   |none=>rfl
   |some o=>have:=Zs q;rw[Yq] at this;lia
  ·exact U (by lia) v h' T y (old_kept λb o hb e=>k b o hb (ZH (Zs e)) (Zd _ e))
end
abbrev BW:D->Option (Int × List Int)
 |.tup [.int n,.tup es]=>(bK es).map λns=>(n,ns)
 |_=>aD
abbrev jY:List D->Option (List (Int × List Int))
 |[]=>aw []
 |d::ds=>match BW d,jY ds with
  |some w,aw ws=>aw (w::ws)
  |_,_=>aD
abbrev cy(b:List (Int × List Int))(i j:Nat):Bool:=bx (b.getD i (0,[])) (b.getD j (0,[]))
abbrev nF(T:Bool)(d:List D)(S:Sto):Option (D × Sto):=match T,jY d with
 |false,aw ws=>aw (d.getD (argBest (cy ws) (d.length - 1)) .non,S)
 |_,_=>aD
def qg:∀ {c:List D} {b:List (Int × List Int)},jY c=aw b->b.length=c.length/\∀ (i:Nat) d,c[i]?=aw d->∃w,b[i]?=aw w/\d = .tup [.int w.1,.tup (w.2.map D.int)]
 |[],_,e=>by cases e;exact⟨rfl,λi d h=>by simp at h⟩
 |d::c,b,e=>by
  simp only[jY] at e;split at e
  ·rename_i w u j v;cases e;obtain⟨l,r⟩:=qg v;refine⟨by rw[Zo,Zo,l],λi k h=>?_⟩;cases i with
   |zero=>
    cases h;refine⟨w,rfl,?_⟩;unfold BW at j;split at j
    ·rename_i n y;obtain⟨ns,q,rfl⟩:=ZD.mp j;rw[ci q]
    ·cases j
   |succ i=>exact r i k (by simpa using h)
  ·cases e
section
variable {X:Cx} {K:Vp} {m:List Addr} {H:Hp} {S:Sto} {e:Expr} {t:TA} {p pos kp vp:Pos} {j:Nat}
def oq{c:List (Addr × Obj)}{O:L2.St}{s:Shared}(I:Inv X c O H s){n:Int}{ns:List Int}{v:V}{u:Value}(vd:VD X.K m H (.tup [.int n,.tup (ns.map D.int)]) v)(r:aB v u) :
  ∃l t q o nn d sl xs,u = .ref l/\o=(⟨.type "tuple", d,.seq #[.int n t,.ref q] nn,sl⟩:Obj)/\s.heap.get? l=aw o/\IsTup s.heap q xs/\IntsAre xs.toList ns:=by
 obtain⟨l,vs,rfl,J,Q⟩:=vd.tups;obtain⟨a,b,rfl,va,C⟩:=Bq Q;clear Q;cases va.ints;obtain⟨q,ws,rfl,Z,qs⟩:=C.tups;have ew:=bA qs;subst ew;cases r;obtain⟨_,its,U,o,h1,B,nn,k,h4⟩:=I.hok l _ J;obtain⟨x,y,rfl,r1,r2⟩:=nQ U;obtain⟨T,rfl⟩:=r1;cases r2;obtain⟨xs,L,Y,_⟩:=I.tuple (.of Z);obtain⟨cls,d,z,sl⟩:=o;simp only at B k;subst B k;exact⟨l,T,q,_,nn,d,sl,xs.toArray,rfl,rfl,h1,Y,by simpa using bc L⟩
def Lp(hu:X.A.units+64 < cLine)(hc:X.calm=aN)(hg:Gl X "min")(hm:X.mg "min" = aD)(hdb:(("min" : Str) == ("__debug__" : Str))=aS)(ha:PA X [e] t)(he:Uv [e] X.env=(aS,eval e X.env)::Uv [] X.env) :
  PE X (.Call (.Name "min" p) [e] [⟨aw "default", .Constant .none j vp,kp⟩] pos) (tCB (r1 (rSq X.K nF)) t):=by
 intro k s σ H Q I h;refine UB (eP I hg hm WI ?_ (by decide) hdb);refine callWith_kw (thn (ha pos k s σ H _ I h) λus s1 ⟨vs,H1,I1,r,q1⟩=>?_) (by rw[he];rfl) (by rw[he];rfl) rfl rfl;refine thn (wX (nm:=aw "default") (kpos:=kp) (Ao (X:=X) (j:=j) (pos:=vp)) AI pos k s1 σ H1 _ I1 (show cf (tC .non) jh σ H1 (λzs c=>zs=[.non]/\c=H1) from ⟨rfl,rfl⟩)) λks s2 ⟨zs,c,C,rz,ez,eH⟩=>?_;subst ez eH;obtain⟨u,rfl,ru⟩:=cb rz;cases ru;obtain⟨_,rfl,m,S,tu,B,a,ws,d,S',R,rfl,sq,vd,Y,q⟩:=cV q1;obtain⟨u',rfl,ru'⟩:=cb r;cases ru';unfold nF at Y;split at Y
 ·rename_i wl hw;cases Y;obtain⟨lw,at_⟩:=qg hw;have sq:SqL X.K c a ws:=sq;obtain⟨b,rv,pl,hz⟩:=C.list sq;have ld:=vd.length;have lr:=rv.length
  have there:∀ (i:Nat) v,b.toArray[i]?=aw v->∃x d,B[i]?=aw d/\wl[i]?=aw x/\d = .tup [.int x.1,.tup (x.2.map D.int)]/\∃y,ws[i]?=aw y/\VD X.K m c d y/\aB y v:=λi v J=>by
   have J:b[i]?=aw v:=by simpa using J
   have hi:i < B.length:=by have:=(Zb.mp J).1;lia
   obtain⟨y,U,vy⟩:=vd.get (gEG hi);obtain⟨v',L,ry⟩:=rv.get U;rw[J] at L;cases L;obtain⟨x,T,ex⟩:=at_ i _ (gEG hi);exact⟨x,_,gEG hi,T,ex,y,U,vy,ry⟩
  refine BV (bt:=cy wl) (C.ok.hd hc) pl.isList ?_ (λO v h' tk' J hk=>?_) (λO h' tk' hk=>?_)
  ·intro i j vi vj s3 Q3 E3 kp pi pj hq;obtain⟨x,d1,l,T,rfl,y1,_,v1,r1⟩:=there i vi pi;obtain⟨y,d2,hd2,U,rfl,y2,_,v2,r2⟩:=there j vj pj;obtain⟨l1,t1,p1,o1,n1,dd1,sl1,Z,rfl,rfl,g1,tp1,i1⟩:=oq C v1 r1;obtain⟨l2,t2,p2,o2,n2,dd2,sl2,xs2,rfl,rfl,g2,tp2,i2⟩:=oq C v2 r2
   have e:cy wl i j=bx x y:=by
    unfold cy;rw[Zm,Zm,T,U];rfl
   rw[e] at hq
   exact Uo (op:=.Lt) ⟨_,kp _ _ g1,rfl⟩ ⟨_,kp _ _ g2,rfl⟩ Vc W1 (WX _ _) (nD l1 l2 x.1 y.1 t1 t2 p1 p2 n1 n2 dd1 dd2 sl1 sl2 x.2 y.2)
    ⟨kp _ _ g1,kp _ _ g2,⟨Z,xs2,tp1.keeps kp,tp2.keeps kp,i1,i2⟩,(show X.A.units+1+1 < cLine by lia),show Value.bool (bx x y) ≠ Value.notImplemented/\Q3 (.bool (bx x y)) s3 from ⟨(λz=>nomatch z),hq⟩⟩ (show X.A.units+1 < cLine by lia)
  ·have hn:0 < B.length:=by have:b.toArray.size=b.length:=Zk;lia
   obtain⟨x,d1,l,T,ed,y1,_,v1,r1⟩:=there _ v J;have e:b.toArray.size=B.length:=by rw[Zk];lia
   rw[e] at l;refine⟨y1,c,C.kept hk,r1,?_⟩;rw[show B.getD (argBest (cy wl) (B.length - 1)) .non=d1 by rw[Zm,l];rfl] at q;exact q m c _ (Aft.refl R) v1
  ·have en:B=[]:=Z9.mp (by rw[Zk] at O;lia);subst en;exact⟨.non,c,C.kept hk,rfl,q m c _ (Aft.refl R) pV⟩
 ·cases Y
end
end Ev
namespace L2
open PySem PySem.Spec PyProof.Rows PySem.SeqAt AutoSeq1
def Lq{j:Type}(f:Nat->j->Sem (ForInStep j))(I:Nat->j->Shared->Prop)(Q:j->Shared->Prop)(n:Nat)
  (turn:∀i b s,i < n->I i b s->wpAny M A (f i b) (λr k=>match r with |.yield B=>I (i+1) B k |.done B=>Q B k) E s)
  (fin:∀b s,I n b s->Q b s) (b:j) (h:I 0 b s):wpAny M A (forIn [0:n] b f) Q E s:=by
 rw[Std.Legacy.Range.forIn_eq_forIn_range'];refine UH _ (λc b s=>∃i,i<=n/\c=List.range' i (n - i)/\I i b s) _ (λx c b s ⟨i,hi,e,h⟩=>?_) (λb s ⟨i,hi,e,h⟩=>?_) _ _ ⟨0,Z5 _,by simp[Std.Legacy.Range.size],h⟩
 ·have d:i < n:=Nat.lt_of_not_le λz=>by rw[show n - i=0 by omega] at e;cases e
  rw[show n - i=(n - i - 1)+1 by omega,List.range'_succ] at e;cases e;refine UM (turn _ b s d h) (λr k l=>?_) λ_ _ u=>u;cases r with
  |done B=>exact l
  |yield B=>exact⟨x+1,d,by rw[show n - x - 1=n - (x+1) by omega],l⟩
 ·have:n - i=0:=by
   cases q:n - i with
   |zero=>rfl
   |succ m=>rw[q,List.range'_succ] at e;cases e
  obtain rfl:i=n:=by omega
  exact fin b s h
def nG(l:Addr)(I:Array Value)(n:Nat)(L:Option Addr)(sl:Array (Option Value))(x:Value)(e:Value->Bool)(j:Nat)(U:j < I.size)
  (k:e I[j]=aN) (v:∀m (Q:m < I.size),m < j->e I[m]=aS) :
  Meets (Builtin.«tuple.index» ⟨[.ref l,x],[]⟩)
   (λA R s=>s.heap.get? l=aw { cls:=.type "tuple", dict:=L,data:=.seq I n,slots:=sl }/\(∀y,y ∈ I->EqAt A.in1 s y x (e y))/\R (.ok (.ret (.int j s.toks))) { s with toks:=s.toks+1 }):=
 .of_wp λprog w A R s h=>by
  obtain⟨B,g,d,T,os⟩:=s;obtain⟨z,O,h⟩:=h
  wp_walk using UL z,Lq _ (λi b u=>b.1=aD/\i<=j/\u=⟨B,g,d,T,os⟩) _
  case turn=>
   rintro i b u hi ⟨hb,C,rfl⟩;have c:i < I.size:=by simpa using hi
   rw[Array.getElem?_eq_getElem c];refine UC (O _ (X9 c) prog w _ _ ?_);by_cases q:i=j
   ·subst q;rw[k]
    wp_walk
    exact⟨_,rfl,h⟩
   ·rw[v i c (by omega)]
    wp_walk
    exact⟨rfl,by omega,rfl⟩
  case fin=>
   rintro b u ⟨_,J,_⟩;rw[WC] at J;omega
  case h=>exact⟨rfl,Z5 _,rfl⟩
end L2
namespace L2
open PySem PySem.Spec PyProof.Rows PySem.SeqAt AutoSeq1
variable {P:Program} {w:World} {A:Around} {E:Value->Shared->Prop} {s:Shared} {d it:Addr} {o:Obj} {es:Array DictEntry} {ep i:Nat}
end L2
namespace L2
open PySem PySem.Spec PyProof.Rows PySem.SeqAt AutoSeq1
section
variable {P:Program} {w:World} {A:Around} {E:Value->Shared->Prop} {s:Shared} {r:Addr} {n:Nat} {t u v:Tok}
@[inline]abbrev Jf:Nat->Value->Prop:=λi v=>∃t,v = .int (0+i * 1) t
def nI(J:A.handled=aD)(B:IsRange s.heap r 0 n 1 t u v)(y:Builtin.Range.small 0 n 1=aN)(I:Builtin.Range.rangeSize 0 n 1=n)(q:n<=2 ^ 24)
  (L:∀ (h':Heap) (T:Nat) (j:Array Value),s.heap.objs.size<=h'.objs.size->(∀b o,s.heap.get? b=aw o->h'.get? b=aw o)->ItemsOf Jf j n->Q j.toList { s with heap:=h',toks:=T }):wpAny (model P w) A (collect (.ref r)) Q E s:=by
 unfold collect;refine UC (wpAny_runValue (VZ F.entry_proto_collect ?_));rw[Around.under_plainId F.plain_proto_collect _];show wpAny _ A.in1 (newList [] >>= λl=>again (.builtin "list.__iadd__" ⟨[l,.ref r],[]⟩)) _ _ s;refine UC (UP ?_);refine US ⟨Ui F.plain_list_iadd _,VZ F.entry_list_iadd ?_⟩;rw[Around.under_plainId F.plain_list_iadd _];have C:(s.heap.push { cls:=.type "list", data:=.seq ([]:List Value).toArray }).get? s.heap.objs.size=aw { cls:=.type "list", data:=.seq ([]:List Value).toArray }:=Zu _ rfl;show wpAny _ A.in1 (Builtin.List.listExtendWith (.ref s.heap.objs.size) (.ref r) (.ref s.heap.objs.size)) _ _ _;refine wpAny_extend_range (A:=A) (n:=n) (R:=λr z=>match r with |.ok (.ret v)=>wpAny (model P w) A (match v with |.ref a=>(do match (<-load a).data with |.seq xs _=>pure xs.toList |_=>UA "internal:collect") |_=>UA "internal:collect") Q E z |.ok _=>False |.error e=>E e z) (s:={ s with heap:=s.heap.push { cls:=.type "list", data:=.seq ([]:List Value).toArray } }) (c₀:=0) J (Zd _ B) y I q _ _ C λh' T k U O c d=>?_;show wpAny _ A (load s.heap.objs.size >>= _) _ _ _;refine UC (wpAny_load c ?_);exact US (L h' T k (Y4 (Zs c)) (λb o e=>O b o (ZH (Zs e)) (Zd _ e)) d)
def sU(X:A.handled=aD)(B:IsRange s.heap r 0 n 1 t u v)(l:Builtin.Range.small 0 n 1=aN)(Y:Builtin.Range.rangeSize 0 n 1=n)(k:n<=2 ^ 24)
  (L:∀ (h':Heap) (T:Nat) (acc:Array Value),s.heap.objs.size<=h'.objs.size->(∀b o,s.heap.get? b=aw o->h'.get? b=aw o)->ItemsOf Jf acc n->Q (.ref h'.objs.size) { s with heap:=h'.push { cls:=.type "tuple", data:=.seq acc },toks:=T }):wpAny (model P w) A (call (.type "tuple") [.ref r]) Q E s:=by
 refine callType_codes (Q₁:=λobj c=>c.TypeIs obj "tuple"/\Q obj c) F.called_tuple (F.typeCall_tuple_1 _) F.entry_object_init ?_ λobj c d=>?_
 ·refine codeAny_call_builtin F.plain_tuple_new F.entry_tuple_new (UQ (F.newCall_tuple_1 _) ?_);have z:=sub_tuple_self;have y:=init_tuple_lookup;have U:=madeHere_tuple;have O:s.TypeIs (.ref r) "range" := ⟨_,B,rfl⟩;have C:=F.sub_range_tuple;have J:=λ(Q:List Value->Shared->Prop) (E:Value->Shared->Prop)=>nI (P:=P) (w:=w) (A:=A.in1.in1) (E:=E) (Q:=Q) (s:=s) (show A.in1.in1.handled=aD from X) B l Y k
  wp_walk using U4 O,J _ _
  intro h' T acc q I j;refine UC (US ?_);show wpAny _ _ (Builtin.Tuple.tupleExact acc.toList.toArray >>= λv=>ret v) _ _ _;unfold Builtin.Tuple.tupleExact;have e:acc.toList.toArray=acc:=by simp
  rw[e];refine UC (UP ?_ (by show acc.size<=sizeLine;rw[j.1,Ut];omega));exact US ⟨⟨_,Zu _ rfl,rfl⟩,L h' T acc q I j⟩
 ·exact⟨d.1,WU obj _,object_init_meets F.called_tuple.init.lookup F.called_tuple.made (by decide) P w A.in1 _ c ⟨d.1,rfl,d.2⟩⟩
end
end L2
namespace Ev
open PySem PySem.Spec PyProof.Rows L2
open PySem.W (KasT kas_sort kas_ask)
section
variable {prog:Program} {w:World} {A:Around} {E:Value->Shared->Prop} {s:Shared} {a kS:Addr} {vs:List Value} {f:Value} {P:PySem.Fin->Shared->Prop} {e1:Nat}
def BX(J:Nat->Array Value->Shared->Prop)(C:vs.length<=1000)(sz:∀i b c,J i b c->b.size=i)(at_:∀i b c,J i b c->∃e,c.heap.get? kS=aw (seqObj "list" b e))
  (turn:∀i v b c,vs[i]?=aw v->J i b c->wpAny (model prog w) A (call f [v]) (λk l=>(∃e,l.heap.get? kS=aw (seqObj "list" b e))/\J (i+1) (b.push k) { l with heap:=l.heap.update kS (Obj.mapSeq (·.push k)) }) (λ_ _=>False) c)
  (fin:∀b c,J vs.length b c->wpAny (model prog w) A (ksk_end a aS vs.toArray e1 (.ref kS) b) P E c) (B:J 0 #[] s):wpAny (model prog w) A (ksk_rest a f aS vs.toArray e1 (.ref kS)) P E s:=by
 unfold ksk_rest;refine UC (UX ?_)
 first
  |rw[List.forIn_toArray]
  |(rw[<-YC];simp only[XV])
  |rw[<-YC]
 refine UC (ksk_fold (λi c=>∃b,J i b c) vs 0 s ⟨#[],B⟩ (λj x c y d=>?_) λc d=>?_)
 ·obtain⟨b,d⟩:=d;rw[Yx] at d ⊢;have L:=(Zb.mp y).1;have O:=sz _ _ _ d;refine UC (wpAny_attempt (UM (turn j x b c y d) (λk l I=>?_) λ_ _ z=>z.elim));obtain⟨⟨e,u⟩,q⟩:=I
  try dsimp only
  refine UC (listUpdate_at u rfl ?_ (by rw[Ut];omega) (ZX (WD (Wn ..)) (by rw[Ut];omega)));exact US ⟨rfl,b.push k,q⟩
 ·obtain⟨b,d⟩:=d;rw[Yx] at d;obtain⟨e,u⟩:=at_ _ _ _ d
  try dsimp only
  exact UC (listItems_at u rfl (fin b c d))
def FH{e:Nat}(U:SortKind)(lt:Nat->Nat->Bool)(Z:s.heap.get? kS=aw (seqObj "list" k e))(X:s.heap.get? a=aw (seqObj "list" #[] e1))(L:kS ≠ a)(hl:k.toList.length=vs.length)(v:eD lt vs.length)
  (kd:2<=vs.length->∀ (Q:SortKind->Shared->Prop),Q U s->wpAny (model prog w) A (keyKind' k) Q E s)
  (B:∀i j,i < vs.length->j < vs.length->∀C:Bool->Shared->Prop,C (lt i j) s->kas_ask prog w A U k.toList i j C s)
  (h:∀h' c,(∀b o,b ≠ a->b ≠ kS->s.heap.get? b=aw o->h'.get? b=aw o)->h'.get? a=aw (seqObj "list" (if vs.length < 2 then vs.toArray else Yr ((bV lt vs.length).toList.map λi=>vs.getD i Value.none)) c)->h'.objs.size=s.heap.objs.size->P (.done (.ret .none)) { s with heap:=h' }) :
  wpAny (model prog w) A (ksk_end a aS vs.toArray e1 (.ref kS) k) P E s:=by
 have J:=v.le;have kz:k.size=vs.length:=by rw[<-Zt];exact hl
 have tail:∀ {st:SortSt} {out:List Value},(arrOf st).map (·.2)=out.toArray->out.length=vs.length->failedOf st=aD->(if vs.length < 2 then vs.toArray else Yr ((bV lt vs.length).toList.map λi=>vs.getD i Value.none))=out.toArray->wpAny (model prog w) A (ksk_tail a aS e1 (.ref kS) st) P E s:=λ{st out} ho hlo y he=>by
  have T:=Heap.SameBut.update s.heap kS (Obj.mapSeq λ_=>(#[]:Array Value));have d:(s.heap.update kS (Obj.mapSeq λ_=>(#[]:Array Value))).get? a=aw (seqObj "list" #[] e1):=(T.2 a L.symm).trans X;obtain⟨z,O⟩:∃z,((s.heap.update kS (Obj.mapSeq λ_=>(#[]:Array Value))).update a (Obj.mapSeq λ_=>(arrOf st).map (·.2))).get? a=aw (seqObj "list" ((arrOf st).map (·.2)) z):=⟨_,get?_update_seq d λ_=>(arrOf st).map (·.2)⟩;have s2:=Heap.SameBut.update (s.heap.update kS (Obj.mapSeq λ_=>(#[]:Array Value))) a (Obj.mapSeq λ_=>(arrOf st).map (·.2));unfold ksk_tail
  try dsimp only
  refine UC (listUpdate_at Z rfl ?_ (by rw[kz,Ut];omega) (Z5 _));refine UC (UK ?_);refine UC (seqEpoch_at d rfl ?_);simp only[ZR,if_false];refine UC (listUpdate_at d rfl ?_ (Z5 _) (by rw[ho,Zk,hlo,Ut];omega));rw[y];simp only[bne_self_eq_false,ZR,if_false];refine US (h _ z (λb o n1 n2 e=>?_) (by rw[he,<-ho];exact O) (by rw[Yl,Yl]));exact(s2.2 b n1).trans ((T.2 b n2).trans e)
 unfold ksk_end
 try dsimp only
 simp only[ZR,if_false];by_cases l:vs.toArray.size < 2
 ·rw[if_pos l,if_pos l];refine UC (US ?_);rw[StateT.run_pure];refine UC (US ?_);dsimp only;refine tail (out:=vs) ?_ rfl rfl (by rw[if_pos (by simpa using l)]);show Array.map (λx:Keyed=>x.2) (k.zip vs.toArray)=_;apply Wf.mp;rw[XD,Wg,Wh (by simp[kz])]
 ·rw[if_neg l,if_neg l];have u:2<=vs.length:=by simpa using l
  refine UC (kd u _ ?_);have er:k.zip vs.toArray=k.toList.toArray.zip vs.toArray:=by rw[Xi]
  rw[er];refine UC (UM (xj hl u v B) ?_ λ_ _ e=>e);rintro⟨⟨⟩,Y⟩ s' ⟨rfl,I,q,y⟩;dsimp only;exact tail (out:=(bV lt vs.length).toList.map λi=>vs.getD i Value.none) (Vx hl I) (by rw[Za,Zt];exact q) y (by rw[if_neg (by omega)])
end
section
variable {prog:Program} {w:World} {A:Around} {E:Value->Shared->Prop} {s:Shared} {l q:Addr} {vs:List Value} {Q:Value->Shared->Prop}
def vL(hl:s.heap.IsList l vs.toArray)(κ:SortKind)(lt:Nat->Nat->Bool)(h64:eD lt vs.length)(J:Nat->Nat->Array Value->Shared->Prop)
  (J0:∀Z u,(∀b o,s.heap.get? b=aw o->Z.get? b=aw o)->Z.get? (s.heap.objs.size+1)=aw (seqObj "list" #[] u)->Z.get? (s.heap.objs.size+3)=aw (seqObj "list" #[] 0)->Z.objs.size=s.heap.objs.size+4->J u 0 #[] { s with heap:=Z })
  (at_:∀u i y d,J u i y d->y.size=i/\(∃e,d.heap.get? (s.heap.objs.size+3)=aw (seqObj "list" y e))/\d.heap.get? (s.heap.objs.size+1)=aw (seqObj "list" #[] u))
  (turn:∀u i v y d,vs[i]?=aw v->J u i y d->wpAny (model prog w) A.in1.in1 (call (.ref q) [v]) (λk U=>(∃e,U.heap.get? (s.heap.objs.size+3)=aw (seqObj "list" y e))/\J u (i+1) (y.push k) { U with heap:=U.heap.update (s.heap.objs.size+3) (Obj.mapSeq (·.push k)) }) (λ_ _=>False) d)
  (kd:∀u y d,J u vs.length y d->2<=vs.length->∀ (A:Around) (E:Value->Shared->Prop) (Q:SortKind->Shared->Prop),Q κ d->wpAny (model prog w) A (keyKind' y) Q E d)
  (B:∀u y d,J u vs.length y d->∀i j,i < vs.length->j < vs.length->∀C:Bool->Shared->Prop,C (lt i j) d->kas_ask prog w A.in1.in1 κ y.toList i j C d)
  (h:∀u y d h' c,J u vs.length y d->(∀b o,b ≠ s.heap.objs.size+1->b ≠ s.heap.objs.size+3->d.heap.get? b=aw o->h'.get? b=aw o)->h'.get? (s.heap.objs.size+1)=aw (seqObj "list" (if vs.length < 2 then vs.toArray else Yr ((bV lt vs.length).toList.map λi=>vs.getD i Value.none)) c)->h'.objs.size=d.heap.objs.size->Q (.ref (s.heap.objs.size+1)) { d with heap:=h' }) :
  wpAny (model prog w) A (call (.builtin "sorted") [.ref l] [(Str.ofString "key", .ref q)]) Q E s:=by
 refine call_function_entry_kw kind_sorted plain_sorted entry_sorted (ksk_s1 _ _) ?_;have X:=h64.le;unfold Builtin.«sorted»;refine UC (m:=checkCount "sorted" 1 1 _) (US ?_);refine UC (collect_list hl ?_ (by rw[Ut];omega));refine UC (UO ?_ (by rw[Ut];omega));have I:((s.heap.push (seqObj "list" #[] 0)).update s.heap.objs.size (Obj.mapSeq (·++vs.toArray))).objs.size=s.heap.objs.size+1:=by rw[Yl,size_push']
 have L:(((s.heap.push (seqObj "list" #[] 0)).update s.heap.objs.size (Obj.mapSeq (·++vs.toArray))).push (seqObj "list" vs.toArray 0)).get? (s.heap.objs.size+1)=aw (seqObj "list" vs.toArray 0):=by
  rw[<-I];exact Zu _ rfl
 have keep:∀b o,s.heap.get? b=aw o->(((s.heap.push (seqObj "list" #[] 0)).update s.heap.objs.size (Obj.mapSeq (·++vs.toArray))).push (seqObj "list" vs.toArray 0)).get? b=aw o:=λb o q=>by
  have B:b < s.heap.objs.size:=Zs q;rw[Y8 _ _ _ (by rw[I];exact ZH (Yw B)),Xq _ _ _ _ (ZH B),Y8 _ _ _ (ZH B)];exact q
 have hs2:(((s.heap.push (seqObj "list" #[] 0)).update s.heap.objs.size (Obj.mapSeq (·++vs.toArray))).push (seqObj "list" vs.toArray 0)).objs.size=s.heap.objs.size+2:=by rw[size_push',I]
 show wpAny _ _ _ _ _ { s with heap:=((s.heap.push (seqObj "list" #[] 0)).update s.heap.objs.size (Obj.mapSeq (·++vs.toArray))).push (seqObj "list" vs.toArray 0) };rw[I];generalize (((s.heap.push (seqObj "list" #[] 0)).update s.heap.objs.size (Obj.mapSeq (·++vs.toArray))).push (seqObj "list" vs.toArray 0))=O at *;refine UC (UJ (wpAny_call_entry_kw slot_list_sort ⟨_,L,rfl⟩ entry_list_sort ?body (ksk_l1 _ _)))
 case body=>
  show wpAny (model prog w) A.in1.in1 (Builtin.«list.sort» ⟨[.ref (s.heap.objs.size+1)],[(Str.ofString "key", .ref q)]⟩) _ _ { s with heap:=O };rw[ksk_t1];unfold ksk_tree;obtain⟨u,ho1⟩:∃u,(O.update (s.heap.objs.size+1) (Obj.mapSeq λ_=>(#[]:Array Value))).get? (s.heap.objs.size+1)=aw (seqObj "list" #[] u):=⟨_,get?_update_seq L λ_=>#[]⟩;have s1:=Heap.SameBut.update O (s.heap.objs.size+1) (Obj.mapSeq λ_=>(#[]:Array Value));refine UC (listItems_at L rfl ?_);refine UC (listUpdate_at L rfl ?_ (by rw[Zk,Ut];omega) (Z5 _));refine UC (seqEpoch_at ho1 rfl ?_);refine UC (wpAny_newTuple ?_ (by show vs.length<=_;rw[Ut];omega));refine UC (UO ?_ (Z5 _));refine UJ ?_;have Y:((O.update (s.heap.objs.size+1) (Obj.mapSeq λ_=>(#[]:Array Value))).push (seqObj "tuple" vs.toArray 0)).objs.size=s.heap.objs.size+3:=by rw[size_push',Yl,hs2]
  have g:∀kS,((O.update (s.heap.objs.size+1) (Obj.mapSeq λ_=>(#[]:Array Value))).push (seqObj "tuple" vs.toArray 0)).objs.size=kS->kS=s.heap.objs.size+3:=λkS e=>by rw[<-e];exact Y
  try dsimp only
  rw[Y];refine BX (s:={ s with heap:=((O.update (s.heap.objs.size+1) (Obj.mapSeq λ_=>(#[]:Array Value))).push (seqObj "tuple" vs.toArray 0)).push (seqObj "list" #[] 0) }) (J u) X (λi y d T=>(at_ u i y d T).1) (λi y d T=>(at_ u i y d T).2.1) (turn u) (λy d T=>?_) (J0 _ u (λb o e=>?_) ?_ ?_ ?_)
  ·obtain⟨z,⟨e,Y⟩,ha⟩:=at_ _ _ _ _ T;refine FH (kS:=s.heap.objs.size+3) (a:=s.heap.objs.size+1) κ lt Y ha (show s.heap.objs.size+3 ≠ s.heap.objs.size+1 by omega) (by rw[Zt];exact z) h64 (λO Q qq=>kd u y d T O _ _ Q qq) (λi j hi hj C c=>B u y d T i j hi hj C c) λh' c k1 k2 k3=>⟨_,rfl,?_⟩;exact US ⟨_,rfl,h u y d h' c T k1 k2 k3⟩
  ·refine Zd _ (Zd _ ?_);exact(s1.2 b (ZH (Yw (Zs e)))).trans (keep b o e)
  ·exact Zd _ (Zd _ ho1)
  ·rw[<-Y];exact Zu _ rfl
  ·rw[size_push',Y]
end
end Ev
namespace L2
open PySem PySem.Spec PyProof.Rows
open PySem.W (kla_fn kla_obj kla_callFunE kla_codeExpr)
def FI{P:Program}{w:World}{K:Vp}{mg:Str->Option Value}{base:Heap}{k:Nat}{q C:Addr}{name d:Str}{j:WO}{body:Expr}{c:Scope}{pm L:Value}{N ps:List Str}{A:Around}{outer:List Env}{s:Shared}{H:Hp}{U:List Value}{B:List V}{Q:VK}{t:TE}
  (S:FnScope N ps c) (X:Room (k+1) A) (O:Env0 P w K mg base A outer s H) (hq:s.heap.get? q=aw (kla_obj name d j body c [] pm C L)) (T:s.heap.CodeRec (.ref C) d)
  (hb:VP (kla_fn name d j body c [] pm (.ref C) L) ⟨U,[]⟩=pure (ps.zip U)) (hl:B.length=ps.length) (r:aM B U)
  (l:PE (iB CX0 P w K mg base N d c q (.ref C) A outer s H E0) body t) (Y:t (dY N B) H Q) :
  codeAny (model P w) A (.call (.ref q) ⟨U,[]⟩) (CR CX0 outer P w H s Q E0) s:=by
 have lim:s.heap.NoLimit:=O.mod.nolimit.keeps λb o e=>(O.bs b o e).1
 have z:∀y ∈ ps.zip U,c.names.lookup y.1=aw .local\/(c.names.lookup y.1=aw .cell/\((VW (s.heap.objs.size+1) c.names []).lookup y.1).isSome=aN):=λ⟨n,v⟩ hy=>by
  rcases S.par n (Xn hy).1 with q |q
  ·exact .inl q
  ·exact .inr ⟨q,Vq _ _ _ (.inl q)⟩
 refine kla_callFunE X.depth hq rfl S.co S.gen rfl T ?_;rw[hb];refine US ?_;refine UN S.kind z λenv he s1 x=>?_;subst he;refine⟨lim.keeps x.toInCall.keep,kla_codeExpr ?_⟩;have I:Inv (iB CX0 P w K mg base N d c q (.ref C) A outer s H E0) [] (dY N B) H s1:=nX S X.hd O hl r x;refine UM (l [] s1 (dY N B) H _ I Y) (λu s' hs=>?_) λe s' hs=>hs;obtain⟨v,H',J,Z,q⟩:=hs;exact⟨v,H',J.os,J.bare,J.base,J.hok,Z,q⟩
end L2
namespace L2
open PySem PySem.Spec PyProof.Rows
open PySem.W (kla_fn kla_obj kla_eval kla_makeFunction kla_makeFunctionHit CodeHd tabObj)
abbrev fnO(q:Addr)(o:Obj):HO:=.ext λh=>h.get? q=aw o
def PU(x:h.CodeRec (.ref C) q):a9 P w H h C (cdO C q):=by
 obtain⟨c,O,v,t,e,b,r⟩:=x;cases e;exact⟨⟨C,O,v,t,rfl,b,r⟩,⟨O,b⟩,λj d ⟨c,O,v,t,e,b,r⟩ k=>by cases e;exact⟨C,O,v,t,rfl,k _ b,r⟩⟩
def Jg(x:h.get? q=aw o):a9 P w H h q (fnO q o):=⟨x,⟨o,x⟩,λb c e k=>k _ e⟩
def Inv.grow{t':Nat}(I:Inv X j U H s)(d:H T=aw (.tbl ps))(k:l T=aw (.tbl (ps++more)))
  (kp:∀b o,b ≠ T->s.heap.get? b=aw o->h'.get? b=aw o) (C:h'.get? T=aw { cls:=.none,data:=.fields (ps++more) })
  (O:∀b o,b ≠ T->H b=aw o->l b=aw o) (J:∀b o,l b=aw o->(b=T\/H b=aw o)\/(s.heap.objs.size<=b/\a9 X.prog X.w l h' b o)):Inv X j U l { s with heap:=h',toks:=t' }:=by
 have tT:=I.hok T _ d;have tT:s.heap.get? T=aw { cls:=.none,data:=.fields ps }:=tT;have neT:∀ {b:Addr},H b=aD->b ≠ T:=λe z=>by rw[z,d] at e;cases e
 refine I.step (g':=s.gens) (d':=s.drawn) (ch:=[]) (λ_ z=>nomatch z) (λb o _ _ _ e n=>kp b o (neT n) e) (λb o _ _ _ e n=>⟨o.slots,kp b o (neT n) e⟩) (λb o _ e n=>?_) (λb o _ e=>?_) (λb Y e=>O b _ (λz=>by rw[z,d] at e;cases e) e) (λb o u e=>O b _ (λz=>by rw[z,d] at e;cases e) e) (λb qs e=>?_) (λm hn=>?_) (λb o e=>?_) I.bare
 ·cases q:l b with
  |none=>rfl
  |some u=>
   rcases J b u q with (z |z) |z
   ·exact absurd z (neT n)
   ·rw[n] at z;cases z
   ·exact absurd (ZC (Zs e) z.1) (ZL _)
 ·by_cases z:b=T
  ·subst z;exact⟨_,C⟩
  ·exact⟨o,kp b o z e⟩
 ·by_cases z:b=T
  ·subst z;rw[d] at e;cases e;exact⟨more,k⟩
  ·exact⟨#[],by rw[O b _ z e];simp⟩
 ·obtain⟨o,L,Q,e,r⟩:=hn;exact⟨o,L,Q,kp _ _ (neT I.free) e,r⟩
 ·by_cases Z:b=T
  ·subst Z;rw[k] at e;cases e;exact C
  ·rcases J b o e with (z |z) |z
   ·exact absurd z Z
   ·refine(I.hok b o z).stay (λB u v c=>?_) (λB c=>O B _ (λz=>by rw[z,d] at c;cases c) c) λB Y c=>O B _ (λz=>by rw[z,d] at c;cases c) c;refine kp B u (λy=>?_) c;rcases v with y' |y'
    ·exact Z (y'.symm.trans y)
    ·rw[y,d] at y';cases y'
   ·exact z.2
def Lr(I:Inv X pins σ H s)(hT:H T=aw (.tbl ps))(B:Vn ps.toList)
  (J:X.env.code = .ref c) (C:CodeHd s.heap c T) (hg:s.heap.Ns Ud mg) (hb:s.heap.BuiltinsAt mg T) (hgT:Ud ≠ T) (hcl:VX j X.env=pure []) (Y:V3 d X.env=([],[]))
  (hin:∀cv,VY u ps.toList=aw cv->∃c',cv = .ref c'/\H c'=aw (cdO c' (X.env.qual ++ "<lambda>")))
  (h:∀c' q L k U s',Inv X pins σ U s'->U T=aw (.tbl L)->Vn L.toList->VY u L.toList=aw (.ref c')->U c'=aw (cdO c' (X.env.qual ++ "<lambda>")) ->
   U q=aw (fnO q (kla_obj "<lambda>" (X.env.qual ++ "<lambda>") d body j [] ((mg "__name__").getD .none) c' k))->(∀b o,b ≠ T->H b=aw o->U b=aw o)->(∀b o,U b=aw o->b=T\/H b=aw o\/s.heap.objs.size<=b)->s.heap.objs.size<=q->Q (.ref q) s') :
  wpAny (model X.prog X.w) X.A (eval (.Lambda d body j u) X.env) Q X.xe s:=by
 have tT:s.heap.get? T=aw { cls:=.none,data:=.fields ps }:=I.hok T _ hT;have lT:=Zs tT;refine kla_eval Y ?_;cases hf:VY u ps.toList with
 |none=>
  refine kla_makeFunction hcl I.ok.glob hg J C tT B hf hgT hb λc' k l tk hx y hlt hrec htb=>?_;have nT:c' ≠ T:=λz=>by rw[z] at y;exact absurd (ZC lT y) (ZL _)
  have qT:l.objs.size ≠ T:=λz=>by have:=ZC lT y;omega
  have qc:l.objs.size ≠ c':=λz=>by omega
  have kp:∀b o,b ≠ T->s.heap.get? b=aw o->(l.push (kla_obj "<lambda>" (X.env.qual ++ "<lambda>") d body j [] ((mg "__name__").getD .none) c' k)).get? b=aw o:=λb o nb e=>Zd _ (hx b o nb e);have gq:(l.push (kla_obj "<lambda>" (X.env.qual ++ "<lambda>") d body j [] ((mg "__name__").getD .none) c' k)).get? l.objs.size=aw (kla_obj "<lambda>" (X.env.qual ++ "<lambda>") d body j [] ((mg "__name__").getD .none) c' k):=Zu _ rfl;have O:∀ {b:Addr},s.heap.objs.size<=b->H b=aD:=λe=>I.hok.fresh e
  refine h c' l.objs.size (ps++#[rawInt u.line,rawInt u.col,.ref c']) k (upd (upd (upd H T (.tbl (ps++#[rawInt u.line,rawInt u.col,.ref c']))) c' (cdO c' (X.env.qual ++ "<lambda>"))) l.objs.size (fnO l.objs.size _)) _
   (I.grow (more:=#[rawInt u.line,rawInt u.col,.ref c']) hT ?_ kp (Zd _ htb) (λb o nb e=>?_) λb o e=>?_) ?_ ?_ ?_ ?_ az (λb o nb e=>?_) (λb o e=>?_) (by omega)
  ·rw[ac qT.symm,ac nT.symm,az]
  ·rw[ac (λz=>by rw[z,O (by omega)] at e;cases e),ac (λz=>by rw[z,O y] at e;cases e),ac nb];exact e
  ·by_cases Z:b=l.objs.size
   ·subst Z;rw[az] at e;cases e;exact .inr ⟨by omega,Jg gq⟩
   ·rw[ac Z] at e;by_cases z2:b=c'
    ·subst z2;rw[az] at e;cases e;exact .inr ⟨y,PU (hrec.push _)⟩
    ·rw[ac z2] at e;by_cases z3:b=T
     ·exact .inl (.inl z3)
     ·rw[ac z3] at e;exact .inl (.inr e)
  ·rw[ac qT.symm,ac nT.symm,az]
  ·rw[XY];exact TriplesOk_snoc _ _ _ _ B
  ·rw[XY];exact codeAmong_snoc _ B hf
  ·rw[ac qc.symm,az]
  ·rw[ac (λz=>by rw[z,O (by omega)] at e;cases e),ac (λz=>by rw[z,O y] at e;cases e),ac nb];exact e
  ·by_cases Z:b=l.objs.size
   ·exact .inr (.inr (by rw[Z];omega))
   ·rw[ac Z] at e;by_cases z2:b=c'
    ·exact .inr (.inr (by rw[z2];omega))
    ·rw[ac z2] at e;by_cases z3:b=T
     ·exact .inl z3
     ·rw[ac z3] at e;exact .inr (.inl e)
 |some cv=>
  obtain⟨c',rfl,hc'⟩:=hin cv hf;refine kla_makeFunctionHit hcl I.ok.glob hg J C tT B hf hb λk l tk hk v=>?_;have kp:∀b o,b ≠ T->s.heap.get? b=aw o->(l.push (kla_obj "<lambda>" (X.env.qual ++ "<lambda>") d body j [] ((mg "__name__").getD .none) c' k)).get? b=aw o:=λb o _ e=>Zd _ (hk b o e);have gq:(l.push (kla_obj "<lambda>" (X.env.qual ++ "<lambda>") d body j [] ((mg "__name__").getD .none) c' k)).get? l.objs.size=aw (kla_obj "<lambda>" (X.env.qual ++ "<lambda>") d body j [] ((mg "__name__").getD .none) c' k):=Zu _ rfl;have O:∀ {b:Addr},s.heap.objs.size<=b->H b=aD:=λe=>I.hok.fresh e;have qT:l.objs.size ≠ T:=λz=>absurd (ZC lT (z ▸ v)) (ZL _);have qc:l.objs.size ≠ c':=λz=>absurd (ZC (I.hok.lt hc') (z ▸ v)) (ZL _);refine h c' l.objs.size ps k (upd H l.objs.size (fnO l.objs.size _)) _ (I.grow (more:=#[]) hT ?_ kp ?_ (λb o nb e=>?_) λb o e=>?_) ?_ B hf ?_ az (λb o nb e=>?_) (λb o e=>?_) v
  ·rw[ac qT.symm,X5];exact hT
  ·rw[X5];exact Zd _ (hk _ _ tT)
  ·rw[ac (λz=>by rw[z,O v] at e;cases e)];exact e
  ·by_cases Z:b=l.objs.size
   ·subst Z;rw[az] at e;cases e;exact .inr ⟨v,Jg gq⟩
   ·rw[ac Z] at e;exact .inl (.inr e)
  ·rw[ac qT.symm];exact hT
  ·rw[ac qc.symm];exact hc'
  ·rw[ac (λz=>by rw[z,O v] at e;cases e)];exact e
  ·by_cases Z:b=l.objs.size
   ·exact .inr (.inr (by rw[Z];omega))
   ·rw[ac Z] at e;exact .inr (.inl e)
end L2
namespace Ev
open PySem PySem.Spec PyProof.Rows L2
open PySem.W (KasT kas_sort kas_ask)
abbrev FJ(H:Hp)(k:V->List V)(v:List V)(ks:List Value):Prop:=ks.length<=v.length/\∀ (j:Nat) x,j < ks.length->v[j]?=aw x->∃r,ks[j]?=aw (.ref r)/\H r=aw (.tup (k x))
section
variable {X:Cx} {pins:List (Addr × Obj)} {σ:L2.St} {H:Hp} {s:Shared} {l q:Addr} {vs:List V} {Q:Value->Shared->Prop}
def gQ(r:aM vs its):∀ {is:List Nat},aM (is.map λi=>vs.getD i .non) (is.map λi=>its.getD i Value.none)
 |[]=>.nil
 | i::is=>.cons (by
   show L2.aB (vs.getD i .non) (its.getD i Value.none);by_cases h:i < vs.length
   ·obtain⟨u,b,c⟩:=r.get (gEG h);rw[Zm,Zm,b,gEG h];exact c
   ·rw[Zm,Zm,Zr (by omega),Zr (by rw[<-r.length];omega)];exact rfl) (gQ r)
def zq(I:L2.Inv X pins σ H s)(hl:SqL X.K H l vs)(κ:SortKind)(lt:Nat->Nat->Bool)(h64:eD lt vs.length)(key:V->List V)
  (hlam:∀ (B:Shared) (d:Hp) (x:V) (u:Value),Env0 X.prog X.w X.K X.mg X.base X.A.in1.in1 X.stack B d->(∀b o,H b=aw o->d b=aw o)->x ∈ vs->aB x u->codeAny (model X.prog X.w) X.A.in1.in1 (.call (.ref q) ⟨[u],[]⟩) (CR CX0 X.stack X.prog X.w d B (λv T=>(∃r,v = .ref r/\T r=aw (.tup (key x)))/\∀b o,d b=aw o->T b=aw o) E0) B)
  (kd:∀B d ks,L2.Inv X pins σ d B->FJ d key vs ks->ks.length=vs.length->(∀b o,H b=aw o->d b=aw o)->2<=vs.length->∀ (A:Around) (E:Value->Shared->Prop) (Q:SortKind->Shared->Prop),Q κ B->wpAny (model X.prog X.w) A (keyKind' ks.toArray) Q E B)
  (hlt:∀B d ks,L2.Inv X pins σ d B->FJ d key vs ks->ks.length=vs.length->(∀b o,H b=aw o->d b=aw o)->∀i j,i < vs.length->j < vs.length->∀C:Bool->Shared->Prop,C (lt i j) B->kas_ask X.prog X.w X.A.in1.in1 κ ks i j C B)
  (h:∀a d B,L2.Inv X pins σ d B->d a=aw (.lst (if vs.length < 2 then vs else (bV lt vs.length).toList.map λi=>vs.getD i .non))->H a=aD->(∀b o,H b=aw o->d b=aw o)->Q (.ref a) B) :
  wpAny (model X.prog X.w) X.A (call (.builtin "sorted") [.ref l] [(Str.ofString "key", .ref q)]) Q X.xe s:=by
 have h1000:=h64.le;obtain⟨L,rv,pl,hz⟩:=I.list hl;have lv:vs.length=L.length:=rv.length;have Hn:∀ {b:Addr},s.heap.objs.size<=b->H b=aD:=λe=>I.hok.fresh e
 refine vL (J:=λe1 i U B=>∃d,L2.Inv X pins σ d B/\(∀b o,H b=aw o->d b=aw o)/\B.heap.get? (s.heap.objs.size+1)=aw (seqObj "list" #[] e1)/\d (s.heap.objs.size+1)=aD/\(∃e,B.heap.get? (s.heap.objs.size+3)=aw (seqObj "list" U e))/\d (s.heap.objs.size+3)=aD/\U.size=i/\FJ d key vs U.toList)
  pl.isList κ lt (lv ▸ h64) (λh1 e1 k1 k2 k3 k4=>⟨H,I.kept k1,λ_ _ e=>e,k2,Hn (by omega),⟨0,k3⟩,Hn (by omega),rfl,Z5 _,λj x hj=>absurd hj (Wo j)⟩)
  (λe1 i U B hJ=>let ⟨d,_,_,a1,_,a3,_,z,_⟩:=hJ;⟨z,a3,a1⟩) (λe1 i v U B hv hJ=>?turn) (λe1 U B hJ h2 A E Q qq=>?kd) (λe1 U B hJ i j hi hj C c=>?lt) λe1 U B h' c hJ k1 k2 k3=>?fin
 case turn=>
  obtain⟨d,Z,mo,a1,n1,⟨e,a3⟩,n3,z,ky⟩:=hJ
  obtain⟨x,hx,rx⟩:∃x,vs[i]?=aw x/\aB x v:=by
   have hi:i < vs.length:=by rw[lv];exact(Zb.mp hv).1
   obtain⟨u,hu,ru⟩:=rv.get (gEG hi);rw[hv] at hu;cases hu;exact⟨_,gEG hi,ru⟩
  refine wpAny_call (V0 (hlam B d x v Z.env0.in1.in1 mo (Zc hx) rx) λr s'' hq=>?_);cases r with
  |error e=>exact hq.elim
  |ok fl=>
   cases fl with
   |next=>exact False.elim hq
   |brk=>exact False.elim hq
   |cont=>exact False.elim hq
   |ret u=>
    obtain⟨w,T,os,bare,un,hok,rw',⟨r,rfl,hr⟩,mo2⟩:=hq;obtain rfl:u = .ref r:=rw'
    have nst:∀ {b:Addr},s.heap.objs.size<=b->b ∉ frs X.stack:=λ{b} hb hm=>by
     rcases Zn.mp (I.stkSub b hm) with e |e
     ·exact absurd (ZC I.lt (e ▸ hb)) (ZL _)
     ·exact I.nofs hb e
    have b1:=un.keep _ _ a1 n1 (nst (by omega)) (by simp);have b3:=un.keep _ _ a3 n3 (nst (by omega)) (by simp);have m1:=un.free _ _ a1 n1 (by simp);have m3:=un.free _ _ a3 n3 (by simp);obtain⟨v',H3,I3,rv3,⟨e3,eH⟩⟩:=Z.after (Q:=λv H3=>v = .ref r/\H3=T) ⟨.ref r,T,os,bare,un,hok,rfl,rfl,rfl⟩;subst eH;have s1:=Heap.SameBut.update s''.heap (s.heap.objs.size+3) (Obj.mapSeq (·.push (.ref r)));refine⟨⟨e,b3⟩,H3,?_,λb o eb=>mo2 b o (mo b o eb),(s1.2 _ (show s.heap.objs.size+1 ≠ s.heap.objs.size+3 by omega)).trans b1,m1,⟨_,get?_update_seq b3 (·.push (.ref r))⟩,m3,by rw[Wn,z],?_⟩
    ·have tk:=I3.turned (it:=s.heap.objs.size+3) (t':=s''.toks) (λb o nb eb=>(s1.2 b nb).trans eb) m3 (λO=>absurd (Y0 (YS _ 3) (O.symm ▸ I.lt:s.heap.objs.size+3 < s.heap.objs.size)) (ZL _)) (.inr (by have:=I.sz;omega)) (λy c ey O=>by
      obtain⟨vv,oo,ho,_⟩:=I.cell y c ey;exact absurd (Y0 (YS _ 3) (O ▸ Zs ho:s.heap.objs.size+3 < s.heap.objs.size)) (ZL _)) (λpp hp O=>absurd (Y0 (YS _ 3) (O ▸ Zs (I.pin pp hp).1:s.heap.objs.size+3 < s.heap.objs.size)) (ZL _))
     exact tk
    ·refine⟨by rw[Xz,Zf,Zq,Zt,z];have:=(Zb.mp hx).1;omega,λj y hj hy=>?_⟩;rw[Xz,Zf,Zq,Zt,z] at hj;rw[Xz];by_cases hji:j < i
     ·obtain⟨rr,er,hr'⟩:=ky.2 j y (by rw[Zt,z];exact hji) hy;exact⟨rr,by rw[Zv (by rw[Zt,z];exact hji)];exact er,mo2 _ _ hr'⟩
     ·obtain rfl:j=i:=by omega
      rw[hx] at hy;cases hy;exact⟨r,by rw[Zp (by rw[Zt,z];exact Zj _),Zt,z,Yd];rfl,hr⟩
 case kd=>
  obtain⟨d,Z,mo,a1,n1,a3,n3,z,ky⟩:=hJ;have:=kd B d U.toList Z ky (by rw[Zt,z,lv]) mo (by omega) A E Q qq
  rwa [Xi] at this
 case lt=>
  obtain⟨d,Z,mo,a1,n1,a3,n3,z,ky⟩:=hJ;exact hlt B d U.toList Z ky (by rw[Zt,z,lv]) mo i j (by omega) (by omega) C c
 case fin=>
  obtain⟨d,Z,mo,a1,n1,⟨e,a3⟩,n3,z,ky⟩:=hJ;have big:∀ {b k:Nat},b=s.heap.objs.size+k->¬ b < s.heap.objs.size:=λ{b k} e=>by omega
  have hch:∀b ∈ [s.heap.objs.size+1,s.heap.objs.size+3],(b ∈ X.ex\/X.s₀.heap.objs.size<=b)/\b ≠ X.env.locals/\(∀x c,X.env.cells.lookup x=aw c->c ≠ b)/\∀p ∈ X.pn++pins,p.1 ≠ b:=λb hb=>by
   obtain⟨k,ek⟩:∃k:Nat,b=s.heap.objs.size+k:=by
    rcases Zn.mp hb with e |hb
    ·exact⟨1,e⟩
    ·exact⟨3,ZE.mp hb⟩
   refine⟨.inr (by have:=I.sz;omega),λO=>big ek (O.symm ▸ I.lt),λy c ey O=>?_,λpp hp O=>big ek (O ▸ Zs (I.pin pp hp).1)⟩;obtain⟨vv,oo,ho,_⟩:=I.cell y c ey;exact big ek (O ▸ Zs ho)
  have out:∃os:List Value,aM (if vs.length < 2 then vs else (bV lt vs.length).toList.map λi=>vs.getD i .non) os/\(if L.length < 2 then L.toArray else Yr ((bV lt L.length).toList.map λi=>L.getD i Value.none))=os.toArray:=by
   rw[lv];by_cases h2:L.length < 2
   ·rw[if_pos h2,if_pos h2];exact⟨L,rv,rfl⟩
   ·rw[if_neg h2,if_neg h2];exact⟨_,gQ rv,rfl⟩
  obtain⟨os,ro,eo⟩:=out;rw[eo] at k2;refine h (s.heap.objs.size+1) (upd d (s.heap.objs.size+1) (.lst _)) { B with heap:=h' } ?_ az (Hn (by omega)) λb o eb=>by rw[ac (λz=>by rw[z,Hn (by omega)] at eb;cases eb)];exact mo b o eb
  have nn:∀ {b u},d b=aw u->b ≠ s.heap.objs.size+1/\b ≠ s.heap.objs.size+3:=λ{b u} e=>⟨(λz=>by rw[z,n1] at e;cases e),(λz=>by rw[z,n3] at e;cases e)⟩;have nc:∀ {b:Addr},b ∉ [s.heap.objs.size+1,s.heap.objs.size+3]->b ≠ s.heap.objs.size+1/\b ≠ s.heap.objs.size+3:=λ{b} hb=>⟨λz=>hb (by simp[z]),λz=>hb (by simp[z])⟩;have cl:=λb hb=>(hch b hb).2.1;refine Z.step (g':=B.gens) (d':=B.drawn) (t':=B.toks) (ch:=[s.heap.objs.size+1,s.heap.objs.size+3]) hch (λb o _ _ Y e _=>k1 b o (nc Y).1 (nc Y).2 e) (λb o _ _ Y e _=>⟨o.slots,k1 b o (nc Y).1 (nc Y).2 e⟩) (λb o Y e n=>by rw[ac (nc Y).1];exact n) (λb o Y e=>⟨o,k1 b o (nc Y).1 (nc Y).2 e⟩) (λb xs e=>by rw[ac (nn e).1];exact e) (λb o u e=>by rw[ac (nn e).1];exact e) (λb ps e=>⟨#[],by rw[ac (nn e).1,e];simp⟩) (λm hm=>?_) (λb u e=>?_) Z.bare
  ·obtain⟨o,es,ep,ho,r⟩:=hm;exact⟨o,es,ep,k1 _ o (Ne.symm (cl _ (by simp))) (Ne.symm (cl _ (by simp))) ho,r⟩
  ·by_cases zb:b=s.heap.objs.size+1
   ·subst zb;rw[az] at e;cases e;refine⟨?_,os,c,ro,k2⟩;have:=ro.length;have e2:=congrArg Array.size eo;rw[this];have e2:_=os.length:=e2.trans Zk;rw[<-e2,Ut];split
    ·rw[Zk];omega
    ·rw[Zk,Za,Zt];have pm:Pm L.length (bV lt L.length):=p9 (lv ▸ h64) (by omega);have:(bV lt L.length).size=L.length:=(Array.Perm.size_eq pm).trans (by simp);omega
   ·rw[ac zb] at e;refine(Z.hok b u e).stay (λb' v hb' q=>k1 b' v ?_ ?_ q) (λb' q=>by rw[ac (nn q).1];exact q) λb' xs q=>by rw[ac (nn q).1];exact q
    ·rcases hb' with y |y
     ·rw[y];exact(nn e).1
     ·exact(nn y).1
    ·rcases hb' with y |y
     ·rw[y];exact(nn e).2
     ·exact(nn y).2
end
section
open PySem.SeqAt
variable {prog:Program} {w:World} {A:Around} {E:Value->Shared->Prop} {s:Shared}
def xr{a b:Int}{n k:Nat}(u:A.units < cLine)(L:s.heap.get? x=aw U)(Q:U.data = .seq #[.int a z,.ref p] n)(Z:s.heap.get? y=aw O)(J:O.data = .seq #[.int b v,.ref q] k)
  (l:IsTup s.heap p xs) (T:IsTup s.heap q Y) (j:IntsAre xs.toList ns) (I:IntsAre Y.toList B) (h:C (bx (a,ns) (b,B)) s):wpAny (model prog w) A (keyLt' (tuples' aN) (.ref x) (.ref y)) C E s:=by
 refine PySem.W.kat_lt L Q Z J ?_;show PySem.W.KatLex prog w A aN _ C [(.int a z,.int b v),(.ref p,.ref q)] 0 s;unfold bx at h;refine wpAny_eqBool_int ?_;cases d:a == b with
 |true=>
  rw[if_pos rfl];rw[if_pos (by simpa using d)] at h;obtain⟨e,X,c⟩:=jq (A:=A) (s:=s) u l T j I;refine X prog w _ _ ?_;cases e with
  |true=>
   have:=c.mp rfl;subst this;rw[lZ] at h;exact h
  |false=>
   rw[if_neg Zh];exact PySem.W.kat_one _ _ (HT.lc l T j I u h)
 |false=>
  rw[if_neg Zh];rw[if_neg (by simpa using d)] at h;exact oneLt_int h
end
end Ev
namespace Ev
open PySem PySem.Spec PyProof.Rows L2
open PySem.W (kas_sort kas_ask KatTups)
abbrev FK(h:Heap)(v:Value)(w:Int × List Int):Prop:=∃r o t p n X,v = .ref r/\h.get? r=aw o/\o.cls = .type "tuple"/\o.data = .seq #[.int w.1 t,.ref p] n/\IsTup h p X/\IntsAre X.toList w.2
def qh:∀ {its:List Value} {ws:List (Int × List Int)},(∀i,i < its.length->FK h (its.getD i Value.none) (ws.getD i (0,[])))->∃fs:List Value,KatTups h its fs/\fs.length=its.length/\∀v ∈ fs,∃i t,v = .int i t
 |[],_,_=>⟨[],KatTups.nil,rfl,λv l=>by simp at l⟩
 |v::its,ws,hp=>by
  obtain⟨r,o,t,p,n,X,j,e,c,hd,_⟩:=hp 0 (by simp)
  obtain⟨fs,k,d,hi⟩:=qh (its:=its) (ws:=ws.tail) λi hi=>by
   have:=hp (i+1) (by simpa using hi);cases ws with
   |nil=>simpa using this
   |cons _ _=>simpa using this
  have b:v = .ref r:=by simpa using j
  subst b
  exact⟨.int (ws.getD 0 (0,[])).1 t::fs,KatTups.cons e c hd rfl k,by simp[d],λw hw=>by
   rcases Zn.mp hw with rfl |hw
   ·exact⟨_,_,rfl⟩
   ·exact hi w hw⟩
inductive LotsV(H:Hp):List V->List (List Int)->Prop where
 |nil:LotsV H [] []
 |cons {r:Addr} {ns:List Int} {vs:List V} {ls:List (List Int)}:H r=aw (.tup (ns.map V.int))->LotsV H vs ls->LotsV H (.ref r::vs) (ns::ls)
def LotsV.at(h:LotsV H v l):v.length=l.length/\∀ (i:Nat) x,v[i]?=aw x->∃r ns,x = .ref r/\l[i]?=aw ns/\H r=aw (.tup (ns.map V.int)):=by
 induction h with
 |nil=>exact⟨rfl,λi x e=>by cases e⟩
 |cons b _ I=>
  refine⟨by simp[I.1],λi x e=>?_⟩;cases i with
  |zero=>cases e;exact⟨_,_,rfl,rfl,b⟩
  |succ i=>exact I.2 i x e
abbrev Ls(H:Hp):V->Int
 | .ref r=>(match H r with
  |some (.tup xs)=>xs.length
  | _=>0)
 |_=>0
abbrev zr(H:Hp)(x:V):List V:=[.int (Ls H x),x]
abbrev bW(l:List (List Int))(i:Nat):Int × List Int:=((l.getD i []).length,l.getD i [])
section
variable {X:Cx} {pins:List (Addr × Obj)} {σ:L2.St} {H:Hp} {s:Shared} {l q:Addr} {vs:List V} {ls:List (List Int)} {Q:Value->Shared->Prop}
def l5(I:L2.Inv X pins σ u Y)(B:LotsV H vs ls)(mo:∀b o,H b=aw o->u b=aw o)(z:FJ u (zr H) vs ks)(hk:ks.length=vs.length)(i:Nat)(hi:i < vs.length):FK Y.heap (ks.getD i Value.none) (bW ls i):=by
 obtain⟨p,ns,ex,d,k⟩:=B.at.2 i _ (gEG hi);obtain⟨r,J,c⟩:=z.2 i _ (by omega) (gEG hi);rw[Zm,J];unfold bW;rw[Zm,d];rw[ex] at c
 have d:Ls H (.ref p)=ns.length:=by
  show(match H p with |some (.tup j)=>(j.length:Int) |_=>0)=_;rw[k];simp
 unfold zr at c;rw[d] at c;obtain⟨_,its,C,o,U,Z,nn,O,h4⟩:=I.hok r _ c;obtain⟨x,y,rfl,r1,r2⟩:=nQ C;obtain⟨T,rfl⟩:=r1;cases r2;obtain⟨j,v,L,_⟩:=I.tuple (.of (mo _ _ k));exact⟨r,o,T,p,nn,j.toArray,rfl,U,Z,O,L,by simpa using bc v⟩
def zt(I:L2.Inv X pins σ H s)(Y:X.A.in1.in1.units < cLine)(hl:SqL X.K H l vs)(O:LotsV H vs ls)(U:eD (λi j=>bx (bW ls i) (bW ls j)) vs.length)
  (z:∀ (k:Shared) (d:Hp) (x:V) (u:Value),Env0 X.prog X.w X.K X.mg X.base X.A.in1.in1 X.stack k d->(∀b o,H b=aw o->d b=aw o)->x ∈ vs->aB x u->codeAny (model X.prog X.w) X.A.in1.in1 (.call (.ref q) ⟨[u],[]⟩) (CR CX0 X.stack X.prog X.w d k (λv y=>(∃r,v = .ref r/\y r=aw (.tup (zr H x)))/\∀b o,d b=aw o->y b=aw o) E0) k)
  (h:∀a d k,L2.Inv X pins σ d k->d a=aw (.lst (if vs.length < 2 then vs else (bV (λi j=>bx (bW ls i) (bW ls j)) vs.length).toList.map λi=>vs.getD i .non))->H a=aD->(∀b o,H b=aw o->d b=aw o)->Q (.ref a) k) :
  wpAny (model X.prog X.w) X.A (call (.builtin "sorted") [.ref l] [(Str.ofString "key", .ref q)]) Q X.xe s:=by
 refine zq I hl (tuples' aN) (λi j=>bx (bW ls i) (bW ls j)) U (zr H) z (λk d ks J L B mo h2 A E Q qq=>?_) (λk d ks J L B mo i j hi hj C c=>?_) h
 ·have ws:∀i,i < ks.length->FK k.heap (ks.getD i Value.none) (((Zg vs.length).map (bW ls)).getD i (0,[])):=λi hi=>by
   have:=l5 J O mo L B i (by omega);have e:((Zg vs.length).map (bW ls)).getD i (0,[])=bW ls i:=by rw[Zm,Zl,Z6 (by omega)];rfl
   rw[e];exact this
  obtain⟨fs,kt,fl,fi⟩:=qh ws
  exact Vw (T:=.type "int") kt (by omega) (λv hv=>by
   obtain⟨i,t,rfl⟩:=fi v hv;exact PySem.W.Looks.of_pure rfl) (by decide) qq
 ·obtain⟨r,o,t,p,n,xs,Z,e2,e3,e4,e5,e6⟩:=l5 J O mo L B i hi;obtain⟨r',o',t',p',n',xs',d1,d2,d3,d4,d5,d6⟩:=l5 J O mo L B j hj;unfold kas_ask;rw[Z,d1];exact xr Y e2 e4 d2 d4 e5 d5 e6 d6 c
end
end Ev
namespace L2
open PySem PySem.Spec PyProof.Rows
abbrev Itd(hi:Int)(n:Nat):It:=⟨λi _=>i < n,λi H x b=>b=H/\x = .int (hi - i),λi _=>n<=i⟩
def zu{P:Program}{w:World}{K:Vp}{tg:Expr}(it:Addr)(lo:Int)(n:Nat):Turn P w K tg (Itd lo n) [it] it (λi h=>Vf h it (lo+(i:Nat) * (-1)) ((n:Int) - (i:Nat)) (-1)) where
 mem:=by simp
 obj:=λi h st b hb=>by
  have e:b=it:=by simpa using hb
  subst e
  exact⟨_,st,λv z=>by
   have z':Data.fields _=Data.cell v:=z;cases z'⟩
 keep:=λi h l st k=>k it (by simp) _ st
 item:=by
  intro X Q q u O i c s Y H E I j st L;subst Q q u;obtain⟨y,J,f2,B,C,T⟩:=j it (by simp);have W:=Walks.range (prog:=X.prog) (w:=X.w) (I.ok.hd O) it lo (-1) n;refine W.item i s _ _ L st λv l U hv d Z=>?_;obtain⟨t,rfl⟩:=hv;have I1:Inv X c Y H { s with heap:=l,toks:=U }:=I.turned (λb o hb e=>Z b o (by simpa using hb) e) y J B C T;refine⟨_,rfl,wV (s:={ s with heap:=l,toks:=U }) (n := "range_iterator") d rfl rfl (by decide) ⟨.int (lo - i),H,I1,⟨t,?_⟩,⟨rfl,rfl⟩,d,λb hb=>(j b hb).1⟩⟩
  congr 1
  omega
 done:=by
  intro X Q q u O i c s Y H E I j st L;subst Q q u;obtain⟨y,J,f2,B,C,T⟩:=j it (by simp);exact UW (I.ok.hd O) st (by have:n<=i:=L;omega) λl eb=>⟨rfl,I.turned (t':=s.toks) (λb o hb e=>eb b o hb e) y J B C T⟩
 self:=λ_ _ _ _ _ st h=>UU st h
section
variable {X:Cx} {tg:Expr}
def vM{a:Int}(c:-(2 ^ 62)<=a)(b:a < 2 ^ 62):Builtin.Range.small a (-1) (-1)=aN:=by
 unfold Builtin.Range.small;rw[VH];simp only[Builtin.Range.rangeFitsLong,bAE,YH,decide_eq_true_eq,beq_iff_eq,show ¬ (-1:Int) > 0 by decide,if_false];split <;> omega
def FL{c:List (Addr × Obj)}{j:St}{H:Hp}{s:Shared}{R:It->Hp->Prop}{E:Value->Shared->Prop}{lo:Int}{t u v:Tok}{T:Nat}(I:Inv X c j H s)(y:-(2 ^ 62)<=lo)(z:lo < 2 ^ 62)
  (q:R (Itd lo (lo+1).toNat) H):wpAny (model X.prog X.w) X.A (pyIter (.ref s.heap.objs.size)) (PIE X c j tg R) E { s with heap:=s.heap.push { cls:=.type "range", data:=.fields #[.int lo t,.int (-1) u,.int (-1) v] },toks:=T }:=by
 refine wpAny_pyIter_range (IsRange.new ..) (vM y z) ?_;have d:Inv X c j H { s with heap:=s.heap.push { cls:=.type "range", data:=.fields #[.int lo t,.int (-1) u,.int (-1) v] },toks:=T }:=I.kept λb o e=>Zd _ e
 refine⟨(s.heap.push { cls:=.type "range", data:=.fields #[.int lo t,.int (-1) u,.int (-1) v] }).objs.size,[(s.heap.push { cls:=.type "range", data:=.fields #[.int lo t,.int (-1) u,.int (-1) v] }).objs.size],_,_,H,rfl,
  d.kept (t':=T) λb o e=>Zd _ e,zu _ lo (lo+1).toNat,?_,λb hb=>?_,q⟩
 ·have k:lo+((0:Nat):Int) * (-1)=lo:=by simp
  have l:(((lo+1).toNat:Nat):Int) - ((0:Nat):Int)=Builtin.Range.rangeSize lo (-1) (-1):=by rw[VH];split <;> omega
  show Vf _ _ (lo+((0:Nat):Int) * (-1)) ((((lo+1).toNat:Nat):Int) - ((0:Nat):Int)) (-1);rw[k,l];exact Zu _ rfl
 ·have e:b=(s.heap.push { cls:=.type "range", data:=.fields #[.int lo t,.int (-1) u,.int (-1) v] }).objs.size:=by simpa using hb
  subst e;exact d.fpOk (Zj _) (d.hok.fresh (Zj _))
abbrev iDn(T:TA):TI:=λc H R=>T c H λv b=>∃i:Int,v=[.int i,.int (-1),.int (-1)]/\(-(2 ^ 62)<=i/\i < 2 ^ 62)/\R (Itd i (i+1).toNat) b
def PV{a b c:Expr}{T:TA}{p d:Pos}(B:Gl X "range")(z:X.mg "range" = aD)(v:PA X [a,b,c] T)(hs:Uv [a,b,c] X.env=(aS,eval a X.env)::Uv [b,c] X.env)(l:(backTo d (Uv [b,c] X.env)).any (·.1)=aS) :
  PI X tg (.Call (.Name "range" p) [a,b,c] [] d) (iDn T):=by
 intro j s y H R I h;refine Call_ (eP I B z boot_range (WM (thn (v d j s y H _ I h) λZ Y ⟨vs,U,C,r1,Q⟩=>?_) hs l));obtain⟨i,e,⟨Q,J⟩,q⟩:=Q;subst e;cases r1 with
 |cons r k=>
  cases k with
  |cons O k=>
   cases k with
   |cons u k=>
    cases k;obtain⟨t,rfl⟩:=r;obtain⟨t',rfl⟩:=O;obtain⟨L,rfl⟩:=u;exact call_range_3 (by decide) (FL C Q J q) (.inl (PyProof.noPylong_of_log2 (by decide +kernel)))
end
end L2
namespace Ev
open PySem PySem.Spec PyProof.Rows L2
abbrev nxD(hi:Int)(n:Nat):Nxt:=λi _=>aw (if i < n then aw (.int (hi - i)) else aD)
section
variable {K:Vp} {m m0:List Addr} {H H0:Hp} {S:Sto} {B:List Addr}
def Lu{lo:Int}{n:Nat}:IOk K B (Itd lo n) (nxD lo n) m0 H0:=by
 intro m S H i x R;unfold nxD;refine⟨λe=>?_,λd e=>?_⟩
 ·split at e
  ·cases e
  ·show n<=i;lia
 ·split at e
  ·rename_i hi;cases e;exact⟨hi,λy j ⟨c,b⟩=>by subst c;subst b;exact⟨Aft.refl R,bp⟩⟩
  ·cases e
abbrev xDn(x:XE):XI:=λc S=>bnd (x c S) λd b=>match d with
 |.int j=>if lim j=aN then aw (nxD j (j+1).toNat,b) else aD
 |_=>aD
def PX(h:tIt K B (xDn x) z H R):iDn (cf (tE K x) (cf (tC (.int (-1))) (cf (tC (.int (-1))) jh))) z H R:=by
 obtain⟨m,u,S,nx,I,E,y,C,e,q⟩:=h;obtain⟨d,c,l,e⟩:=ab e;refine⟨m,u,S,d,c,E,y,l,λm1 j v k vd=>?_⟩;cases d with
 |int i=>
  dsimp only at e;split at e
  ·rename_i b;cases e;exact⟨i,by rw[vd.ints],⟨(fQ b).1,(fQ b).2⟩,q m1 j _ k Lu⟩
  ·cases e
 |_=>cases e
end
end Ev
namespace Ev
open PySem PySem.Spec PyProof.Rows L2
open PySem.W (kas_sort KatTups)
section
variable {X:Cx} {K:Vp} {m:List Addr} {H:Hp} {S:Sto}
abbrev vN(d:D)(b:List D)(S:Sto):Option (D × Sto):=match d,b with
 | .tup ds,[.int x]=>(match bK ds with
  |some ns=>if x ∈ ns then aw (.int (ns.idxOf x:Nat),S) else aD
  | none=>aD)
 |_,_=>aD
def FM:MtR X "tuple.index" (rM X.K vN):=by
 intro O s σ H x xs v us Q I Y rs h;obtain⟨m,S,a,as,d,S',R,va,vs,e,q⟩:=h;unfold vN at e;split at e
 ·rename_i ds z;cases hi:bK ds with
  |none=>rw[hi] at e;cases e
  |some ns=>
   rw[hi] at e;dsimp only at e;split at e
   ·rename_i hm;cases e;obtain⟨p,ws,rfl,Z,l⟩:=va.tups;obtain⟨y,rfl,vy⟩:=Fo vs;have ed:=ci hi;subst ed;have ew:=bA l;subst ew;cases vy.ints;cases Y;obtain⟨u,rfl,U⟩:=cb rs;obtain⟨b,r,⟨⟨cls,dd,J,sl⟩,e,L,n,hd⟩,hz⟩:=I.tuple (SqT.of (K:=X.K) Z);simp only at L hd;subst L hd;have C:b.length=ns.length:=by rw[<-r.length];simp
    have c:ns.idxOf z < ns.length:=YY.mpr hm
    have at_:∀ (j:Nat) (B:j < b.toArray.size) (k:j < ns.length),eqU (.int z) b.toArray[j]=(ns[j] == z):=λj B k=>by
     obtain⟨u,eu,t,rt⟩:=r.get (i:=j) (x:=.int ns[j]) (by rw[Zl,gEG k];rfl)
     have:b.toArray[j]=u:=by
      have:=Zb.mp eu
      simpa using this.2
     rw[this,rt];rfl
    refine VV Va ⟨_,e,rfl⟩ F.entry_tuple_index (F.args_tuple_index_2 _ _) (nG p b.toArray n dd sl u (eqU (.int z)) (ns.idxOf z) (by simpa[C] using c) ?_ λj B k=>?_) ⟨e,λw T=>c7 U rfl r (by simp[dr]) w (by simpa using T),?_⟩
    ·rw[at_ _ (by simpa[C] using c) c,X6 c];simp
    ·rw[at_ _ B (WA k c)];have:=List.not_of_lt_findIdx (p:=(· == z)) (xs:=ns) k
     simpa using this
    ·exact⟨.int _,H,I.tok _,⟨_,rfl⟩,q m H _ (Aft.refl R) bp⟩
   ·cases e
 ·cases e
def sV(hc:X.calm=aN):aX X (.type "tuple") (λxs H Q=>∃ (p:Addr) (n:Nat),xs=[.ref p]/\H p=aw (.rng 0 n)/\n<=1000/\∀l,H l=aD->Q (.ref l) (upd H l (.tup ((Zg n).map λ(i:Nat)=>V.int i)))):=by
 intro U s σ H xs us Q I r h;obtain⟨p,n,rfl,hp,hn,q⟩:=h;obtain⟨u,rfl,Z⟩:=cb r;cases Z;obtain⟨t,u,v,e⟩:=(show a9 X.prog X.w H s.heap p (.rng 0 n) from I.hok p _ hp);have J:Builtin.Range.small 0 n 1=aN:=small_one (by lia) (by lia) (by lia) (by lia);refine sU (n:=n) (I.ok.hd hc) e J (by rw[Ul];split <;> lia) (by lia) λO T d z hk c=>?_;refine⟨.ref O.objs.size,_,I.laid (t':=T) (a:=O.objs.size) (o:=.tup ((Zg n).map λ(i:Nat)=>V.int i)) (λb o e=>Zd _ (hk b o e)) z ?_,rfl,q _ (I.hok.fresh z)⟩;refine⟨by rw[Za,ZB,Ut];lia,d.toList,?_,by simpa using pE.new O d⟩
 have go:∀ (m:Nat) (k:Nat) (l:List Value),l.length=m->(∀j x,l[j]?=aw x->∃T,x=Value.int (((k+j:Nat):Nat):Int) T)->aM ((List.range' k m).map λ(i:Nat)=>V.int i) l:=by
  intro m
  induction m with
  |zero=>intro k l B _;cases l with |nil=>exact .nil |cons _ _=>cases B
  |succ m ih=>
   intro k l B C;cases l with
   |nil=>cases B
   |cons x l=>
    rw[List.range'_succ,Zz];obtain⟨t,e⟩:=C 0 x rfl;refine .cons ⟨t,by simpa using e⟩ (ih (k+1) l (by simpa using B) λj y hy=>?_);obtain⟨t',Y⟩:=C (j+1) y (by simpa using hy);exact⟨t',by rw[Y,show((k+(j+1):Nat):Int)=((k+1+j:Nat):Int) from by lia]⟩
 rw[List.range_eq_range'];refine go n 0 d.toList (by simpa using c.1) λj x C=>?_;obtain⟨L,e⟩:=c.2 j x (by simpa using C);exact⟨L,by rw[e,show(0:Int)+(j:Nat) * 1=((0+j:Nat):Int) from by lia]⟩
abbrev BZ(x:XE):XE:=λc S=>bnd (x c S) λd b=>match d with
 |.int i=>if 0<=i/\i<=1000 then aw (.tup ((Zg i.toNat).map λj=>.int (Int.ofNat j)),b) else aD
 |_=>aD
def FN(f:List Nat):VDs K m H (f.map λj=>D.int (Int.ofNat j)) (f.map λ(j:Nat)=>V.int j):=by
 induction f with
 |nil=>rw[Z7,Z7,VDs]
 |cons i l I=>rw[Zz,Zz,VDs];exact⟨_,_,rfl,bp,I⟩
def FO(h:tE K (BZ x) I H Q):tE K x I H λv b=>∃i:Nat,v = .int i/\i<=1000/\∀p,b p=aD->∀l,upd b p (.rng 0 i) l=aD->Q (.ref l) (upd (upd b p (.rng 0 i)) l (.tup ((Zg i).map λ(j:Nat)=>V.int j))):=by
 obtain⟨m,C,S,O,u,E,R,e,q⟩:=h;obtain⟨d,L,B,e⟩:=ab e;cases d with
 |int i=>
  dsimp only at e;split at e
  ·rename_i hi;cases e;refine⟨m,C,S,.int i,_,E,R,B,λm1 b v c vd=>⟨i.toNat,by rw[vd.ints];congr 1;lia,by lia,λp z l y=>?_⟩⟩;have k:Aft K m1 b u m1 (upd b p (.rng 0 i.toNat)):=⟨Ext.beside c.rel z _,c.rel.beside z _⟩;have J:Aft K m1 (upd b p (.rng 0 i.toNat)) u m1 (upd (upd b p (.rng 0 i.toNat)) l (.tup ((Zg i.toNat).map λ(j:Nat)=>V.int j))):=⟨Ext.beside k.rel y _,k.rel.beside y _⟩;exact q m1 _ _ (c.trans (k.trans J)) (lH az (FN _))
  ·cases e
 |_=>cases e
end
section
variable {X:Cx} {K:Vp} {m:List Addr} {H:Hp} {S:Sto}
abbrev jZ{α:Type}(b:List (Int × List Int))(d:α)(v:List α):List α:=if v.length < 2 then v else (bV (cy b) v.length).toList.map λi=>v.getD i d
abbrev PY(d:List D):Option (List D):=match jY d with
 |some b=>if eD (cy b) d.length then aw (jZ b .non d) else aD
 |none=>aD
abbrev Jh(H:Hp)(c:List V)(b:List (Int × List Int)):Prop:=c.length=b.length/\∀ (i:Nat) v,c[i]?=aw v->∃w r p,b[i]?=aw w/\v = .ref r/\H r=aw (.tup [.int w.1,.ref p])/\H p=aw (.tup (w.2.map V.int))
def vO(hu:X.A.units+64 < cLine):aX X (.builtin "sorted") (λxs H Q=>∃a l k,xs=[.ref a]/\SqL X.K H a l/\Jh H l k/\eD (cy k) l.length/\∀p,H p=aD->Q (.ref p) (upd H p (.lst (jZ k .non l)))):=by
 intro pins s σ H xs us Q I r h;obtain⟨a,l,k,rfl,sq,⟨wl,wv⟩,y,q⟩:=h;obtain⟨u,rfl,ru⟩:=cb r;cases ru;obtain⟨c,L,pl,hz⟩:=I.list sq;have d:=L.length
 have ph:∀i,i < c.length->FK s.heap (c.getD i Value.none) (k.getD i (0,[])):=λi hi=>by
  have B:i < l.length:=by lia
  obtain⟨w,r,p,e1,e2,U,e4⟩:=wv i _ (gEG B);have O:=xk L B;rw[Zm,gEG B,ZT,e2] at O;have O:c.getD i Value.none = .ref r:=O;rw[O,Zm,e1];obtain⟨it2,r2,⟨o,Z,hc,n,hd⟩,_⟩:=I.tuple (SqT.of (K:=X.K) U);obtain⟨u1,u2,rfl,⟨J,rfl⟩,Y⟩:=nQ r2;cases Y;obtain⟨it3,r3,tp,_⟩:=I.tuple (SqT.of (K:=X.K) e4);exact⟨r,o,J,p,n,_,rfl,Z,hc,hd,tp,by simpa using uQ r3⟩
 refine zf pl.isList (tuples' aN) (cy k) (d ▸ y) (λh2 A s' kp E Q' hq=>?_) (λA s' eA kp i j hi hj C hC=>?_) ?_
 ·obtain⟨fs,kt,hf,hi⟩:=qh (h:=s'.heap) (ws:=k) λi hi=>by
   obtain⟨r,o,J,p,n,xs,e1,e2,U,e4,⟨o5,e5,e6⟩,e7⟩:=ph i hi;exact⟨r,o,J,p,n,xs,e1,kp _ _ e2,U,e4,⟨o5,kp _ _ e5,e6⟩,e7⟩
  refine Vw (T:=.type "int") kt (by lia) (λv hv=>?_) (by decide) hq;obtain⟨i,t,rfl⟩:=hi v hv;exact PySem.W.Looks.of_pure rfl
 ·obtain⟨r1,o1,J,p1,n1,x1,a1,a2,a3,a4,⟨o5,a5,a6⟩,a7⟩:=ph i hi;obtain⟨r2,o2,t3,p2,n2,x2,b1,b2,b3,b4,⟨o6,b5,b6⟩,b7⟩:=ph j hj;show wpAny _ A (keyLt' (tuples' aN) (c.getD i Value.none) (c.getD j Value.none)) C _ s';rw[a1,b1];exact xr (by rw[eA];show X.A.units+1+1 < cLine;lia) (kp _ _ a2) a4 (kp _ _ b2) b4 ⟨o5,kp _ _ a5,a6⟩ ⟨o6,kp _ _ b5,b6⟩ a7 b7 hC
 ·have hv:aM (jZ k .non l) (if c.length < 2 then c else (bV (cy k) c.length).toList.map λi=>c.getD i Value.none):=by
   unfold jZ;rw[d];split
   ·exact L
   ·exact oj L _ λi hi=>by rw[d];exact(ju (d ▸ y) (by lia)).1 i hi
  have sl:(jZ k V.non l).length=l.length:=by
   unfold jZ;split
   ·rfl
   ·rw[Za,(ju y (by lia)).2]
  have Z:(if c.length < 2 then c.toArray else Yr ((bV (cy k) c.length).toList.map λi=>c.getD i Value.none))=(if c.length < 2 then c else (bV (cy k) c.length).toList.map λi=>c.getD i Value.none).toArray:=by split <;> rfl
  rw[Z];obtain⟨e,he⟩:=sortedAll_at s.heap c (if c.length < 2 then c else (bV (cy k) c.length).toList.map λi=>c.getD i Value.none).toArray;exact⟨.ref (s.heap.objs.size+1),_,I.laid (t':=s.toks) (a:=s.heap.objs.size+1) (o:=.lst (jZ k .non l)) (λb o z=>sortedAll_old z) (Yt _) ⟨by rw[sl];exact hz,_,e,hv,he⟩,rfl,q _ (I.hok.fresh (Yt _))⟩
abbrev FP(T:Bool)(d:List D):Option (List D):=if T=aS then (match zg T d with
 |some r=>aw r
 | none=>PY d) else Fs d
def PZ{d:List D}{j:List V}{ws:List (Int × List Int)}(e:jY d=aw ws)(h:VDs K m H d j):Jh H j ws:=by
 obtain⟨l,f⟩:=qg e;refine⟨by rw[l,h.length],λi v c=>?_⟩;have hi:i < d.length:=by have:=(Zb.mp c).1;rw[h.length];exact this
 obtain⟨O,k,b⟩:=h.get (gEG hi);rw[c] at k;cases k;obtain⟨w,C,B⟩:=f i _ (gEG hi);rw[B] at b;obtain⟨r,Q,rfl,J,q⟩:=b.tups;obtain⟨x,y,rfl,u,L⟩:=Bq q;cases u.ints;obtain⟨p,Y,rfl,z,I⟩:=L.tups;have:=bA I;subst this;exact⟨w,r,p,C,rfl,J,z⟩
def ot(C:X.A.units+64 < cLine):aX X (.builtin "sorted") (r1 (rTm X.K FP)):=by
 refine aX.imp (aX.or vH (aX.or zh (vO C))) λI H Q h=>?_;obtain⟨_,rfl,m,S,T,j,a,v,y,R,rfl,c,vd,e,q⟩:=cV h;unfold FP at e;split at e
 ·rename_i b;subst b;cases k:zg aS j with
  |some r=>
   rw[k] at e;cases e;exact .inr (.inl ⟨m,S,aS,j,a,v,y,R,rfl,c,vd,k,q⟩)
  |none=>
   rw[k] at e;dsimp only at e;unfold PY at e;split at e
   ·rename_i u l;split at e
    ·rename_i d;cases e;refine .inr (.inr ⟨a,v,u,rfl,c,PZ l vd,by rw[<-vd.length];exact d,iK R ?_ q⟩);unfold jZ;rw[<-vd.length];split
     ·exact vd
     ·exact qb vd _ λi hi=>(ju (by assumption) (by lia)).1 i hi
    ·cases e
   ·cases e
 ·rename_i b;have b:T=aN:=by cases T <;> simp_all
  subst b;unfold Fs at e;cases hi:bK j with
  |none=>rw[hi] at e;cases e
  |some ns=>
   rw[hi] at e;dsimp only at e;split at e
   ·rename_i d;cases e;have z:=ci hi;subst z;have B:=bA vd;subst B;exact .inl ⟨a,ns,rfl,.of c,d,iK R (jp _) q⟩
   ·cases e
end
end Ev
namespace Ev
open PySem PySem.Spec PyProof.Rows L2
open PySem.W (CodeHd kla_obj kla_fn)
abbrev Sy(T:Addr)(d:Pos)(c:Str)(ob:Addr->Value->Obj):TE:=λ_ H Q=>∃ps,TabOk T d c H ps/\∀C q l k j,TabOk T d c j l->j C=aw (cdO C c)->j q=aw (fnO q (ob C k))->H q=aD->(∀b o,b ≠ T->H b=aw o->j b=aw o)->Q (.ref q) j
def Lv(b:X.env.code = .ref c)(C:CodeHd X.base c T)(hb:X.base.BuiltinsAt X.mg T)(v:Ud ≠ T)(y:VX scope X.env=pure [])(j:V3 params X.env=([],[])) :
  PE X (.Lambda params body scope pos) (Sy T pos (X.env.qual ++ "<lambda>") λk d=>kla_obj "<lambda>" (X.env.qual ++ "<lambda>") params body scope [] ((X.mg "__name__").getD .none) k d):=by
 intro z s σ H Q I h;obtain⟨ps,l,h⟩:=h;refine Lr I l.at_ l.tr b (C.keeps I.bk) (I.mod.glob.keeps I.bk) (hb.keeps I.bk) v y j l.cd λk q u d B s' I' U L t3 J Z O new Y=>?_;refine⟨.ref q,B,I',rfl,h k q u d B ⟨U,L,λcv e=>?_⟩ J Z (I.hok.fresh Y) O⟩;rw[t3] at e;cases e;exact⟨k,rfl,J⟩
end Ev
namespace Ev
open PySem PySem.Spec PyProof.Rows L2
open PySem.W (CodeHd kla_obj kla_fn kas_sort)
abbrev Lx(v:List V)(l:List (List Int)):List V:=if v.length < 2 then v else (bV (λi j=>bx (bW l i) (bW l j)) v.length).toList.map λi=>v.getD i .non
abbrev Ji(K:Vp)(T:Addr)(d:Pos)(q:Str)(t:TA):TE:=λy H Q=>t y H λU c=>∃a v l ps,U=[.ref a]/\SqL K c a v/\LotsV c v l/\eD (λi j=>bx (bW l i) (bW l j)) v.length/\a ≠ T/\TabOk T d q c ps/\∀r k u,TabOk T d q k u->k r=aw (.lst (Lx v l))->c r=aD->(∀b o,b ≠ T->c b=aw o->k b=aw o)->Q (.ref r) k
abbrev sW(x:Str)(k d b j l:Pos)(c:Nat):Expr:=.Tuple [.Call (.Name "len" k) [.Name x d] [] b,.Name x j] c l
def FQ{P:Program}{w:World}{K:Vp}{mg:Str->Option Value}{base:Heap}{k cx:Nat}{q C r:Addr}{x name Q:Str}{d:WO}{c:Scope}{pm B:Value}{A:Around}{outer:List Env}{s:Shared}{H:Hp}{ns:List Int}{Y J Z O p5:Pos}
  (S:FnScope [x] [x] c) (j:c.names.lookup x=aw .local) (L:c.names.lookup ("len" : Str)=aw NameKind.globalImplicit) (X:mg "len" = aD) (l:(x == ("__debug__" : Str))=aS) (y:(x == ("__classdict__" : Str))=aS) (hr:Room (k+1) A) (T:Env0 P w K mg base A outer s H)
  (hq:H q=aw (fnO q (kla_obj name Q d (sW x Y J Z O p5 cx) c [] pm C B))) (U:H C=aw (cdO C Q)) (hb:VP (kla_fn name Q d (sW x Y J Z O p5 cx) c [] pm (.ref C) B) ⟨[.ref r],[]⟩=pure [(x,.ref r)]) (I:H r=aw (.tup (ns.map V.int))) :
  codeAny (model P w) A (.call (.ref q) ⟨[.ref r],[]⟩) (CR CX0 outer P w H s (λv u=>(∃t,v = .ref t/\u t=aw (.tup [.int ns.length,.ref r]))/\∀b o,H b=aw o->u b=aw o) E0) s:=by
 have v0:PE (iB CX0 P w K mg base [x] Q c q (.ref C) A outer s H E0) (.Name x J) (yC 0):=uE (i:=0) rfl (.inl j) l y;have v1:PE (iB CX0 P w K mg base [x] Q c q (.ref C) A outer s H E0) (.Name x O) (yC 0):=uE (i:=0) rfl (.inl j) l y;refine FI (t:=Kq (cf (tCB _ (cf (yC 0) jh)) (cf (yC 0) jh))) S hr T (T.hok q _ hq).1 (T.hok C _ U).1 hb rfl (.cons (show L2.aB (.ref r) (.ref r) from rfl) .nil) (AH (kF (fI iG L X VS (kF v0 pG)) (kF v1 pG))) ?_;refine⟨.ref r,rfl,r,_,rfl,.inr (.of I),.ref r,rfl,by rw[Ut];show 2<=16777216;decide,λp hp=>⟨⟨p,rfl,?_⟩,λb o e=>?_⟩⟩
 ·rw[az,Za]
 ·rw[ac (λz=>by rw[z,hp] at e;cases e)];exact e
def LotsV.mono(h:LotsV H v ls)(m:∀b xs,H b=aw (.tup xs)->d b=aw (.tup xs)):LotsV d v ls:=by
 induction h with
 |nil=>exact .nil
 |cons c _ I=>exact .cons (m _ _ c) I
def FR{k cx:Nat}(hr:Room (k+3) X.A)(hg:Gl X "sorted")(hm:X.mg "sorted" = aD)(hdb:(("sorted" : Str) == ("__debug__" : Str))=aS)
  (S:FnScope [x] [x] scope) (hloc:scope.names.lookup x=aw .local) (hgl:scope.names.lookup ("len" : Str)=aw NameKind.globalImplicit) (hml:X.mg "len" = aD) (hd1:(x == ("__debug__" : Str))=aS) (hd2:(x == ("__classdict__" : Str))=aS)
  (O:∀pm B d u,VP (kla_fn "<lambda>" (X.env.qual ++ "<lambda>") params (sW x p1 p2 p3 p4 p5 cx) scope [] pm (.ref B) d) ⟨[u],[]⟩=pure [(x,u)])
  (L:X.env.code = .ref c) (C:CodeHd X.base c T) (hb:X.base.BuiltinsAt X.mg T) (hgT:Ud ≠ T) (hcl:VX scope X.env=pure []) (hdef:V3 params X.env=([],[]))
  (ha:PA X [e] t) (he:Uv [e] X.env=(aS,eval e X.env)::Uv [] X.env) :
  PE X (.Call (.Name "sorted" p) [e] [⟨aw "key", .Lambda params (sW x p1 p2 p3 p4 p5 cx) scope lp,kp⟩] pos) (Ji X.K T lp (X.env.qual ++ "<lambda>") t):=by
 intro J s σ H Q I h;refine UB (eP I hg hm WK ?_ (by decide) hdb);refine callWith_kw (thn (ha pos J s σ H _ I h) λus s1 ⟨vs,H1,I1,r,q1⟩=>?_) (by rw[he];rfl) (by rw[he];rfl) rfl rfl;obtain⟨a,vs',ls,ps,rfl,sq,hL,h64,aT,tb,q⟩:=q1
 refine thn (wX (nm:=aw "key") (kpos:=kp) (Lv (X:=X) (pos:=lp) (params:=params) (body:=sW x p1 p2 p3 p4 p5 cx) (scope:=scope) L C hb hgT hcl hdef) AI pos J s1 σ H1 (λzs v=>∃B Z l d,zs=[.ref Z]/\TabOk T lp (X.env.qual ++ "<lambda>") v l/\v B=aw (cdO B (X.env.qual ++ "<lambda>"))/\v Z=aw (fnO Z (kla_obj "<lambda>" (X.env.qual ++ "<lambda>") params (sW x p1 p2 p3 p4 p5 cx) scope [] ((X.mg "__name__").getD .none) B d))/\∀b o,b ≠ T->H1 b=aw o->v b=aw o) I1
  ⟨ps,tb,λB Z l d H' Y t2 t3 _ U=>⟨B,Z,l,d,rfl,Y,t2,t3,U⟩⟩) λks s2 ⟨zs,v,I2,rz,B,Z,l,d,ez,Y,t2,t3,U⟩=>?_
 subst ez;obtain⟨u,rfl,ru⟩:=cb rz;cases ru;obtain⟨u',rfl,ru'⟩:=cb r;cases ru';have nT:∀ {b xs},H1 b=aw (.tup xs)->b ≠ T:=λ{b xs} e z=>by rw[z,tb.at_] at e;cases e
 have sq2:SqL X.K v a vs':=by
  rcases sq with (z |⟨o,z⟩) |z
  ·exact .inl (.inl (U _ _ aT z))
  ·exact .inl (.inr ⟨o,U _ _ aT z⟩)
  ·exact .inr z
 have hL2:=hL.mono λb xs e=>U b _ (nT e) e;refine zt I2 (hr.in1.in1.units0) sq2 hL2 h64 (λs' H' y u e0 mo hy ry=>?_) λr H3 s3 I3 z1 z2 z3=>?_
 ·obtain⟨j,hj⟩:=Z2 hy;obtain⟨r,ns,rfl,_,hr2⟩:=hL2.at.2 j y hj;obtain rfl:u = .ref r:=ry
  have key:zr v (.ref r)=[.int ns.length,.ref r]:=by
   unfold zr
   have:Ls v (.ref r)=ns.length:=by
    show(match v r with |some (.tup xs)=>(xs.length:Int) |_=>0)=_;rw[hr2];simp
   rw[this]
  rw[key];exact FQ (k:=k) S hloc hgl hml hd1 hd2 hr.in1.in1 e0 (mo _ _ t3) (mo _ _ t2) (O _ _ _ _) (mo _ _ hr2)
 ·refine⟨.ref r,H3,I3,rfl,q r H3 l ⟨z3 _ _ Y.at_,Y.tr,λcv e=>?_⟩ z1 ?_ λb o nb e=>z3 _ _ (U b o nb e)⟩
  ·obtain⟨c2,e1,e2⟩:=Y.cd cv e;exact⟨c2,e1,z3 _ _ e2⟩
  ·cases hz:H1 r with
   |none=>rfl
   |some o=>
    by_cases rT:r=T
    ·rw[rT,Y.at_] at z2;cases z2
    ·rw[U _ _ rT hz] at z2;cases z2
end Ev
namespace Ev
open PySem PySem.Spec PyProof.Rows L2
mutual
inductive CE where |non |bl (b:Bool) |int (i:Int) |str (x:Str) |var (i:Nat) |con (k:Nat)(v:Int) |tup (es:List CE) |lst (es:List CE) |dic0 |bin (o:BOp)(a b:CE) |neg (a:CE) |cmp (o:COp)(a b:CE) |chn (o p:COp)(a b c:CE) |and (a b:CE) |or (a b:CE) |not (a:CE) |ite (c a b:CE) |ix (a b:CE) |sl (a:CE)(lo hi:Option CE) |call (f:Nat)(es:List CE) |inst (t:Ty)(a:CE) |len (a:CE) |all (a:CE) |any (a:CE) |tupOf (a:CE) |listOf (a:CE) |listR (a:CE) |srt (a:CE) |mxL (a:CE) |rev (a:CE) |mnN (a:CE) |mx (a b:CE) |mn (a b:CE) |comp (own:List Str)(elt:CE)(cls:List Cl) |app (o e:CE) |popAt (o e:CE) |cnt (o e:CE) |idx (o e:CE) |tupR (a:CE)
inductive CI where
 |val (a:CE) |r1 (a:CE) |r2 (a b:CE) |dn (a:CE) |en (a:CE)
inductive Cl where
 |mk (tg:Tg) (it:CI) (cond:Option CE)
end
abbrev aj:CE->Bool
 |.lst _=>aN |.comp _ _ _=>aN |.listOf _=>aN |.listR _=>aN |.srt _=>aN
 |_=>aS
abbrev LF:Nat:=1000000
abbrev xNo{b:Type}:Rho->Sto->Option (b × Sto):=λ_ _=>aD
abbrev l6(x:XE):XA:=λc S=>bnd (x c S) λd b=>(ao d b).map λr=>(r.2,b)
abbrev cW(T:Bool)(d:List D):Option (List D):=FP T d
abbrev zv(f:Bool->List D->Option (List D))(x:XA):XA:=λc S=>bnd (x c S) λd b=>(f aS d).map λj=>(j,b)
abbrev zw(f:Bool->List D->Option (List D))(x:XE):XA:=λc S=>bnd (x c S) λd b=>match ao d b with
 |some r=>(f r.1 r.2).map λj=>(j,b)
 |none=>aD
abbrev zx(x:XE):XA:=λc S=>bnd (x c S) λd b=>match d with
 |.int i=>if 0<=i/\i<=1000 then aw ((Zg i.toNat).map λj=>.int (Int.ofNat j),b) else aD
 |_=>aD
abbrev B0:XE:=λ_ S=>aw (.ref S.length,S++[.dic [] []])
abbrev cnd(t:CE->XT):Option CE->XA->XA
 |some c,x=>BI (t c) x
 |none,x=>x
abbrev opt(t:CE->XE):Option CE->XO
 |some l=>vn (t l)
 |none=>vm
mutual
noncomputable def evE(C:Calls)(j:Nat->Nat):Nat->CE->XE
 |0,_=>xNo
 |n+1,e=>match e with
  |.non=>xC .non
  |.bl b=>xC (.bl b)
  |.int i=>xC (.int i)
  |.str x=>xC (.str x)
  |.var i=>yW i
  |.con _ v=>xC (.int v)
  |.tup es=>lB lJ (evA C j n es)
  |.lst es=>dM (oe (evA C j n es))
  |.dic0=>B0
  |.bin o a b=>sj (bL o) (evE C j n a) (evE C j n b)
  |.neg a=>xUn Lg (evE C j n a)
  |.cmp o a b=>sj (ak o) (evE C j n a) (evE C j n b)
  |.chn o p a b c=>zo (ak o) (ak p) (evE C j n a) (evE C j n b) (evE C j n c)
  |.and a b=>BL (evE C j n a) (evE C j n b)
  |.or a b=>xOr (evE C j n a) (evE C j n b)
  |.not a=>xUn zn (evE C j n a)
  |.ite c a b=>Lh (evT C j n c) (evE C j n a) (evE C j n b)
  |.ix a b=>if aj a=aN then vf (cX C j n a) (evE C j n b) else sj ixS (evE C j n a) (evE C j n b)
  |.sl a lo hi=>xSl (evE C j n a) (opt (evE C j n) lo) (opt (evE C j n) hi)
  |.call f es=>sS (C f) (j f) (evA C j n es)
  |.inst t a=>xUn (lW t) (evE C j n a)
  |.len a=>if aj a=aN then pS c9 (cX C j n a) else pT c9 (evE C j n a)
  |.all a=>if aj a=aN then pS kE (cX C j n a) else pT kE (evE C j n a)
  |.any a=>if aj a=aN then pS ny (cX C j n a) else pT ny (evE C j n a)
  |.tupOf a=>if aj a=aN then pS cM (cX C j n a) else pT cM (evE C j n a)
  |.listOf a=>dM (if aj a=aN then cX C j n a else l6 (evE C j n a))
  |.listR a=>dM (zx (evE C j n a))
  |.srt a=>dM (if aj a=aN then zv cW (cX C j n a) else zw cW (evE C j n a))
  |.mxL a=>if aj a=aN then pS nA (cX C j n a) else pT nA (evE C j n a)
  |.rev a=>xUn vC (evE C j n a)
  |.mnN a=>if aj a=aN then pS nF (cX C j n a) else pT nF (evE C j n a)
  |.mx a b=>lB (two Bo) (evA C j n [a,b])
  |.mn a b=>lB (two Bp) (evA C j n [a,b])
  | .comp own elt cls=>dM (match cls with
   |[]=>xNo
   | ⟨tg,it,cond⟩::rest=>lY own.length (evI C j n it) tg (cnd (evT C j n) cond (gK C j n elt rest)) LF)
  |.app o a=>zl fP sL (evE C j n o) (evA C j n [a])
  |.popAt o a=>zl fP ia (evE C j n o) (evA C j n [a])
  |.cnt o a=>zl (λd _=>isTup d) vJ (evE C j n o) (evA C j n [a])
  |.idx o a=>zl (λd _=>isTup d) vN (evE C j n o) (evA C j n [a])
  |.tupR a=>BZ (evE C j n a)
noncomputable def evA(C:Calls)(b:Nat->Nat):Nat->List CE->XA
 |0,_=>xNo
 |n+1,es=>match es with
  |[]=>Fc
  |e::es=>xg (evE C b n e) (evA C b n es)
noncomputable def cX(C:Calls)(b:Nat->Nat):Nat->CE->XA
 |0,_=>xNo
 |n+1,e=>match e with
  |.lst es=>oe (evA C b n es)
  |.listOf a=>if aj a=aN then cX C b n a else l6 (evE C b n a)
  |.listR a=>zx (evE C b n a)
  |.srt a=>if aj a=aN then zv cW (cX C b n a) else zw cW (evE C b n a)
  |.comp own elt cls=>match cls with
   |[]=>xNo
   |⟨tg,it,cond⟩::rest=>lY own.length (evI C b n it) tg (cnd (evT C b n) cond (gK C b n elt rest)) LF
  |_=>xNo
noncomputable def gK(C:Calls)(b:Nat->Nat):Nat->CE->List Cl->XA
 |0,_,_=>xNo
 |n+1,elt,cls=>match cls with
  |[]=>Jc (evE C b n elt)
  |⟨tg,it,cond⟩::rest=>jy (evI C b n it) tg (cnd (evT C b n) cond (gK C b n elt rest)) LF
noncomputable def evI(C:Calls)(c:Nat->Nat):Nat->CI->XI
 |0,_=>xNo
 |n+1,it=>match it with
  |.val a=>if aj a=aN then xIT (cX C c n a) else xIV (evE C c n a)
  |.r1 a=>xR1 (evE C c n a)
  |.dn a=>xDn (evE C c n a)
  |.r2 a b=>xR2 (evE C c n a) (evE C c n b)
  |.en a=>xEV (evE C c n a)
noncomputable def evT(C:Calls)(d:Nat->Nat):Nat->CE->XT
 |0,_=>xNo
 |n+1,e=>match e with
  |.cmp o a b=>xB (sj (ak o) (evE C d n a) (evE C d n b))
  |.chn o p a b c=>xB (zo (ak o) (ak p) (evE C d n a) (evE C d n b) (evE C d n c))
  |.and a b=>BO (evT C d n a) (evT C d n b)
  |.or a b=>Ll (evT C d n a) (evT C d n b)
  |.not a=>BP (evT C d n a)
  |.ite _ _ _=>xNo
  |e=>Fn (evE C d n e)
end
abbrev fS:List Str:=["len", "isinstance", "all", "any", "tuple", "list", "max", "min", "repr", "range", "enumerate", "int", "bool", "str", "sorted", "zip", "sum", "dict"]
structure Tab where
 con:List (Str × Int)
 fns:List (Str × Nat)
structure Blk where
 sc:Scope
 fs:Option Scope
 N:List Str
abbrev Blk.glo(b:Blk)(x:Str):Bool:=b.sc.names.lookup x == aw .globalImplicit && !(x == ("__debug__" : Str))
abbrev Blk.vis(b:Blk)(x:Str):Bool:=(match b.sc.names.lookup x with
 |some .local=>aN
 |some .cell=>aN
 |some .free=>aN
 | _=>aS) && !(x == ("__debug__" : Str)) && !(x == ("__classdict__" : Str))
abbrev Blk.own(b:Blk)(x:Str):Bool:=match b.sc.names.lookup x with
 |some .local=>aN
 | some .cell=>(match b.fs with
  |none=>aN
  | some sc=>sc.names.lookup x == aw .cell)
 |_=>aS
def bN{P:Prop}[Decidable P]{f:P->Bool}(h:(if p:P then f p else aS)=aN):∃p,f p=aN:=by
 by_cases p:P
 ·rw[dif_pos p] at h;exact⟨p,h⟩
 ·rw[dif_neg p] at h;cases h
def an2{a b:Bool}(h:(a && b)=aN):a=aN/\b=aN:=by cases a;cases h;exact⟨rfl,h⟩
def an3{a b c:Bool}(h:(a && b && c)=aN):a=aN/\b=aN/\c=aN:=⟨(an2 (an2 h).1).1,(an2 (an2 h).1).2,(an2 h).2⟩
def an4{a b c d:Bool}(h:(a && b && c && d)=aN):a=aN/\b=aN/\c=aN/\d=aN:=⟨(an3 (an2 h).1).1,(an3 (an2 h).1).2.1,(an3 (an2 h).1).2.2,(an2 h).2⟩
def an5{a b c d e:Bool}(h:(a && b && c && d && e)=aN):a=aN/\b=aN/\c=aN/\d=aN/\e=aN:=⟨(an4 (an2 h).1).1,(an4 (an2 h).1).2.1,(an4 (an2 h).1).2.2.1,(an4 (an2 h).1).2.2.2,(an2 h).2⟩
def an6{a b c d e f:Bool}(h:(a && b && c && d && e && f)=aN):a=aN/\b=aN/\c=aN/\d=aN/\e=aN/\f=aN:=⟨(an5 (an2 h).1).1,(an5 (an2 h).1).2.1,(an5 (an2 h).1).2.2.1,(an5 (an2 h).1).2.2.2.1,(an5 (an2 h).1).2.2.2.2,(an2 h).2⟩
abbrev l1{b:Type}(l:List b)(k:b->Bool):Bool:=match l with
 |[]=>aS
 |x::t=>t.isEmpty && k x
abbrev lC{b:Type}(l:List b)(k:b->List b->Bool):Bool:=match l with
 |[]=>aS
 |x::t=>k x t
def eY{b:Type}{l:List b}{k:b->List b->Bool}(h:lC l k=aN):∃x t,l=x::t/\k x t=aN:=by
 cases l with
 |nil=>cases h
 |cons x t=>exact⟨x,t,rfl,h⟩
def fD{b:Type}{l:List b}(h:l.isEmpty=aN):l=[]:=by cases l;rfl;cases h
def jz{b:Type}{l:List b}{k:b->Bool}(h:l1 l k=aN):∃x,l=[x]/\k x=aN:=by
 cases l with
 |nil=>cases h
 |cons x t=>obtain⟨d,c⟩:=an2 h;cases fD d;exact⟨x,rfl,c⟩
abbrev aG(e:Expr):Bool:=!(e.ctorIdx == 22 || e.ctorIdx == 26 || e.ctorIdx == 7)
abbrev qi(e:Expr)(k:BoolOp->List Expr->Pos->Bool):Bool:=if h:e.ctorIdx=0 then @Expr.BoolOp.elim (λ_=>Bool) e h k else aS
def ou{e:Expr}{k:BoolOp->List Expr->Pos->Bool}(h:qi e k=aN):∃X c b,e = .BoolOp X c b/\k X c b=aN:=by
 obtain⟨d,h⟩:=bN h;exact Expr.BoolOp.elim (motive_1:=λe=>∀l,@Expr.BoolOp.elim (λ_=>Bool) e l k=aN->∃X c b,e = .BoolOp X c b/\k X c b=aN) e d (λX c b _ j=>⟨X,c,b,rfl,j⟩) d h
abbrev B1(e:Expr)(k:Expr->Vh->Expr->Pos->Bool):Bool:=if h:e.ctorIdx=2 then @Expr.BinOp.elim (λ_=>Bool) e h k else aS
def B2{e:Expr}{k:Expr->Vh->Expr->Pos->Bool}(h:B1 e k=aN):∃c X b d,e = .BinOp c X b d/\k c X b d=aN:=by
 obtain⟨j,h⟩:=bN h;exact Expr.BinOp.elim (motive_1:=λe=>∀q,@Expr.BinOp.elim (λ_=>Bool) e q k=aN->∃c X b d,e = .BinOp c X b d/\k c X b d=aN) e j (λc X b d _ l=>⟨c,X,b,d,rfl,l⟩) j h
abbrev iQ(e:Expr)(k:UnaryOp->Expr->Pos->Bool):Bool:=if h:e.ctorIdx=3 then @Expr.UnaryOp.elim (λ_=>Bool) e h k else aS
def l8{e:Expr}{k:UnaryOp->Expr->Pos->Bool}(h:iQ e k=aN):∃X c b,e = .UnaryOp X c b/\k X c b=aN:=by
 obtain⟨d,h⟩:=bN h;exact Expr.UnaryOp.elim (motive_1:=λe=>∀l,@Expr.UnaryOp.elim (λ_=>Bool) e l k=aN->∃X c b,e = .UnaryOp X c b/\k X c b=aN) e d (λX c b _ j=>⟨X,c,b,rfl,j⟩) d h
abbrev B3(e:Expr)(k:Expr->Expr->Expr->Pos->Bool):Bool:=if h:e.ctorIdx=5 then @Expr.IfExp.elim (λ_=>Bool) e h k else aS
def B4{e:Expr}{k:Expr->Expr->Expr->Pos->Bool}(h:B3 e k=aN):∃c X b d,e = .IfExp c X b d/\k c X b d=aN:=by
 obtain⟨j,h⟩:=bN h;exact Expr.IfExp.elim (motive_1:=λe=>∀q,@Expr.IfExp.elim (λ_=>Bool) e q k=aN->∃c X b d,e = .IfExp c X b d/\k c X b d=aN) e j (λc X b d _ l=>⟨c,X,b,d,rfl,l⟩) j h
abbrev Jj(e:Expr)(k:List (Option Expr)->List Expr->Pos->Bool):Bool:=if h:e.ctorIdx=6 then @Expr.Dict.elim (λ_=>Bool) e h k else aS
def FS{e:Expr}{k:List (Option Expr)->List Expr->Pos->Bool}(h:Jj e k=aN):∃X c b,e = .Dict X c b/\k X c b=aN:=by
 obtain⟨d,h⟩:=bN h;exact Expr.Dict.elim (motive_1:=λe=>∀l,@Expr.Dict.elim (λ_=>Bool) e l k=aN->∃X c b,e = .Dict X c b/\k X c b=aN) e d (λX c b _ j=>⟨X,c,b,rfl,j⟩) d h
abbrev jA(e:Expr)(k:Expr->List WT->Scope->Pos->Bool):Bool:=if h:e.ctorIdx=8 then @Expr.ListComp.elim (λ_=>Bool) e h k else aS
def j6{e:Expr}{k:Expr->List WT->Scope->Pos->Bool}(h:jA e k=aN):∃c X b d,e = .ListComp c X b d/\k c X b d=aN:=by
 obtain⟨j,h⟩:=bN h;exact Expr.ListComp.elim (motive_1:=λe=>∀q,@Expr.ListComp.elim (λ_=>Bool) e q k=aN->∃c X b d,e = .ListComp c X b d/\k c X b d=aN) e j (λc X b d _ l=>⟨c,X,b,d,rfl,l⟩) j h
abbrev l9(e:Expr)(k:Expr->List CmpOp->List Expr->Pos->Bool):Bool:=if h:e.ctorIdx=15 then @Expr.Compare.elim (λ_=>Bool) e h k else aS
def ma{e:Expr}{k:Expr->List CmpOp->List Expr->Pos->Bool}(h:l9 e k=aN):∃c X b d,e = .Compare c X b d/\k c X b d=aN:=by
 obtain⟨j,h⟩:=bN h;exact Expr.Compare.elim (motive_1:=λe=>∀q,@Expr.Compare.elim (λ_=>Bool) e q k=aN->∃c X b d,e = .Compare c X b d/\k c X b d=aN) e j (λc X b d _ l=>⟨c,X,b,d,rfl,l⟩) j h
abbrev xt(e:Expr)(k:Expr->List Expr->List Keyword->Pos->Bool):Bool:=if h:e.ctorIdx=16 then @Expr.Call.elim (λ_=>Bool) e h k else aS
def xu{e:Expr}{k:Expr->List Expr->List Keyword->Pos->Bool}(h:xt e k=aN):∃c X b d,e = .Call c X b d/\k c X b d=aN:=by
 obtain⟨j,h⟩:=bN h;exact Expr.Call.elim (motive_1:=λe=>∀q,@Expr.Call.elim (λ_=>Bool) e q k=aN->∃c X b d,e = .Call c X b d/\k c X b d=aN) e j (λc X b d _ l=>⟨c,X,b,d,rfl,l⟩) j h
abbrev eF(e:Expr)(k:Const->Nat->Pos->Bool):Bool:=if h:e.ctorIdx=19 then @Expr.Constant.elim (λ_=>Bool) e h k else aS
def dB{e:Expr}{k:Const->Nat->Pos->Bool}(h:eF e k=aN):∃X c b,e = .Constant X c b/\k X c b=aN:=by
 obtain⟨d,h⟩:=bN h;exact Expr.Constant.elim (motive_1:=λe=>∀l,@Expr.Constant.elim (λ_=>Bool) e l k=aN->∃X c b,e = .Constant X c b/\k X c b=aN) e d (λX c b _ j=>⟨X,c,b,rfl,j⟩) d h
abbrev md(e:Expr)(k:Expr->Str->Pos->Bool):Bool:=if h:e.ctorIdx=20 then @Expr.Attribute.elim (λ_=>Bool) e h k else aS
def qj{e:Expr}{k:Expr->Str->Pos->Bool}(h:md e k=aN):∃X c b,e = .Attribute X c b/\k X c b=aN:=by
 obtain⟨d,h⟩:=bN h;exact Expr.Attribute.elim (motive_1:=λe=>∀l,@Expr.Attribute.elim (λ_=>Bool) e l k=aN->∃X c b,e = .Attribute X c b/\k X c b=aN) e d (λX c b _ j=>⟨X,c,b,rfl,j⟩) d h
abbrev de(e:Expr)(k:Expr->Expr->Pos->Bool):Bool:=if h:e.ctorIdx=21 then @Expr.Subscript.elim (λ_=>Bool) e h k else aS
def cY{e:Expr}{k:Expr->Expr->Pos->Bool}(h:de e k=aN):∃X c b,e = .Subscript X c b/\k X c b=aN:=by
 obtain⟨d,h⟩:=bN h;exact Expr.Subscript.elim (motive_1:=λe=>∀l,@Expr.Subscript.elim (λ_=>Bool) e l k=aN->∃X c b,e = .Subscript X c b/\k X c b=aN) e d (λX c b _ j=>⟨X,c,b,rfl,j⟩) d h
abbrev B5(e:Expr)(k:Str->Pos->Bool):Bool:=if h:e.ctorIdx=23 then @Expr.Name.elim (λ_=>Bool) e h k else aS
def xv{e:Expr}{k:Str->Pos->Bool}(h:B5 e k=aN):∃X b,e = .Name X b/\k X b=aN:=by
 obtain⟨c,h⟩:=bN h;exact Expr.Name.elim (motive_1:=λe=>∀j,@Expr.Name.elim (λ_=>Bool) e j k=aN->∃X b,e = .Name X b/\k X b=aN) e c (λX b _ d=>⟨X,b,rfl,d⟩) c h
abbrev Jk(e:Expr)(k:List Expr->Pos->Bool):Bool:=if h:e.ctorIdx=24 then @Expr.List.elim (λ_=>Bool) e h k else aS
def FT{e:Expr}{k:List Expr->Pos->Bool}(h:Jk e k=aN):∃X b,e = .List X b/\k X b=aN:=by
 obtain⟨c,h⟩:=bN h;exact Expr.List.elim (motive_1:=λe=>∀j,@Expr.List.elim (λ_=>Bool) e j k=aN->∃X b,e = .List X b/\k X b=aN) e c (λX b _ d=>⟨X,b,rfl,d⟩) c h
abbrev B6(e:Expr)(k:List Expr->Nat->Pos->Bool):Bool:=if h:e.ctorIdx=25 then @Expr.Tuple.elim (λ_=>Bool) e h k else aS
def B7{e:Expr}{k:List Expr->Nat->Pos->Bool}(h:B6 e k=aN):∃X c b,e = .Tuple X c b/\k X c b=aN:=by
 obtain⟨d,h⟩:=bN h;exact Expr.Tuple.elim (motive_1:=λe=>∀l,@Expr.Tuple.elim (λ_=>Bool) e l k=aN->∃X c b,e = .Tuple X c b/\k X c b=aN) e d (λX c b _ j=>⟨X,c,b,rfl,j⟩) d h
abbrev vP(e:Expr)(k:Option Expr->Option Expr->Option Expr->Pos->Bool):Bool:=if h:e.ctorIdx=26 then @Expr.Slice.elim (λ_=>Bool) e h k else aS
def sX{e:Expr}{k:Option Expr->Option Expr->Option Expr->Pos->Bool}(h:vP e k=aN):∃c X b d,e = .Slice c X b d/\k c X b d=aN:=by
 obtain⟨j,h⟩:=bN h;exact Expr.Slice.elim (motive_1:=λe=>∀q,@Expr.Slice.elim (λ_=>Bool) e q k=aN->∃c X b d,e = .Slice c X b d/\k c X b d=aN) e j (λc X b d _ l=>⟨c,X,b,d,rfl,l⟩) j h
abbrev vQ(e:Expr):Bool:=!(e.ctorIdx == 22 || xt e λf b ks _=>f.ctorIdx == 23 && b.isEmpty && ks.isEmpty)
abbrev Ly(e:Expr):Bool:=!(e.ctorIdx == 0 || e.ctorIdx == 5 || e.ctorIdx == 15 || iQ e λo _ _=>decide (o = .Not))
abbrev mf(own N:List Str):List Nat:=(Zg N.length).filter λi=>match N[i]? with
 |some x=>own.contains x
 |none=>aS
abbrev Blk.inner(b:Blk)(own:List Str)(c:Scope):Blk:=⟨fK c b.sc,aw c,c8 (mf own b.N) b.N++own⟩
abbrev B8(e:Expr):Option (Str × Pos):=if h:e.ctorIdx=23 then aw (@Expr.Name.elim (λ_=>Str × Pos) e h λx p=>(x,p)) else aD
abbrev zy(e:Expr):Option (List Expr × Nat × Pos):=if h:e.ctorIdx=25 then aw (@Expr.Tuple.elim (λ_=>List Expr × Nat × Pos) e h λb k p=>(b,k,p)) else aD
def Jl{b:Type}{P:Prop}[Decidable P]{f:P->b}{r:b}(h:(if p:P then aw (f p) else aD)=aw r):∃p,f p=r:=by
 by_cases p:P
 ·rw[dif_pos p] at h;cases h;exact⟨p,rfl⟩
 ·rw[dif_neg p] at h;cases h
def qk{e:Expr}{x:Str}{p:Pos}(h:B8 e=aw (x,p)):e = .Name x p:=by
 obtain⟨b,h⟩:=Jl h;exact Expr.Name.elim (motive_1:=λe=>∀c,Expr.Name.elim (motive_1:=λ_=>Str × Pos) e c (λx p=>(x,p))=(x,p)->e = .Name x p) e b (λ_ _ _ d=>by cases d;rfl) b h
def ql{e:Expr}{b:List Expr}{k:Nat}{p:Pos}(h:zy e=aw (b,k,p)):e = .Tuple b k p:=by
 obtain⟨c,h⟩:=Jl h;exact Expr.Tuple.elim (motive_1:=λe=>∀j,Expr.Tuple.elim (motive_1:=λ_=>List Expr × Nat × Pos) e j (λb k p=>(b,k,p))=(b,k,p)->e = .Tuple b k p) e c (λ_ _ _ _ d=>by cases d;rfl) c h
abbrev oA{b:Type}(o:Option b)(k:b->Bool):Bool:=match o with
 |some r=>k r
 |none=>aS
def zA{b:Type}{o:Option b}{k:b->Bool}(h:oA o k=aN):∃r,o=aw r/\k r=aN:=by
 cases o with
 |none=>cases h
 |some r=>exact⟨r,rfl,h⟩
def FV{a b:Bool}(h:(a || b)=aN):a=aN\/b=aN:=by cases a;exact .inr h;exact .inl rfl
mutual
noncomputable def vR(b:Blk)(e:Expr):Tg->Bool
 |.name i=>oA (B8 e) λr=>b.N[i]? == aw r.1 && b.own r.1
 |.tup ts=>oA (zy e) λr=>mh b r.1 ts
noncomputable def mh(b:Blk)(c:List Expr):List Tg->Bool
 |[]=>c.isEmpty
 |t::ts=>lC c λe c=>vR b e t && aG e && mh b c ts
end
abbrev Lz(e:Expr):Bool:=eF e λc _ _=>decide (c = .none)
abbrev sBl(v:Bool)(e:Expr):Bool:=eF e λc _ _=>decide (c = .bool v)
abbrev B9(v:Int)(e:Expr):Bool:=eF e λc _ _=>decide (c = .int v)
abbrev P0(v:Str)(e:Expr):Bool:=eF e λc _ _=>decide (c = .str v)
abbrev xw(k:Str->Bool)(e:Expr):Bool:=B5 e λx _=>k x
abbrev LA(k:List Expr->Bool)(e:Expr):Bool:=B6 e λb _ _=>k b
abbrev P1(k:List Expr->Bool)(e:Expr):Bool:=Jk e λb _=>k b
abbrev P2(o:Vh)(k l:Expr->Bool)(e:Expr):Bool:=B1 e λx op y _=>decide (op=o) && k x && l y
abbrev Ca(k:Expr->Bool)(e:Expr):Bool:=iQ e λo x _=>decide (o = .USub) && k x
abbrev LB(k:Expr->Bool)(e:Expr):Bool:=iQ e λo x _=>decide (o = .Not) && k x
abbrev LC(o:CmpOp)(k l:Expr->Bool)(e:Expr):Bool:=l9 e λx os Y _=>l1 os λop=>l1 Y λy=>decide (op=o) && k x && l y && aG y
abbrev LG(o p:CmpOp)(k l m:Expr->Bool)(e:Expr):Bool:=l9 e λx os Y _=>lC os λop os=>l1 os λO=>lC Y λy Y=>l1 Y λz=>decide (op=o) && decide (O=p) && k x && l y && m z && aG z
abbrev Cb(o:BoolOp)(k l:Expr->Bool)(e:Expr):Bool:=qi e λop v _=>lC v λx v=>l1 v λy=>decide (op=o) && k x && l y
abbrev Cc(o:BoolOp)(k l:Expr->Bool)(e:Expr):Bool:=qi e λop v p=>lC v λx v=>lC v λy v=>lC v λz Y=>decide (op=o) && k x && l (.BoolOp o (y::z::Y) p)
abbrev P3(k l m:Expr->Bool)(e:Expr):Bool:=B3 e λx y z _=>k x && l y && m z
abbrev sIx(k l:Expr->Bool)(e:Expr):Bool:=de e λx y _=>k x && l y && aG y
abbrev sSl(k:Expr->Bool)(l m:Option Expr->Bool)(e:Expr):Bool:=de e λx s _=>vP s λy z w _=>w.isNone && k x && l y && m z
abbrev P4(k:Expr->Bool)(e:Expr):Bool:=de e λx s _=>vP s λy z w _=>y.isNone && z.isNone && k x && oA w λe=>Ca (B9 1) e
abbrev sCN(e:Expr)(k:Str->List Expr->List Keyword->Bool):Bool:=xt e λf b ks _=>B5 f λx _=>k x b ks
abbrev Jm(k:Str->Bool)(l:List Expr->Bool)(e:Expr):Bool:=sCN e λx b ks=>lC b λe b=>ks.isEmpty && k x && l (e::b)
abbrev vS(b:Blk)(f:Str)(k:List Expr->Bool)(e:Expr):Bool:=sCN e λx c ks=>lC c λe c=>ks.isEmpty && x == f && b.glo x && k (e::c)
abbrev cm(b:Blk)(f:Str)(k:Expr->Bool)(e:Expr):Bool:=sCN e λx c ks=>l1 c λe=>ks.isEmpty && x == f && b.glo x && k e && aG e
abbrev Jn(b:Blk)(k:Expr->Bool)(e:Expr):Bool:=sCN e λx c ks=>l1 c λe=>(l1 ks λw=>w.arg == aw (Str.ofString "default") && Lz w.value) && x == "min" && b.glo x && k e && aG e
abbrev sDn(b:Blk)(k:Expr->Bool)(e:Expr):Bool:=sCN e λx c ks=>lC c λd c=>lC c λl c=>l1 c λj=>ks.isEmpty && x == "range" && b.glo x && (k d && aG d && Ca (B9 1) l && Ca (B9 1) j)
abbrev vT(b:Blk)(f:Str)(k l:Expr->Bool)(e:Expr):Bool:=sCN e λx c ks=>lC c λe c=>l1 c λd=>ks.isEmpty && (x == f && b.glo x && k e && aG e && l d && aG d)
abbrev Cd(m:Str)(k:Expr->Bool)(l:List Expr->Bool)(e:Expr):Bool:=xt e λf c ks p=>md f λx d b=>ks.isEmpty && d == m && vQ x && (b.endLine == p.line) && k x && l c
abbrev Jo(k:Expr->Expr->Expr->List Expr->List WT->Scope->Bool)(e:Expr):Bool:=jA e λe gs b _=>lC gs λg gs=>decide (g.is_async=0) && k e g.target g.iter g.ifs gs b
abbrev Jp(e:Expr):Bool:=Jj e λks v _=>ks.isEmpty && v.isEmpty
def b8{x y:Str}(h:(x == y)=aN):x=y:=eq_of_beq h
section
variable {e:Expr} {k l m:Expr->Bool}
def Ce(h:Lz e=aN):∃a p,e = .Constant .none a p:=by
 obtain⟨c,a,p,rfl,h⟩:=dB h;cases of_decide_eq_true h;exact⟨a,p,rfl⟩
def P5{v:Bool}(h:sBl v e=aN):∃a p,e = .Constant (.bool v) a p:=by
 obtain⟨c,a,p,rfl,h⟩:=dB h;cases of_decide_eq_true h;exact⟨a,p,rfl⟩
def qm{v:Int}(h:B9 v e=aN):∃a p,e = .Constant (.int v) a p:=by
 obtain⟨c,a,p,rfl,h⟩:=dB h;cases of_decide_eq_true h;exact⟨a,p,rfl⟩
def LH{v:Str}(h:P0 v e=aN):∃a p,e = .Constant (.str v) a p:=by
 obtain⟨c,a,p,rfl,h⟩:=dB h;cases of_decide_eq_true h;exact⟨a,p,rfl⟩
def qo{k:Str->Bool}(h:xw k e=aN):∃x p,e = .Name x p/\k x=aN:=xv h
def Cf{k:List Expr->Bool}(h:LA k e=aN):∃x a p,e = .Tuple x a p/\k x=aN:=B7 h
def LI{k:List Expr->Bool}(h:P1 k e=aN):∃x p,e = .List x p/\k x=aN:=FT h
def LJ{o:Vh}(h:P2 o k l e=aN):∃x y p,e = .BinOp x o y p/\k x=aN/\l y=aN:=by
 obtain⟨x,op,y,p,rfl,h⟩:=B2 h;obtain⟨b,z⟩:=an3 h;cases of_decide_eq_true b;exact⟨x,y,p,rfl,z⟩
def qp(h:Ca k e=aN):∃x p,e = .UnaryOp .USub x p/\k x=aN:=by
 obtain⟨op,x,p,rfl,h⟩:=l8 h;obtain⟨b,z⟩:=an2 h;cases of_decide_eq_true b;exact⟨x,p,rfl,z⟩
def Cg(h:LB k e=aN):∃x p,e = .UnaryOp .Not x p/\k x=aN:=by
 obtain⟨op,x,p,rfl,h⟩:=l8 h;obtain⟨b,z⟩:=an2 h;cases of_decide_eq_true b;exact⟨x,p,rfl,z⟩
def Ch{o:CmpOp}(h:LC o k l e=aN):∃x y p,e = .Compare x [o] [y] p/\k x=aN/\l y=aN/\aG y=aN:=by
 obtain⟨x,os,Y,p,rfl,h⟩:=ma h;obtain⟨op,rfl,h⟩:=jz h;obtain⟨y,rfl,h⟩:=jz h;obtain⟨b,z⟩:=an4 h;cases of_decide_eq_true b;exact⟨x,y,p,rfl,z⟩
def Ci{o p:CmpOp}(h:LG o p k l m e=aN):∃x y z q,e = .Compare x [o,p] [y,z] q/\k x=aN/\l y=aN/\m z=aN/\aG z=aN:=by
 obtain⟨x,os,Y,q,rfl,h⟩:=ma h;obtain⟨op,os,rfl,h⟩:=eY h;obtain⟨O,rfl,h⟩:=jz h;obtain⟨y,Y,rfl,h⟩:=eY h;obtain⟨z,rfl,h⟩:=jz h;obtain⟨b,c,Z⟩:=an6 h;cases of_decide_eq_true b;cases of_decide_eq_true c;exact⟨x,y,z,q,rfl,Z⟩
def qr{o:BoolOp}(h:Cb o k l e=aN):∃x y p,e = .BoolOp o [x,y] p/\k x=aN/\l y=aN:=by
 obtain⟨op,v,p,rfl,h⟩:=ou h;obtain⟨x,v,rfl,h⟩:=eY h;obtain⟨y,rfl,h⟩:=jz h;obtain⟨b,z⟩:=an3 h;cases of_decide_eq_true b;exact⟨x,y,p,rfl,z⟩
def qt{o:BoolOp}(h:Cc o k l e=aN):∃x y z Y p,e = .BoolOp o (x::y::z::Y) p/\k x=aN/\l (.BoolOp o (y::z::Y) p)=aN:=by
 obtain⟨op,v,p,rfl,h⟩:=ou h;obtain⟨x,v,rfl,h⟩:=eY h;obtain⟨y,v,rfl,h⟩:=eY h;obtain⟨z,v,rfl,h⟩:=eY h;obtain⟨b,Z⟩:=an3 h;cases of_decide_eq_true b;exact⟨x,y,z,v,p,rfl,Z⟩
def LK(h:P3 k l m e=aN):∃x y z p,e = .IfExp x y z p/\k x=aN/\l y=aN/\m z=aN:=by
 obtain⟨x,y,z,p,rfl,h⟩:=B4 h;exact⟨x,y,z,p,rfl,an3 h⟩
def P6(h:sIx k l e=aN):∃x y p,e = .Subscript x y p/\k x=aN/\l y=aN/\aG y=aN:=by
 obtain⟨x,y,p,rfl,h⟩:=cY h;exact⟨x,y,p,rfl,an3 h⟩
def P7{l m:Option Expr->Bool}(h:sSl k l m e=aN):∃x y z p q,e = .Subscript x (.Slice y z aD p) q/\k x=aN/\l y=aN/\m z=aN:=by
 obtain⟨x,s,q,rfl,h⟩:=cY h;obtain⟨y,z,w,p,rfl,h⟩:=sX h;obtain⟨b,Z⟩:=an4 h;cases w;exact⟨x,y,z,p,q,rfl,Z⟩;cases b
def LL(h:P4 k e=aN):∃x n p d b c,e = .Subscript x (.Slice aD aD (aw (.UnaryOp .USub (.Constant (.int 1) n b) c)) d) p/\k x=aN:=by
 obtain⟨x,s,q,rfl,h⟩:=cY h;obtain⟨y,z,w,p,rfl,h⟩:=sX h;obtain⟨C,I,B,h4⟩:=an4 h;obtain⟨u,rfl,h4⟩:=zA h4;obtain⟨v,c,rfl,j⟩:=qp h4;obtain⟨n,b,rfl⟩:=qm j;cases y <;> cases z <;> first |exact⟨x,n,q,p,b,c,rfl,B⟩ |(cases C;done) |(cases I;done)
def ow{k:Str->List Expr->List Keyword->Bool}(h:sCN e k=aN):∃x p b ks q,e = .Call (.Name x p) b ks q/\k x b ks=aN:=by
 obtain⟨f,b,ks,q,rfl,h⟩:=xu h;obtain⟨x,p,rfl,h⟩:=xv h;exact⟨x,p,b,ks,q,rfl,h⟩
def FW{k:Str->Bool}{l:List Expr->Bool}(h:Jm k l e=aN):∃x X b p q,e = .Call (.Name x p) (X::b) [] q/\k x=aN/\l (X::b)=aN:=by
 obtain⟨x,p,b,ks,q,rfl,h⟩:=ow h;obtain⟨X,b,rfl,h⟩:=eY h;obtain⟨c,z⟩:=an3 h;cases fD c;exact⟨x,X,b,p,q,rfl,z⟩
def sY{b:Blk}{f:Str}{k:List Expr->Bool}(h:vS b f k e=aN):∃x c p q,e = .Call (.Name f p) (x::c) [] q/\b.glo f=aN/\k (x::c)=aN:=by
 obtain⟨x,p,c,ks,q,rfl,h⟩:=ow h;obtain⟨X,c,rfl,h⟩:=eY h;obtain⟨d,j,z⟩:=an4 h;cases fD d;cases b8 j;exact⟨X,c,p,q,rfl,z⟩
def bf{b:Blk}{f:Str}(h:cm b f k e=aN):∃x p q,e = .Call (.Name f p) [x] [] q/\b.glo f=aN/\k x=aN/\aG x=aN:=by
 obtain⟨x,p,j,ks,q,rfl,h⟩:=ow h;obtain⟨X,rfl,h⟩:=jz h;obtain⟨c,d,z⟩:=an5 h;cases fD c;cases b8 d;exact⟨X,p,q,rfl,z⟩
def FX{b:Blk}(h:Jn b k e=aN):∃x p q j c Q,e = .Call (.Name "min" p) [x] [⟨aw "default", .Constant .none j c,Q⟩] q/\b.glo "min" = aN/\k x=aN/\aG x=aN:=by
 obtain⟨x,p,J,ks,q,rfl,h⟩:=ow h;obtain⟨X,rfl,h⟩:=jz h;obtain⟨C,I,z⟩:=an5 h;obtain⟨⟨a,v,Q⟩,rfl,B⟩:=jz C;obtain⟨h4,y⟩:=an2 B;obtain⟨j,c,d⟩:=Ce y;have u:=eq_of_beq h4;cases b8 I;exact⟨X,p,q,j,c,Q,by rw[show v=_ from d,show a=_ from u],z⟩
def Jq{b:Blk}(h:sDn b k e=aN):∃x p q z d r2 c y v,e = .Call (.Name "range" p) [x,.UnaryOp .USub (.Constant (.int 1) z d) r2,.UnaryOp .USub (.Constant (.int 1) c y) v] [] q/\b.glo "range" = aN/\k x=aN/\aG x=aN:=by
 obtain⟨x,p,C,ks,q,rfl,h⟩:=ow h;obtain⟨I,C,rfl,h⟩:=eY h;obtain⟨X,C,rfl,h⟩:=eY h;obtain⟨U,rfl,h⟩:=jz h;obtain⟨O,Q,L,h4⟩:=an4 h;obtain⟨T,J,B,j⟩:=an4 h4;obtain⟨u,r2,rfl,B⟩:=qp B;obtain⟨z,d,rfl⟩:=qm B;obtain⟨u,v,rfl,j⟩:=qp j;obtain⟨c,y,rfl⟩:=qm j;cases b8 Q;cases fD O;exact⟨I,p,q,z,d,r2,c,y,v,rfl,L,T,J⟩
def mi{b:Blk}{f:Str}(h:vT b f k l e=aN):∃x y p q,e = .Call (.Name f p) [x,y] [] q/\b.glo f=aN/\k x=aN/\aG x=aN/\l y=aN/\aG y=aN:=by
 obtain⟨x,p,c,ks,q,rfl,h⟩:=ow h;obtain⟨X,c,rfl,h⟩:=eY h;obtain⟨y,rfl,h⟩:=jz h;obtain⟨d,Y⟩:=an2 h;obtain⟨j,z⟩:=an6 Y;cases fD d;cases b8 j;exact⟨X,y,p,q,rfl,z⟩
def qu{m:Str}{l:List Expr->Bool}(h:Cd m k l e=aN):∃x c b p,e = .Call (.Attribute x m c) b [] p/\vQ x=aN/\(c.endLine == p.line)=aN/\k x=aN/\l b=aN:=by
 obtain⟨f,b,ks,p,rfl,h⟩:=xu h;obtain⟨x,q,c,rfl,h⟩:=qj h;obtain⟨d,j,z⟩:=an6 h;cases fD d;cases b8 j;exact⟨x,c,b,p,rfl,z⟩
def xy{k:Expr->Expr->Expr->List Expr->List WT->Scope->Bool}(h:Jo k e=aN):∃c t i ifs gs b p,e = .ListComp c (⟨t,i,ifs,0⟩::gs) b p/\k c t i ifs gs b=aN:=by
 obtain⟨c,gs,b,p,rfl,h⟩:=j6 h;obtain⟨⟨t,i,ifs,j⟩,gs,rfl,h⟩:=eY h;obtain⟨d,z⟩:=an2 h;cases of_decide_eq_true d;exact⟨c,t,i,ifs,gs,b,p,rfl,z⟩
def FY(h:Jp e=aN):∃p,e = .Dict [] [] p:=by
 obtain⟨ks,v,p,rfl,h⟩:=FS h;obtain⟨b,c⟩:=an2 h;cases fD b;cases fD c;exact⟨p,rfl⟩
end
abbrev Cj(f:Expr->CE->Bool)(l:Option Expr):Option CE->Bool
 |none=>l.isNone
 |some c=>oA l λe=>f e c
abbrev Ck(f:Expr->CE->Bool)(l:List Expr):Option CE->Bool
 |none=>l.isEmpty
 |some c=>l1 l λe=>f e c
abbrev clC(c:List Cl)(k:Tg->CI->Option CE->List Cl->Bool):Bool:=match c with
 |[]=>aS
 |⟨tg,it,cond⟩::rest=>k tg it cond rest
def Jr{c:List Cl}{k:Tg->CI->Option CE->List Cl->Bool}(h:clC c k=aN):∃T it cond b,c=⟨T,it,cond⟩::b/\k T it cond b=aN:=by
 cases c with
 |nil=>cases h
 |cons g b=>obtain⟨T,it,cond⟩:=g;exact⟨T,it,cond,b,rfl,h⟩
mutual
noncomputable def aH(T:Tab):Nat->Blk->Expr->CE->Bool
 |0,_,_,_=>aS
 |n+1,b,e,c=>match c with
  |.non=>Lz e
  |.bl v=>sBl v e
  |.int i=>B9 i e
  |.str x=>P0 x e
  |.var i=>xw (λx=>b.N[i]? == aw x && b.vis x) e
  |.con k v=>xw (λx=>T.con[k]? == aw (x,v) && b.glo x) e
  |.tup cs=>LA (λq=>fE T n b q cs) e
  |.lst cs=>P1 (λq=>fE T n b q cs) e
  |.dic0=>Jp e
  |.bin o a c=>P2 o.op (λx=>aH T n b x a) (λx=>aH T n b x c) e
  |.neg a=>Ca (λx=>aH T n b x a) e
  |.cmp o a c=>LC o.op (λx=>aH T n b x a) (λx=>aH T n b x c) e
  |.chn o p a c d=>LG o.op p.op (λx=>aH T n b x a) (λx=>aH T n b x c) (λx=>aH T n b x d) e
  |.and a c=>Cb .And (λx=>aH T n b x a) (λx=>aH T n b x c) e || Cc .And (λx=>aH T n b x a) (λx=>aH T n b x c) e
  |.or a c=>Cb .Or (λx=>aH T n b x a) (λx=>aH T n b x c) e || Cc .Or (λx=>aH T n b x a) (λx=>aH T n b x c) e
  |.not a=>LB (λx=>aH T n b x a) e
  |.ite t a c=>P3 (λx=>fF T n b x t) (λx=>aH T n b x a) (λx=>aH T n b x c) e
  |.ix a c=>sIx (λx=>aH T n b x a) (λx=>aH T n b x c) e
  |.sl a lo hi=>sSl (λx=>aH T n b x a) (λl=>Cj (aH T n b) l lo) (λl=>Cj (aH T n b) l hi) e
  |.call f cs=>Jm (λx=>oA T.fns[f]? (λy=>y.1 == x) && b.glo x) (λq=>fE T n b q cs) e
  |.inst t a=>vT b "isinstance" (λx=>aH T n b x a) (xw λy=>y == Str.ofString t.nm && b.glo y) e
  |.len a=>cm b "len" (λx=>aH T n b x a) e
  |.all a=>cm b "all" (λx=>aH T n b x a) e
  |.any a=>cm b "any" (λx=>aH T n b x a) e
  |.tupOf a=>cm b "tuple" (λx=>aH T n b x a) e
  |.listOf a=>cm b "list" (λx=>aH T n b x a) e
  |.listR a=>cm b "list" (cm b "range" λx=>aH T n b x a) e
  |.srt a=>cm b "sorted" (λx=>aH T n b x a) e
  |.mxL a=>cm b "max" (λx=>aH T n b x a) e
  |.rev a=>P4 (λx=>aH T n b x a) e
  |.mnN a=>Jn b (λx=>aH T n b x a) e
  |.mx a c=>vS b "max" (λq=>fE T n b q [a,c]) e
  |.mn a c=>vS b "min" (λq=>fE T n b q [a,c]) e
  |.comp own elt cls=>clC cls λB it cond u=>Jo (λz t i ifs gs j=>cmB own (mf own b.N) b.N j b.sc && sZ T n b t i it && vR (b.inner own j) t B && Ck (fF T n (b.inner own j)) ifs cond && oB T n (b.inner own j) z gs elt u) e
  |.app o a=>Cd "append" (λx=>aH T n b x o) (λq=>fE T n b q [a]) e
  |.popAt o a=>Cd "pop" (λx=>aH T n b x o) (λq=>fE T n b q [a]) e
  |.cnt o a=>Cd "count" (λx=>aH T n b x o) (λq=>fE T n b q [a]) e
  |.idx o a=>Cd "index" (λx=>aH T n b x o) (λq=>fE T n b q [a]) e
  |.tupR a=>cm b "tuple" (cm b "range" λx=>aH T n b x a) e
noncomputable def fE(T:Tab):Nat->Blk->List Expr->List CE->Bool
 |0,_,_,_=>aS
 |n+1,b,d,cs=>match cs with
  |[]=>d.isEmpty
  |c::cs=>lC d λe d=>aH T n b e c && aG e && fE T n b d cs
noncomputable def oB(T:Tab):Nat->Blk->Expr->List WT->CE->List Cl->Bool
 |0,_,_,_,_,_=>aS
 |n+1,b,e,gs,elt,cls=>match cls with
  |[]=>gs.isEmpty && aH T n b e elt
  |⟨tg,it,cond⟩::rest=>lC gs λg gs=>decide (g.is_async=0) && sZ T n b g.target g.iter it && vR b g.target tg && Ck (fF T n b) g.ifs cond && oB T n b e gs elt rest
noncomputable def sZ(T:Tab):Nat->Blk->Expr->Expr->CI->Bool
 |0,_,_,_,_=>aS
 |n+1,b,t,e,c=>match c with
  |.val a=>aH T n b e a && aG e
  |.r1 a=>cm b "range" (λx=>aH T n b x a) e
  |.dn a=>sDn b (λx=>aH T n b x a) e
  |.r2 a c=>vT b "range" (λx=>aH T n b x a) (λx=>aH T n b x c) e
  |.en a=>cm b "enumerate" (λx=>aH T n b x a) e && LA (λ_=>aN) t
noncomputable def fF(T:Tab):Nat->Blk->Expr->CE->Bool
 |0,_,_,_=>aS
 |n+1,b,e,c=>match c with
  |.cmp o a c=>LC o.op (λx=>aH T n b x a) (λx=>aH T n b x c) e
  |.chn o p a c d=>LG o.op p.op (λx=>aH T n b x a) (λx=>aH T n b x c) (λx=>aH T n b x d) e
  |.and a c=>Cb .And (λx=>fF T n b x a) (λx=>fF T n b x c) e || Cc .And (λx=>fF T n b x a) (λx=>fF T n b x c) e
  |.or a c=>Cb .Or (λx=>fF T n b x a) (λx=>fF T n b x c) e || Cc .Or (λx=>fF T n b x a) (λx=>fF T n b x c) e
  |.not a=>LB (λx=>fF T n b x a) e
  |.ite _ _ _=>aS
  |c=>aH T n b e c && Ly e
end
def gC{T:Tab}{n:Nat}{b:Blk}{t e:Expr}{c:CI}(h:sZ T n b t e c=aN)(d:∀e,aG e=aN->∀env x,V7 e env x=pure x):∀env x,V7 e env x=pure x:=by
 cases n with
 |zero=>cases h
 |succ n=>
  cases c with
  |val a=>exact d e (an2 h).2
  |r1 a=>obtain⟨x,p,q,rfl,_⟩:=bf h;intro _ _;rfl
  |dn a=>obtain⟨x,p,q,v,l,r2,j,k,u,rfl,_⟩:=Jq h;intro _ _;rfl
  |r2 a c=>obtain⟨x,y,p,q,rfl,_⟩:=mi h;intro _ _;rfl
  |en a=>obtain⟨x,p,q,rfl,_⟩:=bf (an2 h).1;intro _ _;rfl
structure CtxOk(T:Tab)(C:Calls)(ar:Nat->Nat)(k:Nat)(b:Blk)(X:Cx):Prop where
 calm:X.calm=aN
 xe:X.xe=λ_ _=>False
 hN:X.N=b.N
 hs:X.env.scope=b.sc
 nd:b.N.Nodup
 fn:∀x,(match b.fs with |none=>aN |some sc=>sc.names.lookup x == aw .cell)=aN->X.fn x=aN
 room:Room k X.A
 con:∀ (i:Nat) (x:Str) (v:Int),T.con[i]?=aw (x,v)->∃tk,X.mg x=aw (.int v tk)
 bl:∀x,x ∈ fS->X.mg x=aD
 fns:∀ (i:Nat) (y:Str × Nat),T.fns[i]?=aw y->ar i=y.2/\∃f fd ps,X.mg y.1=aw (.ref f)/\Vy X.K (.ref f)=aN/\nR X.K fd ps []/\FnOk X.prog X.w X.K X.mg X.base CX0 k f fd ps (spC X.K (C i) (ar i))
section
variable {T:Tab} {C:Calls} {ar:Nat->Nat} {k:Nat} {b:Blk} {X:Cx}
def am{e:Expr}{c:List Expr}{env:Env}(h:aG e=aN):Uv (e::c) env=(aS,eval e env)::Uv c env:=by
 cases e <;> first |rfl |(exact absurd h Zh)
def td{e:Expr}(h:aG e=aN):w6 e:=by
 intro o i;cases e <;> first |rfl |(exact absurd h Zh)
def ib{e:Expr}{op:CmpOp}(h:aG e=aN):VN op e=aS:=by
 cases e <;> first |rfl |(exact absurd h Zh)
def mj{e f:Expr}{op O:CmpOp}(h:aG e=aN):lastMarks [op,O] [f,e]=aS:=by
 show VN O e=aS;exact ib h
def eZ{e:Expr}{env:Env}(h:aG e=aN):∀x,V7 e env x=pure x:=by
 intro x;cases e <;> first |rfl |(exact absurd h Zh)
def e8{e:Expr}{m:Str}{env:Env}{w:Sem Value}(h:vQ e=aN):attributeBase e m env w=w:=by
 cases e with
 |Call f c ks p=>
  cases f with
  |Name x q=>
   cases c with
   |nil=>cases ks with |nil=>exact absurd h Zh |cons _ _=>rfl
   |cons _ _=>rfl
  |_=>rfl
 |_=>first |rfl |(exact absurd h Zh)
def vU{e:Expr}{env:Env}(h:Ly e=aN):∀c,isTrue e env c=(do let v <-c;standAt e.pos;holding [v] (truthy v)):=by
 intro c;cases e with
 |UnaryOp op x p=>cases op <;> first |rfl |(exact absurd h Zh)
 |_=>first |rfl |(exact absurd h Zh)
def jB{d:List Expr}{env:Env}{c:Pos}(h:∀e ∈ d,aG e=aN):(backTo c (Uv d env)).any (·.1)=aS:=by
 induction d with
 |nil=>rfl
 |cons e d I=>
  rw[am (h e Zi)];show(aS || (backTo c (Uv d env)).any (·.1))=aS;rw[I λe j=>h e (Ze _ j)];rfl
def bE:∀ {n:Nat} {d:List Expr} {j:List CE},fE T n b d j=aN->∀e ∈ d,aG e=aN
 |0,_,_,h=>absurd h Zh
 |n+1,d,[],h=>λx hx=>by rw[fD h] at hx;cases hx
 |n+1,d,c::j,h=>by
  obtain⟨e,d,rfl,h⟩:=eY h;obtain⟨_,l,h⟩:=an3 h;intro x hx;rcases Zn.mp hx with rfl |hx
  ·exact l
  ·exact bE h x hx
def CtxOk.gl(G:CtxOk T C ar k b X){x:Str}(h:b.glo x=aN):Gl X x/\(x == ("__debug__" : Str))=aS:=by
 unfold Blk.glo at h;rw[bAE] at h;refine⟨?_,by simpa using h.2⟩;show X.env.scope.names.lookup x=_;rw[G.hs]
 simpa using h.1
def CtxOk.vis(G:CtxOk T C ar k b X){x:Str}(h:b.vis x=aN):Vis X.env.scope x/\(x == ("__debug__" : Str))=aS/\(x == ("__classdict__" : Str))=aS:=by
 unfold Blk.vis at h;rw[bAE,bAE] at h;refine⟨?_,by simpa using h.1.2,by simpa using h.2⟩;unfold Vis;rw[G.hs];have c:=h.1.1;split at c
 ·rename_i e;exact .inl e
 ·rename_i e;exact .inr (.inl e)
 ·rename_i e;exact .inr (.inr e)
 ·cases c
def CtxOk.own(G:CtxOk T C ar k b X){x:Str}(h:b.own x=aN):L2.Loc X.env.scope x/\(X.fn x=aN\/X.env.scope.names.lookup x=aw .local):=by
 unfold Blk.own at h;unfold L2.Loc;rw[G.hs];split at h
 ·rename_i e;exact⟨.inl e,.inr e⟩
 ·rename_i e;refine⟨.inr e,.inl (G.fn x ?_)⟩;cases c:b.fs with
  |none=>rfl
  |some sc=>rw[c] at h;exact h
 ·cases h
def CtxOk.inner(G:CtxOk T C ar k b X){own:List Str}{c:Scope}(S:CmScope own (mf own b.N) b.N c b.sc){C':Addr}{ex:List Addr}{s:Shared}{H:Hp}:CtxOk T C ar k (b.inner own c) (cxC X own (mf own b.N) c C' ex s H):=
 ⟨G.calm,rfl,by show c8 (mf own b.N) X.N++own=_;rw[G.hN];rfl,by show fK c X.env.scope=_;rw[G.hs];rfl,S.nd,λx h=>h,G.room,G.con,G.bl,G.fns⟩
def oC{e:Expr}{c:List Expr}{env:Env}(h:aG e=aN):VJ (e::c) env=(aS,assign e env)::VJ c env:=by
 cases e <;> first |rfl |(exact absurd h Zh)
mutual
theorem gD(G:CtxOk T C ar k b X):∀ {e:Expr} {t:Tg},vR b e t=aN->PG X e (tTg X.K t)
 |e,.name i,h=>by
  obtain⟨r,c,h⟩:=zA h;obtain⟨l,u⟩:=an2 h;rw[qk c];have o:=G.own u;exact PG.imp (EA (i:=i) (x:=r.1) (by rw[G.hN];exact G.nd) (by rw[G.hN];exact eq_of_beq l) o.1 o.2) λx j H Q q=>qf q
 |e,.tup ts,h=>by
  obtain⟨r,c,h⟩:=zA h;rw[ql c];have d:=oD h;exact PG.imp (Ka G.calm (tj G h) rfl d.2) λx j H Q q=>K7 d.1 q
theorem tj(G:CtxOk T C ar k b X):∀ {c:List Expr} {d:List Tg},mh b c d=aN->PGs X c (BC X.K d)
 |c,[],h=>by
  rw[fD h];exact PGs.imp EB λx j H Q q=>Fy q
 |c,t::d,h=>by
  obtain⟨e,c,rfl,h⟩:=eY h;obtain⟨l,u,h⟩:=an3 h;exact PGs.imp (Ax (gD G l) (tj G h) (by rw[oC u];rfl)) λx j H Q q=>BD q
theorem oD:∀ {c:List Expr} {d:List Tg},mh b c d=aN->(VJ c X.env).length=d.length/\(VJ c X.env).findIdx? (·.1)=aD
 |c,[],h=>by
  rw[fD h];exact⟨rfl,rfl⟩
 |c,t::d,h=>by
  obtain⟨e,c,rfl,h⟩:=eY h;obtain⟨l,j,h⟩:=an3 h;have I:=oD h;rw[oC j];refine⟨congrArg (·+1) I.1,?_⟩;rw[List.findIdx?_cons];simp[I.2]
end
end
structure Snd(T:Tab)(C:Calls)(ar:Nat->Nat)(k n:Nat):Prop where
 e:∀ (b:Blk) (X:Cx) (e:Expr) (c:CE),CtxOk T C ar k b X->aH T n b e c=aN->PE X e (tE X.K (evE C ar n c))
 tm:∀ (b:Blk) (X:Cx) (e:Expr) (c:CE),CtxOk T C ar k b X->aj c=aN->aH T n b e c=aN->PE X e (fB X.K (cX C ar n c))
 a:∀ (b:Blk) (X:Cx) (es:List Expr) (cs:List CE),CtxOk T C ar k b X->fE T n b es cs=aN->PA X es (tAr X.K (evA C ar n cs))
 t:∀ (b:Blk) (X:Cx) (e:Expr) (c:CE),CtxOk T C ar k b X->fF T n b e c=aN->PT X e (tT X.K (evT C ar n c))
 i:∀ (B:List Addr) (b:Blk) (X:Cx) (t e:Expr) (c:CI),CtxOk T C ar k b X->sZ T n b t e c=aN->PI X t e (tIt X.K B (evI C ar n c))
 cl:∀ (b:Blk) (X:Cx) (e:Expr) (gs:List WT) (elt:CE) (cls:List Cl),CtxOk T C ar k b X->oB T n b e gs elt cls=aN ->
  ∀ (gens:List WT) (scope:Scope) (pos:Pos) (acc:Addr) (d:Nat),gens.drop (d+1)=gs->PTl X e gens scope pos acc d (tCl X.K acc (gK C ar n elt cls))
section
variable {T:Tab} {C:Calls} {ar:Nat->Nat} {k n:Nat} {b:Blk} {X:Cx}
def eG{e:Expr}{c:List Expr}{d:TE}{t:TA}(l:PE X e d)(j:PA X c t)(q:aG e=aN):PA X (e::c) (cf d t):=kF l j (am q)
def P8(I:Snd T C ar k n)(j:List Expr)(d:List CE)(G:CtxOk T C ar k b X)(h:fE T (n+1) b j d=aN):PA X j (tAr X.K (evA C ar (n+1) d)):=by
 cases d with
 |nil=>rw[fD h];exact PA.imp pG λu H Q q=>KJ q
 |cons c d=>
  obtain⟨e,j,rfl,h⟩:=eY h;obtain⟨v,l,h⟩:=an3 h;exact PA.imp (eG (I.e b X e c G v) (I.a b X j d G h) l) λu H Q q=>Fd q
def cz{e:Expr}{c:TE}(h:PE X e c)(d:aG e=aN):PA X [e] (cf c jh):=eG h pG d
def gF{x:Str}{id:String}{e:Expr}{l:TE}{r:V->Hp->VK->Prop}{p c:Pos}(hc:aX X (.builtin id) (r1 r))(G:CtxOk T C ar k b X)(d:b.glo x=aN)(hb:x ∈ fS)(v:VR x=aw (.builtin id))(u:x ≠ "__name__")(h:PE X e l)(j:aG e=aN) :
  PE X (.Call (.Name x p) [e] [] c) (tUn r l):=
 PE.imp (fI hc (G.gl d).1 (G.bl x hb) v (cz h j) u (G.gl d).2 (am j) rfl) λy H Q q=>q
def qv{x:Str}{id:String}{e:Expr}{l:TE}{r:V->Hp->VK->Prop}{p c:Pos}(hc:aX X (.type id) (r1 r))(G:CtxOk T C ar k b X)(d:b.glo x=aN)(hb:x ∈ fS)(v:VR x=aw (.type id))(u:x ≠ "__name__")(h:PE X e l)(j:aG e=aN) :
  PE X (.Call (.Name x p) [e] [] c) (tUn r l):=
 PE.imp (dZ hc (G.gl d).1 (G.bl x hb) v (cz h j) u (G.gl d).2 (am j) rfl) λy H Q q=>q
def jC{x:Str}{e:Expr}{a:CE}{f:Bool->List D->Sto->Option (D × Sto)}{ks:List Keyword}{p c:Pos}(I:Snd T C ar k n)(G:CtxOk T C ar k b X)(d:∀j:TE,PE X e j->PE X (.Call (.Name x p) [e] ks c) (tUn (rSq X.K f) j))(h:aH T n b e a=aN) :
  PE X (.Call (.Name x p) [e] ks c) (tE X.K (if aj a=aN then pS f (cX C ar n a) else pT f (evE C ar n a))):=by
 split
 ·rename_i l;exact PE.imp (d _ (I.tm b X e a G l h)) λu H Q q=>KG q
 ·exact PE.imp (d _ (I.e b X e a G h)) λu H Q q=>KM q
def xz{x y:Str}(h:(x == y)=aN):x=y:=eq_of_beq h
def kK{K:Vp}{x:XE}{j:L2.St}{H:Hp}{Q Q':VK}(h:tE K x j H Q)(f:∀v c,Q v c->Q' v c):tE K x j H Q':=by
 obtain⟨m,u,S,d,l,E,R,e,q⟩:=h;exact⟨m,u,S,d,l,E,R,e,λy c v A vd=>f _ _ (q y c v A vd)⟩
def Cm{x:XE}{l:L2.St}{H:Hp}{Q:VK}{K:Vp}(h:fB K (l6 x) l H Q):tUn (rTm K λ_ z=>aw z) (tE K x) l H Q:=by
 obtain⟨m,ρ,S,z,S',E,R,e,q⟩:=h;obtain⟨d,B,J,e⟩:=ab e;cases hi:ao d B with
 |none=>rw[hi] at e;cases e
 |some r=>
  rw[hi] at e;cases e;refine⟨m,ρ,S,d,_,E,R,J,λm1 H1 v c vd=>?_⟩;obtain⟨a,vs,ev,O,j⟩:=eB (tu:=r.1) (ds:=r.2) c.rel vd hi;refine⟨m1,_,r.1,r.2,a,vs,r.2,c.rel,ev,O,j,rfl,λm2 Z p Y A2 L n1 y I U=>?_⟩
  have hn:H p=aD:=by
   cases eh:H p with
   |none=>rfl
   |some o=>
    by_cases u:p ∈ m
    ·exact absurd rfl (y p (c.ext.pre.subset u))
    ·have:=c.ext.keep p o eh u;rw[I] at this;cases this
  exact q m2 Z p Y (c.trans A2) L n1 (λb hb=>y b (c.ext.pre.subset hb)) hn U
def Cn{x:XA}{j:L2.St}{H:Hp}{Q:VK}{K:Vp}(h:fB K x j H Q):tUn (rTm K λ_ d=>aw d) (fB K x) j H Q:=by
 obtain⟨m,ρ,S,d,J,E,R,e,q⟩:=h;refine⟨m,ρ,S,d,J,E,R,e,λm1 y a v c B na _ _ vd=>?_⟩;refine⟨m1,_,aS,d,a,v,d,c.rel,rfl,show SqL K y a v from SqL.of B,vd,rfl,λm2 U p O Y I Z u z L=>?_⟩
 have hn:H p=aD:=by
  cases eh:H p with
  |none=>rfl
  |some o=>
   by_cases l:p ∈ m
   ·exact absurd rfl (u p (c.ext.pre.subset l))
   ·have:=c.ext.keep p o eh l;rw[z] at this;cases this
 exact q m2 U p O (c.trans Y) I Z (λb hb=>u b (c.ext.pre.subset hb)) hn L
abbrev ifT(C:Calls)(ar:Nat->Nat)(n:Nat)(K:Vp):Option CE->TT
 |none=>EU
 |some c=>tT K (evT C ar n c)
def mm(I:Snd T C ar k n)(G:CtxOk T C ar k b X){ifs:List Expr}{cond:Option CE}(h:Ck (fF T n b) ifs cond=aN):PTs X ifs (ifT C ar n X.K cond):=by
 cases cond with
 |none=>rw[fD h];exact EV
 |some c=>obtain⟨e,rfl,h⟩:=jz h;exact EW (I.t b X e c G h)
def vV{K:Vp}{cond:Option CE}{d:Addr}{c:XA}{D:Ends}{j:L2.St}{H:Hp}(q:tCl K d (cnd (evT C ar n) cond c) D j H):fv (ifT C ar n K cond) (tCl K d c) D j H:=by
 cases cond with
 |none=>exact Lc q
 |some c=>exact FE q
def tv(I:Snd T C ar k n)(G:CtxOk T C ar k b X){l:Option Expr}{lo:Option CE}(h:Cj (aH T n b) l lo=aN):PO X l (tOI X.K (opt (evE C ar n) lo)):=by
 cases lo with
 |none=>
  cases l with
  |none=>exact PO.imp EL λd H Q q=>Fk q
  |some _=>cases h
 |some c=>obtain⟨e,rfl,h⟩:=zA h;exact PO.imp (w4 (I.e b X e c G h)) λd H Q q=>Fm q
def LM(O:Snd T C ar k n)(e:Expr)(gs:List WT)(u:CE)(B:List Cl)(G:CtxOk T C ar k b X)(h:oB T (n+1) b e gs u B=aN)(c:List WT)(j:Scope)(v:Pos)(l:Addr)(d:Nat)(hd:c.drop (d+1)=gs) :
  PTl X e c j v l d (tCl X.K l (gK C ar (n+1) u B)):=by
 have imp:∀ {t t':TS},PTl X e c j v l d t->(∀D y H,t' D y H->t D y H)->PTl X e c j v l d t':=λh f L s y H D I q=>h L s y H D I (f D y H q);cases B with
 |nil=>
  obtain⟨Q,h⟩:=an2 h;cases fD Q
  have Z:c[d+1]?=aD:=by
   have:=congrArg Zw hd;simp at this;exact Ye.mpr (by omega)
  exact imp (AR G.xe Z (O.e b X e u G h)) λD y H q=>FD q
 |cons g J=>
  obtain⟨tg,it,cond⟩:=g;obtain⟨⟨t,i,ifs,as⟩,gs',rfl,h⟩:=eY h;obtain⟨Q,h1,h2,h3,h4⟩:=an5 h;cases of_decide_eq_true Q
  have Z:c[d+1]?=aw ⟨t,i,ifs,0⟩:=by
   have:=congrArg (·[0]?) hd
   simpa using this
  have Y:c.drop (d+1+1)=gs':=by
   have:=congrArg (Xs 1) hd
   simpa[List.drop_drop] using this
  have U:=gC h1 (λe he env=>eZ he) X.env;exact imp (EX Z (O.i [l] b X t i it G h1) (gD G h2) (mm O G h3) (O.cl b X e gs' u J G h4 c j v l (d+1) Y) G.xe G.calm U) λD y H q=>BK (λD y H z=>vV z) q
def P9(I:Snd T C ar k n)(B:List Addr)(t e:Expr)(c:CI)(G:CtxOk T C ar k b X)(h:sZ T (n+1) b t e c=aN):PI X t e (tIt X.K B (evI C ar (n+1) c)):=by
 cases c with
 |val a=>
  have h:=an2 h;show PI X t _ (tIt X.K B (if aj a=aN then xIT (cX C ar n a) else xIV (evE C ar n a)));split
  ·rename_i z;exact PI.imp (wW (I.tm b X _ a G z h.1)) λl H R q=>Sw q
  ·exact PI.imp (PI.or (wW (I.e b X _ a G h.1)) (Ke (I.e b X _ a G h.1))) λl H R q=>Sv q
 |r1 a=>
  obtain⟨x,p,q,rfl,j,d,h4⟩:=bf h;exact PI.imp (yE (G.gl j).1 (G.bl _ (by decide)) (cz (I.e b X x a G d) h4) (am h4)) λl H R q=>PN q
 |dn a=>
  obtain⟨x,p,q,Z,O,r2,L,Y,U,rfl,j,d,h4⟩:=Jq h;have m1:∀ {n p r},PE X (.UnaryOp .USub (.Constant (.int 1) n p) r) (tC (.int (-1))):=λ{n p r}=>PE.imp (AB uI uF) λl H Q q=>⟨1,rfl,q⟩;exact PI.imp (PV (G.gl j).1 (G.bl _ (by decide)) (eG (I.e b X x a G d) (eG m1 (cz m1 rfl) rfl) h4) (am h4) rfl) λl H R q=>PX q
 |r2 a c=>
  obtain⟨x,y,p,q,rfl,j,d,h4,J,u⟩:=mi h;exact PI.imp (yF (G.gl j).1 (G.bl _ (by decide)) (eG (I.e b X x a G d) (cz (I.e b X y c G J) u) h4) (by rw[am h4,am u];rfl) (am u)) λl H R q=>PP q
 |en a=>
  have h:=an2 h;obtain⟨x,p,q,rfl,j,d,h4⟩:=bf h.1;obtain⟨v,x1,tp,rfl,_⟩:=Cf h.2;exact PI.imp (KF (G.gl j).1 (G.bl _ (by decide)) (cz (I.e b X x a G d) h4) (am h4)) λl H R q=>PM q
end
section
variable {T:Tab} {C:Calls} {ar:Nat->Nat} {k n:Nat} {b:Blk} {X:Cx}
def fT{k:Nat}{A:Around}(r:Room k A):A.units+64 < cLine:=r.units
def iR(K:Vp)(m:List Addr)(H:Hp):∀l:List Nat,VDs K m H (l.map λj=>D.int (Int.ofNat j)) (l.map λ(j:Nat)=>V.int j)
 |[]=>by rw[Z7,Z7,VDs]
 |a::l=>by rw[Zz,Zz,VDs];exact⟨_,_,rfl,bp,iR K m H l⟩
def FZ{K:Vp}{m:List Addr}{H:Hp}{S:Sto}{p:Addr}{ks:List (List NK)}{d:List D}{v:List V}{Q:VK}(R:Rel K m S H)(c:H p=aD)(vd:VDs K m H d v)(hl:ks.length=d.length)(q:∀l j u,Aft K m H (S++[.dic ks d]) l j->VD K l j (.ref S.length) u->Q u j):Q (.ref p) (upd H p (.dT (ks.zip v))):=by
 have x:=Ext.beside R c (.dT (ks.zip v));have y:=R.beside c (.dT (ks.zip v));refine q (m++[p]) _ _ ⟨x.adopt c,?_⟩ ?_
 ·exact y.adoptP (R.no c) (ob:=.dic ks d) ⟨v,az,hl,VDs.mono0 (YE m [p]) (λ_ _ t=>t) (vd.mono R x)⟩
 ·rw[VD];exact⟨p,by rw[Zp (by rw[R.len];exact Zj _),R.len,Yd];rfl,rfl⟩
def qw{c:List Expr}{a:CE}(h:fE T n b c [a]=aN):∃y,c=[y]:=by
 cases n with
 |zero=>exact absurd h Zh
 |succ n=>
  obtain⟨e,c,rfl,h⟩:=eY h;have h:=(an2 h).2;cases n with
  |zero=>exact absurd h Zh
  |succ n=>cases fD h;exact⟨e,rfl⟩
def F0(I:Snd T C ar k n){own:List Str}{l:CE}{B:Tg}{it:CI}{cond:Option CE}{d:List Cl}{e t i:Expr}{ifs:List Expr}{gs:List WT}{c:Scope}{v:Pos}(G:CtxOk T C ar k b X)
  (U:cmB own (mf own b.N) b.N c b.sc=aN) (J:sZ T n b t i it=aN) (Z:vR (b.inner own c) t B=aN) (Y:Ck (fF T n (b.inner own c)) ifs cond=aN) (h4:oB T n (b.inner own c) e gs l d=aN) :
  PE X (.ListComp e (⟨t,i,ifs,0⟩::gs) c v) (fB X.K (lY own.length (evI C ar n it) B (cnd (evT C ar n) cond (gK C ar n l d)) LF)):=by
 have S:CmScope own (mf own b.N) b.N c b.sc:=A7 _ U;have L:CmScope own (mf own b.N) X.N c X.env.scope:=by rw[G.hN,G.hs];exact S
 have y:=gC J (λe he env=>eZ he) X.env
 refine PE.imp (EY (g:=tTg X.K B) (ti:=ifT C ar n X.K cond) (t:=λj=>tCl X.K j (gK C ar n l d)) G.calm L (I.i [] b X t i it G J) (λu ex s H=>gD (G.inner S (C':=u) (ex:=ex) (s:=s) (H:=H)) Z) (λu ex s H=>mm I (G.inner S (C':=u) (ex:=ex) (s:=s) (H:=H)) Y)
  (λu ex s H j=>I.cl _ _ e gs l d (G.inner S (C':=u) (ex:=ex) (s:=s) (H:=H)) h4 _ c v j 0 rfl) y) λO H Q q=>?_
 exact xo (λj D O H z=>vV z) q
def LN{x:XE}{U:L2.St}{H:Hp}{Q:VK}{K:Vp}(h:fB K (zx x) U H Q):tE K x U H λv c=>∃i:Nat,v = .int i/\i<=1000/\∀p,c p=aD->∀l,upd c p (.rng 0 i) l=aD->Q (.ref l) (upd (upd c p (.rng 0 i)) l (.lst ((Zg i).map λ(j:Nat)=>V.int j))):=by
 obtain⟨m,ρ,S,ds,O,E,R,e,q⟩:=h;obtain⟨d,S1,e1,e⟩:=ab e;cases d with
 |int i=>
  dsimp only at e;split at e
  ·rename_i hi;cases e;refine⟨m,ρ,S,.int i,_,E,R,e1,λm1 c v u vd=>⟨i.toNat,by rw[vd.ints];congr 1;lia,by lia,λp J l y=>?_⟩⟩;have I:Aft K m1 c O m1 (upd c p (.rng 0 i.toNat)):=⟨Ext.beside u.rel J _,u.rel.beside J _⟩;have A3:Aft K m1 (upd c p (.rng 0 i.toNat)) O m1 (upd (upd c p (.rng 0 i.toNat)) l (.lst ((Zg i.toNat).map λ(j:Nat)=>V.int j))):=⟨Ext.beside I.rel y _,I.rel.beside y _⟩;have B:l ∉ m1:=I.rel.no y
   have Z:c l=aD:=by
    cases L:c l with
    |none=>rfl
    |some o=>rw[(Ext.beside u.rel J (.rng 0 i.toNat)).keep l o L B] at y;cases y
   have nH:H l=aD:=by
    cases L:H l with
    |none=>rfl
    |some o=>
     by_cases Y:l ∈ m
     ·exact absurd (u.ext.pre.subset Y) B
     ·rw[u.ext.keep l o L Y] at Z;cases Z
   refine q m1 _ l _ (u.trans (I.trans A3)) az B (λb hb z=>B (z ▸ u.ext.pre.subset hb)) nH ?_;exact iR _ _ _ _
  ·cases e
 |_=>cases e
def F1{c:L2.St}{H:Hp}{Q:VK}{K:Vp}(h:tE K B0 c H Q):AZ c H Q:=by
 obtain⟨m,u,S,d,l,E,R,e,q⟩:=h;cases e;exactλp j=>FZ R j (show VDs K m H [] [] by rw[VDs]) rfl q
def LP{f:Bool->List D->Option (List D)}{x:XE}{u:L2.St}{H:Hp}{Q:VK}{K:Vp}(h:fB K (zw f x) u H Q):tUn (rTm K f) (tE K x) u H Q:=by
 obtain⟨m,ρ,S,ds,S',E,R,e,q⟩:=h;obtain⟨d,B,J,e⟩:=ab e;cases hi:ao d B with
 |none=>rw[hi] at e;cases e
 |some r=>
  rw[hi] at e;dsimp only at e;cases l:f r.1 r.2 with
  |none=>rw[l] at e;cases e
  |some es=>
  rw[l] at e;cases e;refine⟨m,ρ,S,d,_,E,R,J,λm1 H1 v c vd=>?_⟩;obtain⟨a,vs,ev,O,j⟩:=eB (tu:=r.1) (ds:=r.2) c.rel vd hi;refine⟨m1,_,r.1,r.2,a,vs,ds,c.rel,ev,O,j,l,λm2 Z p Y A2 L n1 z I U=>?_⟩
  have hn:H p=aD:=by
   cases eh:H p with
   |none=>rfl
   |some o=>
    by_cases y:p ∈ m
    ·exact absurd rfl (z p (c.ext.pre.subset y))
    ·have:=c.ext.keep p o eh y;rw[I] at this;cases this
  exact q m2 Z p Y (c.trans A2) L n1 (λb hb=>z b (c.ext.pre.subset hb)) hn U
def LQ{f:Bool->List D->Option (List D)}{x:XA}{l:L2.St}{H:Hp}{Q:VK}{K:Vp}(h:fB K (zv f x) l H Q):tUn (rTm K f) (fB K x) l H Q:=by
 obtain⟨m,ρ,S,I,S',E,R,e,q⟩:=h;obtain⟨j,S1,L,e⟩:=ab e;cases d:f aS j with
 |none=>rw[d] at e;cases e
 |some O=>
 rw[d] at e;cases e;refine⟨m,ρ,S,j,_,E,R,L,λm1 z a y c J na _ _ vd=>?_⟩;refine⟨m1,_,aS,j,a,y,I,c.rel,rfl,show SqL K z a y from SqL.of J,vd,d,λm2 H2 p Z A2 U n1 v B Y=>?_⟩
 have hn:H p=aD:=by
  cases eh:H p with
  |none=>rfl
  |some o=>
   by_cases u:p ∈ m
   ·exact absurd rfl (v p (c.ext.pre.subset u))
   ·have:=c.ext.keep p o eh u;rw[B] at this;cases this
 exact q m2 H2 p Z (c.trans A2) U n1 (λb hb=>v b (c.ext.pre.subset hb)) hn Y
def Co(I:Snd T C ar k n)(e:Expr)(c:CE)(G:CtxOk T C ar k b X)(u:aj c=aN)(h:aH T (n+1) b e c=aN):PE X e (fB X.K (cX C ar (n+1) c)):=by
 cases c with
 |lst cs=>
  obtain⟨Z,p,rfl,L⟩:=LI h;exact PE.imp (Kr (I.a b X Z cs G L)) λB H Q q=>Fe q
 |listOf a=>
  obtain⟨x,p,q,rfl,d,j,h4⟩:=bf h;show PE X _ (fB X.K (if aj a=aN then cX C ar n a else l6 (evE C ar n a)));split
  ·rename_i u;exact PE.imp (qv lV G d (by decide) WG (by decide) (I.tm b X x a G u j) h4) λB H Q q=>Cn q
  ·exact PE.imp (qv lV G d (by decide) WG (by decide) (I.e b X x a G j) h4) λB H Q q=>Cm q
 |listR a=>
  obtain⟨x,p,q,rfl,d,j,h4⟩:=bf h;obtain⟨y,p',q',rfl,Y,h6,U⟩:=bf j
  exact PE.imp (dZ (pP G.calm) (G.gl d).1 (G.bl _ (by decide)) WG (cz (dZ jV (G.gl Y).1 (G.bl _ (by decide)) WJ (cz (I.e b X y a G h6) U) (by decide) (G.gl Y).2 (am U) rfl) h4) (by decide) (G.gl d).2 (am h4) rfl) λB H Q q=>kK (LN q) λv H1 ⟨i,ev,hi,z⟩=>by
    subst ev;exact⟨i,rfl,λp hp=>⟨p,i,rfl,az,hi,λl hl=>z p hp l hl⟩⟩
 |srt a=>
  obtain⟨x,p,q,rfl,d,j,h4⟩:=bf h;show PE X _ (fB X.K (if aj a=aN then zv cW (cX C ar n a) else zw cW (evE C ar n a)));split
  ·rename_i u;exact PE.imp (gF (ot (fT G.room)) G d (by decide) WK (by decide) (I.tm b X x a G u j) h4) λB H Q q=>LQ (f:=cW) q
  ·exact PE.imp (gF (ot (fT G.room)) G d (by decide) WK (by decide) (I.e b X x a G j) h4) λB H Q q=>LP (f:=cW) q
 |comp own elt cls=>
  obtain⟨tg,it,cond,O,rfl,hc⟩:=Jr h;obtain⟨el,t,i,ifs,gs,J,p,rfl,L⟩:=xy hc;obtain⟨h0,h1,d,j,h4⟩:=an5 L;exact F0 I G h0 h1 d j h4
 |_=>cases u
def kL{y:Expr}{c:Pos}(h:aG y=aN):((backTo c (Uv [y] X.env)).all (λx=>!x.1) && (VM c (Ub [] X.env)).all (λx=>x.1.isSome) && decide (([y]:List Expr).length+([]:List Keyword).length+(if ([]:List Keyword).isEmpty then 0 else 1) < 30))=aN:=by
 rw[am h];rfl
def Qa(I:Snd T C ar k n)(e:Expr)(c:CE)(G:CtxOk T C ar k b X)(h:aH T (n+1) b e c=aN):PE X e (tE X.K (evE C ar (n+1) c)):=by
 have hu:=fT G.room
 have tmp:aj c=aN->evE C ar (n+1) c=dM (cX C ar (n+1) c)->PE X e (tE X.K (evE C ar (n+1) c)):=λht he=>by
  rw[he];exact PE.imp (Co I e c G ht h) λL H Q q=>su q
 cases c with
 |non=>obtain⟨_,_,rfl⟩:=Ce h;exact PE.imp Ao λL H Q q=>Bd (λ_ _=>pV) q
 |bl v=>obtain⟨_,_,rfl⟩:=P5 h;exact PE.imp O1 λL H Q q=>Bd (λ_ _=>bJ) q
 |int v=>obtain⟨_,_,rfl⟩:=qm h;exact PE.imp uF λL H Q q=>Bd (λ_ _=>bp) q
 |str v=>obtain⟨_,_,rfl⟩:=LH h;exact PE.imp J3 λL H Q q=>Bd (λ_ _=>uW) q
 |var i=>
  obtain⟨x,p,rfl,hh⟩:=qo h;have hh:=an2 hh;have v:=G.vis hh.2;exact PE.imp (uE (i:=i) (by rw[G.hN];exact eq_of_beq hh.1) v.1 v.2.1 v.2.2) λL H Q q=>KH q
 |con k' v=>
  obtain⟨x,p,rfl,hh⟩:=qo h;have hh:=an2 hh;have g:=G.gl hh.2;obtain⟨tk,hm⟩:=G.con k' x v (eq_of_beq hh.1);exact PE.imp (Et (v:=.int v) g.1 hm ⟨tk,rfl⟩ g.2) λL H Q q=>Bd (λ_ _=>bp) q
 |tup cs=>obtain⟨Z,_,_,rfl,hh⟩:=Cf h;exact PE.imp (AH (I.a b X Z cs G hh)) λL H Q q=>KL q
 |lst cs=>exact tmp rfl rfl
 |dic0=>obtain⟨p,rfl⟩:=FY h;exact PE.imp A0 λL H Q q=>F1 q
 |bin o a O=>obtain⟨l,r,p,rfl,u,B⟩:=LJ h;exact PE.imp (Pe (Fj o) (I.e b X l a G u) (I.e b X r O G B)) λL H Q q=>pU q
 |neg a=>obtain⟨x,p,rfl,hh⟩:=qp h;exact PE.imp (AB FF (I.e b X x a G hh)) λL H Q q=>I8 q
 |cmp o a O=>obtain⟨l,r,p,rfl,u,B,h4⟩:=Ch h;exact PE.imp (EF (gA hu o) (I.e b X l a G u) (I.e b X r O G B) (ib h4)) λL H Q q=>pU q
 |chn o p' a O d=>obtain⟨l,r,s,p,rfl,u,B,h4,U⟩:=Ci h;exact PE.imp (AE (gA hu o) (gA hu p') (I.e b X l a G u) (I.e b X r O G B) (I.e b X s d G h4) (mj U)) λL H Q q=>BN q
 |and a O=>
  rcases FV h with h |h
  ·obtain⟨x,y,p,rfl,Y,u⟩:=qr h;exact PE.imp (Ar (I.e b X x a G Y) (Aq (I.e b X y O G u))) λL H Q q=>BM q
  ·obtain⟨x,y,z,ys,p,rfl,Y,u⟩:=qt h;exact PE.imp (Ar (I.e b X x a G Y) (I.e b X _ O G u)) λL H Q q=>BM q
 |or a O=>
  rcases FV h with h |h
  ·obtain⟨x,y,p,rfl,Y,u⟩:=qr h;exact PE.imp (IK (I.e b X x a G Y) (Aq (I.e b X y O G u))) λL H Q q=>Jd q
  ·obtain⟨x,y,z,ys,p,rfl,Y,u⟩:=qt h;exact PE.imp (IK (I.e b X x a G Y) (I.e b X _ O G u)) λL H Q q=>Jd q
 |not a=>obtain⟨x,p,rfl,hh⟩:=Cg h;exact PE.imp (J6 (I.e b X x a G hh)) λL H Q q=>Li q
 |ite t a O=>obtain⟨x,y,z,p,rfl,Y,u,B⟩:=LK h;exact PE.imp (As (I.t b X x t G Y) (I.e b X y a G u) (I.e b X z O G B)) λL H Q q=>Lj q
 |ix a O=>
  obtain⟨x,y,p,rfl,Y,u,B⟩:=P6 h;show PE X _ (tE X.K (if aj a=aN then vf (cX C ar n a) (evE C ar n O) else sj ixS (evE C ar n a) (evE C ar n O)));split
  ·rename_i ht;exact PE.imp (IX AM (I.tm b X x a G ht Y) (I.e b X y O G u) (td B)) λL H Q q=>KY q
  ·exact PE.imp (IX (Sr hu) (I.e b X x a G Y) (I.e b X y O G u) (td B)) λL H Q q=>pU q
 |sl a lo hi=>obtain⟨x,y,z,p,p',rfl,Y,u,B⟩:=P7 h;exact PE.imp (AK Ss (I.e b X x a G Y) (tv I G u) (tv I G B)) λL H Q q=>PC q
 |call f cs=>
  obtain⟨x,e,Z,p,p',rfl,h12,B⟩:=FW (k:=λx=>oA T.fns[f]? (λy=>y.1 == x) && b.glo x) (l:=λZ=>fE T n b Z cs) (e:=e) h;obtain⟨Y,u⟩:=an2 h12
  ·obtain⟨y,hy,Y⟩:=zA Y;have hx:=xz Y;subst hx;obtain⟨ha,fa,fd,ps,hm,hk,hb,F⟩:=G.fns f y hy;have J:=bE B;have g:=G.gl u;exact PE.imp (EJ F G.room g.1 hm hk hb .nil Pt (I.a b X (e::Z) cs G B) g.2 (am (J e Zi)) (jB λe he=>J e (Ze _ he))) λL H Q q=>FG q
 |inst t a=>
  obtain⟨x,y,p,p',rfl,u,U,h6,h7,_⟩:=mi h;obtain⟨y,p'',rfl,h8⟩:=qo h7;obtain⟨B,h4⟩:=an2 h8;have hy:=xz B;subst hy
  have ty:PE X (.Name (Str.ofString t.nm) p'') (tC (.ty t.nm)):=by
   have g:=G.gl h4;cases t with
   |int=>exact iA g.1 (G.bl _ (by decide)) PyProof.Rows.boot_int rfl (by decide) g.2
   |bool=>exact iA g.1 (G.bl _ (by decide)) PyProof.Rows.boot_bool rfl (by decide) g.2
   |tuple=>exact iA g.1 (G.bl _ (by decide)) WL rfl (by decide) g.2
   |list=>exact iA g.1 (G.bl _ (by decide)) WG rfl (by decide) g.2
   |str=>exact iA g.1 (G.bl _ (by decide)) PyProof.Rows.boot_str rfl (by decide) g.2
  exact PE.imp (fI (pQ X.K) (G.gl u).1 (G.bl _ (by decide)) PyProof.Rows.boot_isinstance (eG (I.e b X x a G U) (cz ty rfl) h6) (by decide) (G.gl u).2 (am h6) rfl) λL H Q q=>Fq q
 |len a=>obtain⟨x,p,p',rfl,u,B,h4⟩:=bf h;exact jC I G (λte z=>gF y8 G u (by decide) VS (by decide) z h4) B
 |all a=>obtain⟨x,p,p',rfl,u,B,h4⟩:=bf h;exact jC I G (λte z=>gF (zd G.calm) G u (by decide) PyProof.Rows.boot_all (by decide) z h4) B
 |any a=>obtain⟨x,p,p',rfl,u,B,h4⟩:=bf h;exact jC I G (λte z=>gF (ze G.calm) G u (by decide) PyProof.Rows.boot_any (by decide) z h4) B
 |mxL a=>obtain⟨x,p,p',rfl,u,B,h4⟩:=bf h;exact jC I G (λte z=>gF (zk G.calm) G u (by decide) WH (by decide) z h4) B
 |rev a=>obtain⟨x,k,p,p2,p3,p4,rfl,Y⟩:=LL h;exact PE.imp (K5 (I.e b X x a G Y)) λL H Q q=>I8 q
 |mnN a=>
  obtain⟨x,p,q,j,p',q',rfl,u,B,h4⟩:=FX h;exact jC I G (λte z=>PE.imp (Lp hu G.calm (G.gl u).1 (G.bl _ (by decide)) (G.gl u).2 (cz z h4) (am h4)) λL H Q q=>q) B
 |tupOf a=>obtain⟨x,p,p',rfl,u,B,h4⟩:=bf h;exact jC I G (λte z=>qv y9 G u (by decide) WL (by decide) z h4) B
 |listOf a=>exact tmp rfl rfl
 |listR a=>exact tmp rfl rfl
 |srt a=>exact tmp rfl rfl
 |mx a O=>
  obtain⟨x,Z,p,p',rfl,u,B⟩:=sY (b:=b) (f := "max") (k:=λZ=>fE T n b Z [a,O]) (e:=e) h;have J:=bE B;exact PE.imp (fI (vt G.calm) (G.gl u).1 (G.bl _ (by decide)) WH (I.a b X (x::Z) [a,O] G B) (by decide) (G.gl u).2 (am (J x Zi)) (jB λe he=>J e (Ze _ he))) λL H Q q=>Bc q
 |mn a O=>
  obtain⟨x,Z,p,p',rfl,u,B⟩:=sY (b:=b) (f := "min") (k:=λZ=>fE T n b Z [a,O]) (e:=e) h;have J:=bE B;exact PE.imp (fI (vA G.calm) (G.gl u).1 (G.bl _ (by decide)) WI (I.a b X (x::Z) [a,O] G B) (by decide) (G.gl u).2 (am (J x Zi)) (jB λe he=>J e (Ze _ he))) λL H Q q=>Bc q
 |comp own elt cls=>exact tmp rfl rfl
 |app o a=>
  obtain⟨x,ap,Z,p,rfl,u,B,h4,U⟩:=qu h;obtain⟨y,rfl⟩:=qw U;have J:=bE U y (by simp);exact PE.imp (w8 W2 W6 PySem.F.type_list_append K6 (I.e b X x o G h4) (I.a b X [y] [a] G U) (e8 u) (kL J) B (am J) rfl) λL H Q q=>qe (λR vd c=>Bz R vd c) q
 |popAt o a=>
  obtain⟨x,ap,Z,p,rfl,u,B,h4,U⟩:=qu h;obtain⟨y,rfl⟩:=qw U;have J:=bE U y (by simp);exact PE.imp (w8 W2 W7 PySem.F.type_list_pop zm (I.e b X x o G h4) (I.a b X [y] [a] G U) (e8 u) (kL J) B (am J) rfl) λL H Q q=>qe (λR vd c=>Bz R vd c) q
 |cnt o a=>
  obtain⟨x,ap,Z,p,rfl,u,B,h4,U⟩:=qu h;obtain⟨y,rfl⟩:=qw U;have J:=bE U y (by simp);exact PE.imp (w8 W3 W9 PySem.F.type_tuple_count Ft (I.e b X x o G h4) (I.a b X [y] [a] G U) (e8 u) (kL J) B (am J) rfl) λL H Q q=>qe (λR vd c=>BA R vd c) q
 |idx o a=>
  obtain⟨x,ap,Z,p,rfl,u,B,h4,U⟩:=qu h;obtain⟨y,rfl⟩:=qw U;have J:=bE U y (by simp);exact PE.imp (w8 W3 Va PySem.F.type_tuple_index FM (I.e b X x o G h4) (I.a b X [y] [a] G U) (e8 u) (kL J) B (am J) rfl) λL H Q q=>qe (λR vd c=>BA R vd c) q
 |tupR a=>
  obtain⟨x,p,q,rfl,u,B,h4⟩:=bf h;obtain⟨y,p',q',rfl,U,h6,h7⟩:=bf B
  exact PE.imp (dZ (sV G.calm) (G.gl u).1 (G.bl _ (by decide)) WL (cz (dZ jV (G.gl U).1 (G.bl _ (by decide)) WJ (cz (I.e b X y a G h6) h7) (by decide) (G.gl U).2 (am h7) rfl) h4) (by decide) (G.gl u).2 (am h4) rfl) λL H Q q=>kK (FO q) λv H1 ⟨i,ev,hi,z⟩=>by
    subst ev;exact⟨i,rfl,λp hp=>⟨p,i,rfl,az,hi,λl hl=>z p hp l hl⟩⟩
end
section
variable {T:Tab} {C:Calls} {ar:Nat->Nat} {k n:Nat} {b:Blk} {X:Cx}
def xD{op:BoolOp}{v:List Expr}{p:Pos}{t:TT}(h:PT X (.BoolOp op v p) t):PW X (.BoolOp op v p) t:=λd c s j H Q I q=>h c s j H Q I q
def Qc(I:Snd T C ar k n)(e:Expr)(c:CE)(G:CtxOk T C ar k b X)(h:fF T (n+1) b e c=aN):PT X e (tT X.K (evT C ar (n+1) c)):=by
 have O:=fT G.room
 have dflt:evT C ar (n+1) c=Fn (evE C ar n c)->(aH T n b e c && Ly e)=aN->PT X e (tT X.K (evT C ar (n+1) c)):=λU J=>by
  rw[U];have J:=an2 J;exact PT.imp (AG (I.e b X e c G J.1) (vU J.2)) λB H Q q=>K0 q
 cases c with
 |cmp o a u=>obtain⟨l,r,p,rfl,j,L,h4⟩:=Ch h;exact PT.imp (EG (gA O o) (I.e b X l a G j) (I.e b X r u G L) (ib h4)) λB H Q q=>pU (PD q)
 |chn o Y a u d=>obtain⟨l,r,s,p,rfl,j,L,h4,h5⟩:=Ci h;exact PT.imp (AF (gA O o) (gA O Y) (I.e b X l a G j) (I.e b X r u G L) (I.e b X s d G h4) (mj h5)) λB H Q q=>BN (PD q)
 |and a u=>
  rcases FV h with h |h
  ·obtain⟨x,y,p,rfl,v,j⟩:=qr h;exact PT.imp (Ap (I.t b X x a G v) (Eu (I.t b X y u G j))).pt λB H Q q=>BQ q
  ·obtain⟨x,y,z,Z,p,rfl,v,j⟩:=qt h;exact PT.imp (Ap (I.t b X x a G v) (xD (I.t b X _ u G j))).pt λB H Q q=>BQ q
 |or a u=>
  rcases FV h with h |h
  ·obtain⟨x,y,p,rfl,v,j⟩:=qr h;exact PT.imp (IH (I.t b X x a G v) (J4 (I.t b X y u G j))).pt λB H Q q=>Je q
  ·obtain⟨x,y,z,Z,p,rfl,v,j⟩:=qt h;exact PT.imp (IH (I.t b X x a G v) (xD (I.t b X _ u G j))).pt λB H Q q=>Je q
 |not a=>obtain⟨x,p,rfl,v⟩:=Cg h;exact PT.imp (J5 (I.t b X x a G v)) λB H Q q=>Lm q
 |ite _ _ _=>cases h
 |_=>exact dflt rfl h
def snd:∀n,Snd T C ar k n
 |0=>⟨λb X e c _ h=>absurd h Zh,λb X e c _ _ h=>absurd h Zh,λb X e c _ h=>absurd h Zh,λb X e c _ h=>absurd h Zh,λB b X t e c _ h=>absurd h Zh,λb X e gs j d _ h=>absurd h Zh⟩
 |n+1=>⟨λb X e c G h=>Qa (snd n) e c G h,λb X e c G l h=>Co (snd n) e c G l h,λb X q u G h=>P8 (snd n) q u G h,λb X e c G h=>Qc (snd n) e c G h,λB b X t e c G h=>P9 (snd n) B t e c G h,λb X e gs j d G h=>LM (snd n) e gs j d G h⟩
end
inductive CS where |asg (t:Tg)(e:CE) |setI (v o i:CE) |ex (e:CE) |ret (e:CE) |ifs (c:CE)(a b:List CS) |for_ (t:Tg)(it:CI)(b:List CS) |cnt |never
abbrev F2:XS:=λ_ _=>aD
mutual
noncomputable def evS(C:Calls)(d:Nat->Nat):Nat->CS->XS
 |0,_=>F2
 |n+1,s=>match s with
  |.asg t e=>nB (evE C d n e) t
  |.setI v o i=>sP (evE C d n v) (evE C d n o) (evE C d n i)
  |.ex e=>sO (evE C d n e)
  |.ret e=>BG (evE C d n e)
  |.ifs c a b=>xIf (evT C d n c) (gL C d n a) (gL C d n b)
  |.for_ t it b=>BH (evI C d n it) t (gL C d n b) LF
  |.cnt=>PQ
  |.never=>F2
noncomputable def gL(C:Calls)(b:Nat->Nat):Nat->List CS->XS
 |0,_=>F2
 |n+1,ss=>match ss with
  |[]=>Jb
  |s::ss=>BF (evS C b n s) (gL C b n ss)
end
abbrev Cp:Expr->Bool
 |.Starred _ _=>aN
 |_=>aS
abbrev gG(sc:Scope)(l:Nat)(T:List Expr):List Str:=T.filterMap λ
 |.Name id pos=>if sc.names.lookup id == aw .local && pos.line == l then aw id else aD
 |_=>aD
abbrev xE(sc:Scope)(ts vs:List Expr):Option (Option (List Str)):=
 if (!(ts.length == 2 || ts.length == 3) || vs.length != ts.length)=aN then aw aD
 else if (vs.any Cp)=aN then aw aD
 else if ((gG sc ((ts.head?.map (·.pos.line)).getD 0) ts).length != ts.length || (gG sc ((ts.head?.map (·.pos.line)).getD 0) ts).eraseDups.length != (gG sc ((ts.head?.map (·.pos.line)).getD 0) ts).length)=aN then aw aD
 else if (vs.all (foldedForSure 8))=aN then aw aD
 else if (vs.all (constantsAlone 8))=aN then aD
 else aw (aw (gG sc ((ts.head?.map (·.pos.line)).getD 0) ts))
def Qe{k k2:Nat}(y:env.blockKind = .function)(hs:env.scope=sc)(h:xE sc ts v=aw r):Uw [.Tuple ts k p] (.Tuple v k2 p2) env=pure r:=by
 unfold xE at h;unfold Uw
 have j:(v.any λ|.Starred ..=>aN |_=>aS)=v.any Cp:=by
  congr 1
 have l:(ts.filterMap λ
   |.Name id pos=>if env.kindOf id == aw .local && pos.line == ((ts.head?.map (·.pos.line)).getD 0) then aw id else aD
   | _=>aD)=gG sc ((ts.head?.map (·.pos.line)).getD 0) ts:=by
  unfold gG Env.kindOf;rw[hs]
 have q:(env.blockKind != .function)=aS:=by rw[y];rfl
 simp only[q,Wv];split at h
 ·rename_i b;rw[if_pos b];cases h;rfl
 rename_i b;rw[if_neg b];split at h
 ·rename_i C;cases h;exact if_pos (j.trans C)
 rename_i C;refine Eq.trans (if_neg λz=>C (j.symm.trans z)) ?_;split at h
 ·rename_i c;cases h;rw[<-l] at c;exact if_pos c
 rename_i c;rw[<-l] at c h;refine Eq.trans (if_neg c) ?_;split at h
 ·rename_i d;cases h;exact if_pos d
 rename_i d;refine Eq.trans (if_neg d) ?_;split at h
 ·cases h
 rename_i u;cases h;exact if_neg u
abbrev Cq:Expr->Option (Scope × Pos)
 |.ListComp _ _ s p=>aw (s,p)
 |.SetComp _ _ s p=>aw (s,p)
 |.DictComp _ _ _ s p=>aw (s,p)
 |_=>aD
abbrev swW(sc:Scope)(v:Expr)(t:Str)(b:Pos):Bool:=match Cq v with
 |none=>aS
 |some (s,p)=>sc.names.lookup t == aw .local && b.line == p.line && !(s.names.any λy=>y.1 == t && (y.2 == .local || y.2 == .cell))
def LR{line:Nat}(c:env.blockKind = .function)(hs:env.scope=sc):Ux v (aw (.Name t pos)) line env=pure (swW sc v t pos):=by
 unfold Ux swW Cq;have b:(env.blockKind == .function)=aN:=by rw[c];rfl
 cases v <;> first |rfl |(simp only[b,YZ,Env.kindOf,hs];rfl)
def tw{l:Nat}(h:∀x p,T ≠ .Name x p):Uy [T] v l env=pure aS:=by
 show Ux v (aw T) l env=pure aS;unfold Ux;cases v <;> first |rfl |(cases T <;> first |rfl |(exact absurd rfl (h _ _)))
def xF(h:(∀b k p,v ≠ .Tuple b k p)\/(∃x p,T = .Name x p)\/(∃o i p,T = .Subscript o i p)):Uw [T] v env=pure aD:=by
 unfold Uw;rcases h with h |⟨x,p,rfl⟩ |⟨o,i,p,rfl⟩
 ·split
  ·rename_i e;split at e
   ·exact absurd rfl (h _ _ _)
   ·exact absurd rfl (h _ _ _)
   ·cases e
  ·rfl
 ·rfl
 ·rfl
abbrev nmL:List Expr->Option (List Str)
 |[]=>aw []
 |e::es=>match B8 e,nmL es with
  |some r,aw xs=>aw (r.1::xs)
  |_,_=>aD
def tz(h:nmL c=aw (x::xs)):∃p b,c = .Name x p::b/\nmL b=aw xs:=by
 cases c with
 |nil=>cases h
 |cons e c=>
  rw[nmL] at h;split at h
  ·rename_i r y d j;cases h;exact⟨_,c,by rw[qk d],j⟩
  ·cases h
def F3(h:nmL b=aw []):b=[]:=by
 cases b with
 |nil=>rfl
 |cons e b=>
  rw[nmL] at h;split at h <;> cases h
abbrev tgL:List Tg->Option (List Nat)
 |[]=>aw []
 |.name i::ts=>match tgL ts with
  |some is=>aw (i::is)
  |none=>aD
 |.tup _::_=>aD
def Cr:∀ {T:List Tg} {is:List Nat},tgL T=aw is->T=is.map Tg.name
 |[],_,h=>by cases h;rfl
 |.name i::T,is,h=>by
  rw[tgL] at h;cases e:tgL T with
  |none=>rw[e] at h;cases h
  |some js=>rw[e] at h;cases h;rw[Cr e];rfl
 |.tup _::_,_,h=>by cases h
abbrev Qg(b:Blk)(ns:List Str)(is:List Nat):Bool:=match ns with
 | [x,y]=>(match is with
  |[i,j]=>b.N[i]? == aw x && b.N[j]? == aw y && i != j && b.sc.names.lookup x == aw .local && b.sc.names.lookup y == aw .local
  | _=>aS)
 |_=>aS
abbrev Sz(e:Expr):Bool:=jA e λ_ _ _ _=>aN
abbrev SA(e:Expr):Bool:=e.ctorIdx == 24
abbrev vW(T:Tab)(n:Nat)(b:Blk)(d e:Expr)(t:Tg)(c:CE):Bool:=match t with
 | .name i=>(match B8 d with
  |some r=>aH T n b e c && b.N[i]? == aw r.1 && b.own r.1 && (!(swW b.sc e r.1 r.2) || (Sz e && b.sc.names.lookup r.1 == aw .local))
  | none=>aS)
 | .tup gs=>(match zy d with
  | some r=>aH T n b e c && (match zy e with
   | some q=>(match xE b.sc r.1 q.1 with
    |some aD=>mh b r.1 gs
    | some (aw ns)=>(match tgL gs with
     |some is=>nmL r.1 == aw ns && q.1.length == ns.length && Qg b ns is
     | none=>aS)
    | none=>aS)
   | none=>!(SA e) && mh b r.1 gs)
  | none=>aS)
abbrev xG(e:Stmt)(k:Option Expr->Pos->Bool):Bool:=if h:e.ctorIdx=3 then @Stmt.Return.elim (λ_=>Bool) e h k else aS
def zB(h:xG e k=aN):∃X b,e = .Return X b/\k X b=aN:=by
 obtain⟨c,h⟩:=bN h;exact Stmt.Return.elim (motive_2:=λe=>∀j,@Stmt.Return.elim (λ_=>Bool) e j k=aN->∃X b,e = .Return X b/\k X b=aN) e c (λX b _ d=>⟨X,b,rfl,d⟩) c h
abbrev qx(e:Stmt)(k:List Expr->Expr->Pos->Bool):Bool:=if h:e.ctorIdx=5 then @Stmt.Assign.elim (λ_=>Bool) e h k else aS
def oE(h:qx e k=aN):∃X c b,e = .Assign X c b/\k X c b=aN:=by
 obtain⟨d,h⟩:=bN h;exact Stmt.Assign.elim (motive_2:=λe=>∀l,@Stmt.Assign.elim (λ_=>Bool) e l k=aN->∃X c b,e = .Assign X c b/\k X c b=aN) e d (λX c b _ j=>⟨X,c,b,rfl,j⟩) d h
abbrev Qh(e:Stmt)(k:Expr->Expr->List Stmt->List Stmt->Pos->Bool):Bool:=if h:e.ctorIdx=9 then @Stmt.For.elim (λ_=>Bool) e h k else aS
def LS(h:Qh e k=aN):∃d b c j X,e = .For d b c j X/\k d b c j X=aN:=by
 obtain⟨l,h⟩:=bN h;exact Stmt.For.elim (motive_2:=λe=>∀u,@Stmt.For.elim (λ_=>Bool) e u k=aN->∃d b c j X,e = .For d b c j X/\k d b c j X=aN) e l (λd b c j X _ q=>⟨d,b,c,j,X,rfl,q⟩) l h
abbrev jIf(e:Stmt)(k:Expr->List Stmt->List Stmt->Pos->Bool):Bool:=if h:e.ctorIdx=12 then @Stmt.If.elim (λ_=>Bool) e h k else aS
def Qj(h:jIf e k=aN):∃c X b d,e = .If c X b d/\k c X b d=aN:=by
 obtain⟨j,h⟩:=bN h;exact Stmt.If.elim (motive_2:=λe=>∀q,@Stmt.If.elim (λ_=>Bool) e q k=aN->∃c X b d,e = .If c X b d/\k c X b d=aN) e j (λc X b d _ l=>⟨c,X,b,d,rfl,l⟩) j h
abbrev Js(e:Stmt)(k:Expr->Pos->Bool):Bool:=if h:e.ctorIdx=24 then @Stmt.Expr.elim (λ_=>Bool) e h k else aS
def F4(h:Js e k=aN):∃X b,e = .Expr X b/\k X b=aN:=by
 obtain⟨c,h⟩:=bN h;exact Stmt.Expr.elim (motive_2:=λe=>∀j,@Stmt.Expr.elim (λ_=>Bool) e j k=aN->∃X b,e = .Expr X b/\k X b=aN) e c (λX b _ d=>⟨X,b,rfl,d⟩) c h
abbrev oG(e:Stmt)(k:Pos->Bool):Bool:=if h:e.ctorIdx=27 then @Stmt.Continue.elim (λ_=>Bool) e h k else aS
def tB(h:oG e k=aN):∃X,e = .Continue X/\k X=aN:=by
 obtain⟨b,h⟩:=bN h;exact Stmt.Continue.elim (motive_2:=λe=>∀d,@Stmt.Continue.elim (λ_=>Bool) e d k=aN->∃X,e = .Continue X/\k X=aN) e b (λX _ c=>⟨X,rfl,c⟩) b h
abbrev qy(e:Expr):Bool:=e.ctorIdx == 8 || e.ctorIdx == 9 || e.ctorIdx == 10
abbrev Qk(k:Expr->Expr->Bool)(s:Stmt):Bool:=qx s λT v _=>l1 T λb=>k b v
abbrev Jt(k l m:Expr->Bool)(s:Stmt):Bool:=qx s λb z _=>l1 b λT=>de T λx y _=>k z && l x && m y && aG y
abbrev zEx(k:Expr->Bool)(s:Stmt):Bool:=Js s λv _=>k v && !(qy v)
abbrev Qm(k:Expr->Bool)(s:Stmt):Bool:=xG s λv _=>oA v k
abbrev zIf(k:Expr->Bool)(l m:List Stmt->Bool)(s:Stmt):Bool:=jIf s λt p q _=>k t && l p && m q
abbrev Qo(k:Expr->Expr->Bool)(l:List Stmt->Bool)(s:Stmt):Bool:=Qh s λT i p q _=>q.isEmpty && k T i && l p
abbrev Qp(s:Stmt):Bool:=oG s λ_=>aN
section
variable {s:Stmt} {k l m:Expr->Bool}
def LU{k:Expr->Expr->Bool}(h:Qk k s=aN):∃T v p,s = .Assign [T] v p/\k T v=aN:=by
 obtain⟨b,v,p,rfl,h⟩:=oE h;obtain⟨T,rfl,h⟩:=jz h;exact⟨T,v,p,rfl,h⟩
def F5(h:Jt k l m s=aN):∃x y q z p,s = .Assign [.Subscript x y q] z p/\k z=aN/\l x=aN/\m y=aN/\aG y=aN:=by
 obtain⟨b,v,p,rfl,h⟩:=oE h;obtain⟨T,rfl,h⟩:=jz h;obtain⟨x,y,q,rfl,h⟩:=cY h;exact⟨x,y,q,v,p,rfl,an4 h⟩
def Qq(h:zEx k s=aN):∃v p,s = .Expr v p/\k v=aN/\qy v=aS:=by
 obtain⟨v,p,rfl,h⟩:=F4 h;obtain⟨c,b⟩:=an2 h;exact⟨v,p,rfl,c,by cases e:qy v;rfl;rw[e] at b;cases b⟩
def LV(h:Qm k s=aN):∃v p,s = .Return (aw v) p/\k v=aN:=by
 obtain⟨v,p,rfl,h⟩:=zB h;obtain⟨v,rfl,h⟩:=zA h;exact⟨v,p,rfl,h⟩
def Qu{l m:List Stmt->Bool}(h:zIf k l m s=aN):∃t p q r,s = .If t p q r/\k t=aN/\l p=aN/\m q=aN:=by
 obtain⟨t,p,q,r,rfl,h⟩:=Qj h;exact⟨t,p,q,r,rfl,an3 h⟩
def LW{k:Expr->Expr->Bool}{l:List Stmt->Bool}(h:Qo k l s=aN):∃T i p q,s = .For T i p [] q/\k T i=aN/\l p=aN:=by
 obtain⟨T,i,p,q,r,rfl,h⟩:=LS h;obtain⟨b,z⟩:=an3 h;cases fD b;exact⟨T,i,p,r,rfl,z⟩
def LX(h:Qp s=aN):∃p,s = .Continue p:=by obtain⟨p,rfl,_⟩:=tB h;exact⟨p,rfl⟩
end
mutual
noncomputable def Qv(T:Tab):Nat->Blk->Stmt->CS->Bool
 |0,_,_,_=>aS
 |n+1,b,s,c=>match c with
  |.asg t e=>Qk (λd v=>vW T n b d v t e) s
  |.setI v o i=>Jt (λx=>aH T n b x v) (λx=>aH T n b x o) (λx=>aH T n b x i) s
  |.ex e=>zEx (λx=>aH T n b x e) s
  |.ret e=>Qm (λx=>aH T n b x e) s
  |.ifs c x y=>zIf (λe=>fF T n b e c) (λp=>oH T n b p x) (λp=>oH T n b p y) s
  |.for_ t it x=>Qo (λd i=>sZ T n b d i it && vR b d t) (λp=>oH T n b p x) s
  |.cnt=>Qp s
  |.never=>aN
noncomputable def oH(T:Tab):Nat->Blk->List Stmt->List CS->Bool
 |0,_,_,_=>aS
 |n+1,b,ss,cs=>match cs with
  |[]=>ss.isEmpty
  |c::cs=>lC ss λs ss=>Qv T n b s c && oH T n b ss cs
end
section
variable {T:Tab} {C:Calls} {ar:Nat->Nat} {k n:Nat} {b:Blk} {X:Cx}
def F6{c:Nat}(h:aH T (n+1) b (.Tuple d c p) (.tup j)=aN):fE T n b d j=aN:=h
def Cs{l:Nat}(h:aH T (n+1) b (.Tuple u l p) c=aN):∃cs,c = .tup cs:=by
 cases c with
 |tup cs=>exact⟨cs,rfl⟩
 |comp own q d=>
  cases d with
  |nil=>exact absurd h Zh
  |cons g j=>obtain⟨v,it,cond⟩:=g;exact absurd h Zh
 |_=>exact absurd h Zh
def mq:∀ (l:List Tg) (j:List D) (q c:Rho),aO l j q=aw c->l.length=j.length
 |[],[],_,_,_=>rfl
 |[],_::_,_,_,e=>by simp[aO] at e
 |_::_,[],_,_,e=>by simp[aO] at e
 |t::l,d::j,q,c,e=>by
  simp only[aO] at e;split at e
  ·simp[mq _ _ _ _ e]
  ·cases e
def Ct{K:Vp}{x:XA}{y:List Tg}{D:Ends}{z:L2.St}{H:Hp}(h:tSt K (nB (lB lJ x) (.tup y)) D z H):tAr K x z H λI H1=>∃m1 j d l,EnvR K m1 H1 j z/\VDs K m1 H1 l I/\aO y l j=aw d/\∀c,EnvR K m1 H1 d c->D.nx c H1:=by
 obtain⟨m,j,S,U,d,Y,E,R,e,q⟩:=h;unfold nB at e;cases v:lB lJ x j S with
 |none=>rw[v] at e;cases e
 |some r=>
  rw[v] at e;obtain⟨l,Q,L,u⟩:=ab v;unfold lJ at u;split at u
  ·cases u;dsimp only at e;simp only[aC] at e;cases hb:aO y l j with
   |none=>rw[hb] at e;cases e
   |some J=>
    rw[hb] at e;cases e;exact⟨m,j,S,l,_,E,R,L,λm1 H1 I B vd=>⟨m1,j,_,l,E.mono R B.ext,vd,hb,λc O=>q m1 H1 B c O⟩⟩
  ·cases u
def Cu{K:Vp}{x:XA}{j:L2.St}{H:Hp}{Q Q':List V->Hp->Prop}(h:tAr K x j H Q)(f:∀v c,Q v c->Q' v c):tAr K x j H Q':=by
 obtain⟨m,u,S,d,l,E,R,e,q⟩:=h;exact⟨m,u,S,d,l,E,R,e,λy c v A vd=>f _ _ (q y c v A vd)⟩
def Cv{j c:Rho}{i:Nat}{d:D}(h:(if i < j.length then aw (j.set i (aw d)) else aD)=aw c):c=j.set i (aw d):=by
 split at h
 ·cases h;rfl
 ·cases h
def F7{K:Vp}{x:XA}{i j:Nat}{D:Ends}{d:L2.St}{H:Hp}(h:tSt K (nB (lB lJ x) (.tup [.name i,.name j])) D d H):Pb i j (tAr K x) D d H:=by
 refine Cu (Ct h) λO L ⟨m1,Q,l,z,E,vd,e,q⟩=>?_;have y:=mq _ _ _ _ e
 match z,y with
 |[a,c],_=>
  obtain⟨v,w,rfl,u,I⟩:=Bq vd;refine⟨v,w,rfl,q _ ?_⟩;simp only[aO,aC] at e;split at e
  ·rename_i r1 B;have:=Cv B;subst this;split at e
   ·rename_i r2 J;have:=Cv J;subst this;cases e;exact(E.set u).set I
   ·cases e
  ·cases e
def Cw(h:aH T (n+1) b (.ListComp e gs d p) c=aN):∃own l v it cond j t i ifs q,c = .comp own l (⟨v,it,cond⟩::j)/\gs=⟨t,i,ifs,0⟩::q ∧
  cmB own (mf own b.N) b.N d b.sc=aN/\sZ T n b t i it=aN/\vR (b.inner own d) t v=aN/\Ck (fF T n (b.inner own d)) ifs cond=aN/\oB T n (b.inner own d) e q l j=aN:=by
 cases c with
 |comp own l y=>
  ·obtain⟨v,it,cond,j,rfl,B⟩:=Jr h;obtain⟨U,t,i,ifs,q,u,Y,z,I⟩:=xy B;cases z;obtain⟨O,J,Q,L,h4⟩:=an5 I;exact⟨own,l,v,it,cond,j,t,i,ifs,q,rfl,rfl,O,J,Q,L,h4⟩
 |_=>exact absurd h Zh
end
section
variable {T:Tab} {C:Calls} {ar:Nat->Nat} {k n:Nat} {b:Blk} {X:Cx}
def F8(h:X.env.scope.kind = .function):X.env.blockKind = .function:=by
 unfold Env.blockKind;rw[h];rfl
def F9{c:Type}{l:List c}(h:l.length=2):∃a b,l=[a,b]:=by
 match l,h with
 |[a,b],_=>exact⟨a,b,rfl⟩
def LY(G:CtxOk T C ar k b X)(hk:X.env.scope.kind = .function){tg e:Expr}{t:Tg}{c:CE}{p:Pos}(h:vW T n b tg e t c=aN):PS X (.Assign [tg] e p) (tSt X.K (nB (evE C ar n c) t)):=by
 have hb:=F8 hk;unfold vW at h;cases t with
 |name i=>
  dsimp only at h;cases B:B8 tg with
  |none=>rw[B] at h;cases h
  |some r=>
  obtain⟨x,px⟩:=r;rw[B] at h;rw[qk B];simp only[bAE] at h;obtain⟨⟨⟨J,h2⟩,d⟩,h4⟩:=h;have hi:X.N[i]?=aw x:=by rw[G.hN];simpa using h2
  have nd:X.N.Nodup:=by rw[G.hN];exact G.nd
  have o:=G.own d;have sw:=LR (sc:=b.sc) (v:=e) (t:=x) (pos:=px) (line:=p.line) hb G.hs;cases I:swW b.sc e x px with
  |false=>
   rw[I] at sw;exact PS.imp (Kc nd hi o.1 ((snd n).e b X e c G J) sw o.2) λD σ H q=>kK (vK q) λv H' z=>qf z
  |true=>
   rw[I] at h4 sw;simp only[Xh,XZ,bAE] at h4;obtain⟨h5,h4⟩:=h4;obtain⟨el,gs,l,pp,rfl,_⟩:=j6 h5
   ·cases n with
    |zero=>exact absurd J Zh
    |succ n=>
     obtain⟨own,Z,tg',it,cond,L,tt,ii,ifs,gs',rfl,rfl,c0,c1,c2,c3,c4⟩:=Cw J;have S:CmScope own (mf own b.N) b.N l b.sc:=A7 _ c0;have S':CmScope own (mf own b.N) X.N l X.env.scope:=by rw[G.hN,G.hs];exact S
     have hpl:=gC c1 (λe he env=>eZ he) X.env;have B:X.env.scope.names.lookup x=aw .local:=by rw[G.hs];simpa using h4
     refine PS.imp (EZ (g:=tTg X.K tg') (ti:=ifT C ar n X.K cond) (t:=λu=>tCl X.K u (gK C ar n Z L)) G.calm S' nd hi B ((snd n).i [] b X tt ii it G c1) (λQ ex s H=>gD (G.inner S (C':=Q) (ex:=ex) (s:=s) (H:=H)) c2) (λQ ex s H=>mm (snd n) (G.inner S (C':=Q) (ex:=ex) (s:=s) (H:=H)) c3)
      (λQ ex s H u=>(snd n).cl _ _ el gs' Z L (G.inner S (C':=Q) (ex:=ex) (s:=s) (H:=H)) c4 _ l pp u 0 rfl) sw hpl) λD σ H q=>?_
     exact xo (λu D σ H z=>vV z) (su (kK (vK q) λv H' z=>qf z))
 |tup gs=>
  dsimp only at h;cases B:zy tg with
  |none=>rw[B] at h;cases h
  |some r=>
  obtain⟨O,U,pt⟩:=r;rw[B] at h;rw[ql B];simp only[bAE] at h;obtain⟨J,d⟩:=h;have so:Uy [.Tuple O U pt] e p.line X.env=pure aS:=tw λx p z=>nomatch z
  have plain:∀ (I:Uw [.Tuple O U pt] e X.env=pure aD) (hg:mh b O gs=aN),PS X (.Assign [.Tuple O U pt] e p) (tSt X.K (nB (evE C ar n c) (.tup gs))):=λI hg=>
   PS.imp (Az ((snd n).e b X e c G J) (gD G (e:=.Tuple O U pt) (t:=.tup gs) hg) so I rfl) λD σ H q=>vK q
  cases hy:zy e with
  |none=>
   rw[hy] at d;simp only[bAE] at d;exact plain (xF (.inl λes k p z=>by rw[z] at hy;cases hy)) d.2
  |some q=>
   obtain⟨es,ke,pe⟩:=q;rw[hy] at d;obtain rfl:=ql hy;cases n with
   |zero=>exact absurd J Zh
   |succ n=>
    obtain⟨cs,rfl⟩:=Cs J;have ha:=F6 J;dsimp only at d;cases hr:xE b.sc O es with
    |none=>rw[hr] at d;cases d
    |some w=>
     have I:=Qe (k:=U) (p:=pt) (k2:=ke) (p2:=pe) hb G.hs hr;rw[hr] at d;cases w with
     |none=>exact plain I d
     |some ns=>
      dsimp only at d;cases ht:tgL gs with
      |none=>rw[ht] at d;cases d
      |some is=>
       rw[ht] at d;simp only[bAE] at d;obtain⟨⟨Y,hl0⟩,d⟩:=d;have hn:nmL O=aw ns:=by simpa using Y
       have hl:es.length=ns.length:=by simpa using hl0
       clear Y hl0;obtain rfl:=Cr ht;unfold Qg at d;split at d
       ·rename_i x y;split at d
        ·rename_i i j;obtain⟨p1,t1,rfl,hn1⟩:=tz hn;obtain⟨p2,t2,rfl,hn2⟩:=tz hn1;obtain rfl:=F3 hn2;obtain⟨a1,a2,rfl⟩:=F9 hl;simp only[bAE] at d;obtain⟨⟨⟨⟨q2,q3⟩,q4⟩,q5⟩,q6⟩:=d;exact PS.imp (Kd (i:=i) (j:=j) G.calm (by rw[G.hN];exact G.nd) (by rw[G.hN];simpa using q2) (by rw[G.hN];simpa using q3) (by simpa using q4) (by rw[G.hs];simpa using q5) (by rw[G.hs];simpa using q6) ((snd n).a b X _ cs G ha) I so) λD σ H q=>F7 q
        ·cases d
       ·cases d
def Cy{l:Nat}(h:qy v=aS):Ux v aD l X.env=pure aS:=by
 unfold Ux;cases v <;> first |rfl |(exact absurd h (λz=>Zh z.symm))
structure SndS(T:Tab)(C:Calls)(ar:Nat->Nat)(k n:Nat):Prop where
 s:∀ (b:Blk) (X:Cx) (s:Stmt) (c:CS),CtxOk T C ar k b X->X.env.scope.kind = .function->Qv T n b s c=aN->PS X s (tSt X.K (evS C ar n c))
 ss:∀ (b:Blk) (X:Cx) (s:List Stmt) (c:List CS),CtxOk T C ar k b X->X.env.scope.kind = .function->oH T n b s c=aN->PSs X s (tSt X.K (gL C ar n c))
def Qw{K:Vp}{D:Ends}{d:L2.St}{H:Hp}(h:tSt K F2 D d H):False:=by
 obtain⟨m,l,S,j,c,u,E,R,e,q⟩:=h;cases e
def Qx:∀n,SndS T C ar k n
 |0=>⟨λb X s c _ _ h=>absurd h Zh,λb X s c _ _ h=>absurd h Zh⟩
 |n+1=>by
  have I:=Qx n;refine⟨λb X s c G l h=>?_,λb X ss J G l h=>?_⟩
  ·have L:PassesOwn (model X.prog X.w) X.A X.env X.xe:=by rw[G.xe];exact PassesOwn.never
   cases c with
   |asg t e=>obtain⟨Q,v,p,rfl,d⟩:=LU h;exact LY G l d
   |setI v o i=>
    obtain⟨x,y,Z,z,p,rfl,d,u,B,O⟩:=F5 h
    exact PS.imp (Az ((snd n).e b X z v G d) (Kb ((snd n).e b X x o G u) ((snd n).e b X y i G B) (PL (fT G.room)) (λv=>by
     cases y <;> first | rfl | (exact absurd O Zh))) (tw λx p z=>nomatch z) (xF (.inr (.inr ⟨_,_,_,rfl⟩))) rfl) λD j H q=>FB q
   |ex e=>obtain⟨v,p,rfl,d,u⟩:=Qq h;exact PS.imp (Ey ((snd n).e b X v e G d) (Cy u)) λD j H q=>FA q
   |ret e=>obtain⟨v,p,rfl,d⟩:=LV h;exact PS.imp (Av ((snd n).e b X _ _ G d)) λD j H q=>K9 q
   |ifs c x y=>obtain⟨t,p,q,r,rfl,d,u,B⟩:=Qu h;exact PS.imp (O7 ((snd n).t b X _ _ G d) (I.ss b X _ _ G l u) (I.ss b X _ _ G l B)) λD j H q=>PR q
   |for_ t it x=>
    obtain⟨Q,i,p,Y,rfl,d,u⟩:=LW h;have d:=an2 d;exact PS.imp (Kf L G.calm ((snd n).i [] b X _ _ _ G d.1) (gD G d.2) (I.ss b X _ _ G l u) (gC d.1 (λe U env=>eZ U) X.env)) λD j H q=>Lb q
   |cnt=>obtain⟨p,rfl⟩:=LX h;exact PS.imp rL λD j H q=>La q
   |never=>exact PS.imp Aw λD j H q=>(Qw q).elim
  ·cases J with
   |nil=>rw[fD h];exact PSs.imp Ew λD j H q=>Fz q
   |cons c J=>
    obtain⟨s,ss,rfl,h⟩:=eY h;have h:=an2 h;exact PSs.imp (Au (I.s b X s c G l h.1) (I.ss b X ss J G l h.2)) λD j H q=>K8 q
end
structure DefE where
 x:Str
 st:Stmt
 N:List Str
 ps:List Str
 body:List CS
 ks:Option (CE × Pos × Str):=aD
abbrev FU:Nat:=60
abbrev gM(ae:List DefE)(f:Nat):Nat:=match ae[f]? with
 |some d=>d.ps.length
 |none=>0
abbrev LZ(C:Calls)(c:Nat->Nat)(d:DefE)(b:List D)(S:Sto):Option (D × Sto):=
 match gL C c FU d.body (b.map aw++ZN (d.N.length - b.length) aD) S with
 |some (.rt v,_,S')=>aw (v,S')
 |some (.nx,_,S')=>aw (.non,S')
 |_=>aD
abbrev Ju:D->Option (List Int)
 |.tup ds=>bK ds
 |_=>aD
abbrev oI:List D->Option (List (List Int))
 |[]=>aw []
 |d::ds=>match Ju d,oI ds with
  |some l,aw ls=>aw (l::ls)
  |_,_=>aD
abbrev dC{α:Type}(l:List (List Int))(d:α)(v:List α):List α:=if v.length < 2 then v else (bV (λi j=>bx (bW l i) (bW l j)) v.length).toList.map λi=>v.getD i d
abbrev vX(x:Str)(c:Pos)(q:Str)(n:Nat)(S:Sto)(l:List (List Int))(b:List D):Prop:=S[1]?=aw (.tbl x c q)/\S[n]?=aw (.lst b)/\oI b=aw l/\eD (λi j=>bx (bW l i) (bW l j)) b.length
open Classical in
abbrev Cz(C:Calls)(j:Nat->Nat)(d:DefE)(z:CE × Pos × Str)(b:List D)(S:Sto):Option (D × Sto):=
 match evE C j FU z.1 (b.map aw++ZN (d.N.length - b.length) aD) S with
 |some (.ref n,S1)=>if h:∃l c,vX d.x z.2.1 z.2.2 n S1 l c then aw (.ref S1.length,S1++[.lst (dC h.choose .non h.choose_spec.choose)]) else aD
 |_=>aD
def Ga{x:Str}{c:Pos}{q:Str}{n:Nat}{S:Sto}{L l:List (List Int)}{d es':List D}(h:vX x c q n S L d)(h':vX x c q n S l es'):L=l/\d=es':=by
 obtain⟨_,a,b,_⟩:=h;obtain⟨_,j,B,_⟩:=h';rw[a] at j;cases j;rw[b] at B;cases B;exact⟨rfl,rfl⟩
def Gb{C:Calls}{u:Nat->Nat}{d:DefE}{z:CE × Pos × Str}{j:List D}{S c:Sto}{n:Nat}{l:List (List Int)}{es:List D}(e:evE C u FU z.1 (j.map aw++ZN (d.N.length - j.length) aD) S=aw (.ref n,c))(h:vX d.x z.2.1 z.2.2 n c l es):Cz C u d z j S=aw (.ref c.length,c++[.lst (dC l .non es)]):=by
 unfold Cz;rw[e];dsimp only;have q:∃l es,vX d.x z.2.1 z.2.2 n c l es:=⟨l,es,h⟩;rw[dif_pos q];obtain⟨v,y⟩:=Ga q.choose_spec.choose_spec h;have k:∀ (a:List (List Int)) (b:List D),a=l->b=es->aw (D.ref c.length,c++[Ob.lst (dC a .non b)])=aw (.ref c.length,c++[.lst (dC l .non es)]):=by rintro _ _ rfl rfl;rfl
 exact k _ _ v y
def L1{C:Calls}{k:Nat->Nat}{d:DefE}{z:CE × Pos × Str}{c:List D}{S q:Sto}{v:D}(e:Cz C k d z c S=aw (v,q)):∃n b l j,evE C k FU z.1 (c.map aw++ZN (d.N.length - c.length) aD) S=aw (.ref n,b)/\vX d.x z.2.1 z.2.2 n b l j/\v = .ref b.length/\q=b++[.lst (dC l .non j)]:=by
 unfold Cz at e;split at e
 ·rename_i n b u;split at e
  ·rename_i y;cases e;exact⟨n,b,_,_,u,y.choose_spec.choose_spec,rfl,rfl⟩
  ·cases e
 ·cases e
abbrev evC(ae:List DefE):Nat->Calls
 |0=>λ_ _ _=>aD
 |k+1=>λf b S=>match ae[f]? with
  | some d=>(match d.ks with
   |none=>LZ (evC ae k) (gM ae) d b S
   | some z=>if 3<=k then Cz (evC ae k) (gM ae) d z b S else aD)
  |none=>aD
abbrev tD(N ps:List Str)(sc:Scope):Bool:=sc.kind == .function && sc.isCoroutine == aS && sc.isGenerator == aS && jl N && N.take ps.length == ps && (ps.all λx=>sc.names.lookup x == aw .local || sc.names.lookup x == aw .cell) && sc.names.all λy=>y.2 != .free
def qz{N ps:List Str}{sc:Scope}(h:tD N ps sc=aN):FnScope N ps sc:=by
 unfold tD at h;simp only[bAE,ZW] at h;obtain⟨⟨⟨⟨⟨⟨q,u⟩,l⟩,h4⟩,k⟩,d⟩,j⟩:=h;refine⟨by simpa using q,by simpa using u,by simpa using l,iI h4,by simpa using k,λx c=>?_,λy b=>by simpa using j y b⟩;have:=d x c
 simpa using this
abbrev Gc(T:Tab)(d:DefE):Bool:=d.ks.isSome || tD d.N d.ps (aE d.st) && oH T FU ⟨aE d.st,aD,d.N⟩ (bU d.st) d.body
open PySem.W (CodeHd kla_fn) in
structure SrtOk(Tb:Tab)(d:DefE)(z:CE × Pos × Str):Prop where
 ex:∃ (x:Str) (params:WO) (scope:Scope) (e:Expr) (p kp pos p1 p2 p3 p4 p5 rp:Pos) (cx:Nat),
  bU d.st=[.Return (aw (.Call (.Name "sorted" p) [e] [⟨aw "key", .Lambda params (sW x p1 p2 p3 p4 p5 cx) scope z.2.1,kp⟩] pos)) rp] ∧
  aH Tb FU ⟨aE d.st,aD,d.N⟩ e z.1=aN/\(aG e && (⟨aE d.st,aD,d.N⟩:Blk).glo "sorted" && tD d.N d.ps (aE d.st) && tD [x] [x] scope && (scope.names.lookup x == aw .local) && (scope.names.lookup ("len" : Str) == aw NameKind.globalImplicit) && !(x == ("__debug__" : Str)) && !(x == ("__classdict__" : Str)))=aN ∧
  (∀pm c' ctv u,VP (kla_fn "<lambda>" z.2.2 params (sW x p1 p2 p3 p4 p5 cx) scope [] pm (.ref c') ctv) ⟨[u],[]⟩=pure [(x,u)]) ∧
  (∀L f cd,z.2.2=(envOfC d.x (aE d.st) L f cd).qual ++ "<lambda>")/\(∀env,VX scope env=pure [])/\(∀env,V3 params env=([],[]))
abbrev Qy(base:Heap)(mg:Str->Option Value)(b:Ve):Prop:=∃c T,b.code = .ref c/\Vo base c T/\base.BuiltinsAt mg T/\Ud ≠ T
abbrev SB(st:Stmt):Pos:=match bU st with
 |[.Return (aw (.Call _ _ [⟨_,.Lambda _ _ _ p,_⟩] _)) _]=>p
 |_=>⟨0,0,0,0⟩
abbrev Gd(con:List (Str × Int))(ae:List DefE):Prop:=∀d ∈ ae,∀z,d.ks=aw z->SrtOk (⟨con,ae.map λd=>(d.x,d.ps.length)⟩) d z
def Gf{con:List (Str × Int)}{ae:List DefE}{f:Nat}{dz:DefE}{z:CE × Pos × Str}(l:ae[f]?=aw dz)(u:dz.ks=aw z)(q:(ae.take f++ae.drop (f+1)).all (λd=>d.ks.isNone)=aN)(O:SrtOk (⟨con,ae.map λd=>(d.x,d.ps.length)⟩) dz z):Gd con ae:=λd hd y c=>by
 obtain⟨j,b⟩:=Z2 hd;by_cases e:j=f
 ·subst e;rw[l] at b;cases b;rw[u] at c;cases c;exact O
 ·have k:d ∈ ae.take f++ae.drop (f+1):=by
   rcases Nat.lt_or_gt_of_ne e with h |h
   ·exact ZV _ (Zc (i:=j) (by rw[XB h];exact b))
   ·exact ZA _ (Zc (i:=j - (f+1)) (by rw[List.getElem?_drop,show f+1+(j - (f+1))=j by lia];exact b))
  have:=ZW.mp q d k;rw[c] at this;cases this
abbrev xH(con:List (Str × Int))(ae:List DefE):Tab:=⟨con,ae.map λd=>(d.x,d.ps.length)⟩
structure TextOk(K:Vp)(mg:Str->Option Value)(con:List (Str × Int))(ae:List DefE):Prop where
 con:∀ (i:Nat) (x:Str) (v:Int),con[i]?=aw (x,v)->∃tk,mg x=aw (.int v tk)
 bl:∀x,x ∈ fS->mg x=aD
 fn:∀ (i:Nat) (d:DefE),ae[i]?=aw d->∃f fd,mg d.x=aw (.ref f)/\Vy K (.ref f)=aN/\nR K fd d.ps []/\Fun K d.x d.x d.st f fd
section
variable {P:Program} {w:World} {K:Vp} {mg:Str->Option Value} {base:Heap} {con:List (Str × Int)} {ae:List DefE}
def Gg{f:Addr}{c:Ve}{ps:List Str}{i n:Nat}:FnOk P w K mg base CX0 0 f c ps (spC K (evC ae 0 i) n):=
 ⟨λv H Q E h=>(by obtain⟨m,j,S,d,k,_,_,_,e,_⟩:=h;cases e),λA outer s H b u v Q E _ _ _ _ h=>(by obtain⟨m,j,S,d,k,_,_,_,e,_⟩:=h;cases e)⟩
def oJ{m:List Addr}{H:Hp}{N:List Str}{b:List D}{c:List V}(vd:VDs K m H b c):EnvR K m H (b.map aw++ZN (N.length - b.length) aD) (L2.dY N c):=by
 have k:=vd.length;unfold L2.dY;refine⟨by simp[k],λi d e=>?_⟩;by_cases hi:i < b.length
 ·rw[Zv (by simpa using hi),Zl] at e;cases h:b[i]? with
  |none=>rw[h] at e;cases e
  |some q=>
   rw[h] at e;cases e;obtain⟨v,l,j⟩:=vd.get h;exact⟨v,by rw[Zv (by simp;omega),Zl,l];rfl,j⟩
 ·rw[Zp (by simpa using hi),Yy] at e;split at e <;> cases e
def xI{m:List Addr}{H:Hp}:∀ {c:List D} {b:List V} {L:List (List Int)},oI c=aw L->VDs K m H c b->LotsV H b L
 |[],b,L,e,h=>by cases e;rw[VDs] at h;subst h;exact .nil
 |d::c,b,L,e,h=>by
  rw[VDs] at h;obtain⟨v,r,rfl,B,u⟩:=h;simp only[oI] at e;split at e
  ·rename_i l z j y;cases e;cases d with
   |tup C=>
    obtain⟨a,X,rfl,q,k⟩:=B.tups;have:=ci j;subst this;have:=bA k;subst this;exact .cons q (xI y u)
   |_=>cases j
  ·cases e
def Rel.tabs{m:List Addr}{S:Sto}{H H2:Hp}{x:Str}{d:Pos}{Q:Str}{T:Addr}{ps:Array Value}(R:Rel K m S H)(C:S[1]?=aw (.tbl x d Q))(c:m[1]?=aw T)(Y:ER K x T)(J:TabOk T d Q H2 ps)(kp:∀b o,b ≠ T->H b=aw o->H2 b=aw o):Aft K m H S m H2:=by
 have O:T ∈ m:=Zc c;have X:Ext m H m H2:=⟨Yk m,λb o e n=>kp b o (λz=>n (z ▸ O)) e,λb z n=>absurd z n⟩;refine⟨X,R.len,R.nd,λi o e=>?_⟩;obtain⟨b,hb,r⟩:=R.ob i o e;by_cases hi:i=1
 ·subst hi;rw[c] at hb;cases hb;rw[C] at e;cases e;exact⟨T,c,Y,ps,J⟩
 ·have nb:b ≠ T:=λz=>by
   subst z;have a1:=Zb.mp c;have Z:=Zb.mp hb;exact hi ((YO R.nd).mp (Z.2.trans a1.2.symm))
  refine⟨b,hb,?_⟩;obtain⟨T',j,_,pz,zz⟩:=R.ob 1 _ C;rw[c] at j;cases j;cases o with
  |lst B=>obtain⟨v,p,q⟩:=r;exact⟨v,kp _ _ nb p,VDs.mono R X q⟩
  |frz B=>obtain⟨o,v,p,q⟩:=r;exact⟨o,v,kp _ _ nb p,VDs.mono R X q⟩
  |dic ks B=>obtain⟨v,p,l,q⟩:=r;exact⟨v,kp _ _ nb p,l,VDs.mono R X q⟩
  |dfz ks B=>obtain⟨o,v,p,l,q⟩:=r;exact⟨o,v,kp _ _ nb p,l,VDs.mono R X q⟩
  |tbl y p' q'=>
   obtain⟨I,k,z⟩:=r;refine⟨I,k,kp _ _ nb z.at_,z.tr,λcv ec=>?_⟩;obtain⟨L,U,u⟩:=z.cd cv ec;exact⟨L,U,kp _ _ (λy=>by rw[y,zz.at_] at u;cases u) u⟩
def L3{k:Nat}{f:Addr}{fd:Ve}{i:Nat}{d:DefE}{z:CE × Pos × Str}{Tb:Tab}(hz:d.ks=aw z)(hk:3<=k)(F:Fun K d.x d.x d.st f fd)(h0:Qy base mg fd)(O:SrtOk Tb d z)(KX:K.In base)(hd:ae[i]?=aw d)
  (ctx:∀ (l:Value) (A:Around) (outer:List Env) (s:Shared) (H:Hp) (E:XK),d.N.Nodup->Room k (A.deeper (envOfC d.x (aE d.st) s.heap.objs.size f l))->CtxOk Tb (evC ae k) (gM ae) k ⟨aE d.st,aD,d.N⟩ (iB CX0 P w K mg base d.N d.x (aE d.st) f l A outer s H E).nox) (bl:∀x,x ∈ fS->mg x=aD) :
  FnOk P w K mg base CX0 (k+1) f fd d.ps (spC K (evC ae (k+1) i) d.ps.length):=by
 obtain⟨c,T,hc,C,hb,hgT⟩:=h0;obtain⟨x,j,I,e,p,kp,pos,p1,p2,p3,p4,p5,rp,cx,eb,ce,bs,bd,eq,cl,df⟩:=O.ex;simp only[bAE,beq_iff_eq,Bool.not_eq_true'] at bs;obtain⟨⟨⟨⟨⟨⟨⟨pe,gs⟩,fs⟩,ls⟩,l1⟩,l2⟩,d1⟩,d2⟩:=bs;have S:=qz fs;obtain⟨oc,od,kV,doc,pm,an,l,ct,osl,rfl,lk,b⟩:=F.ex;have hcv:l = .ref c:=hc;subst hcv
 have TF:∀ {a:Addr},ER K d.x a->T=a:=λ{a} h=>by
  obtain⟨o',vs',_,_,_,_,_,_,_,e1,e2,e3,e4,_⟩:=C;unfold Vr at b;dsimp only at b;cases J:K.lookup c with
  |none=>rw[J] at b;cases b
  |some oc'=>
   have z1:=KX c oc' J;rw[e1] at z1;cases z1;exact h f _ _ c o' vs' T lk rfl rfl rfl J e3 e4
 refine IV lk b S (λvs H Q E h=>?_) λA outer s H vs Q E hr h=>?_
 ·obtain⟨m,ds,S,d',S',vd,_,J,_⟩:=h;rw[<-vd.length,J]
 ·have G:=ctx (.ref c) A outer s H E S.nd hr;have hr3:Room (k - 3+3) (iB CX0 P w K mg base d.N d.x (aE d.st) f (.ref c) A outer s H E).nox.A:=by rw[Nat.sub_add_cancel hk];exact hr
  refine⟨J7 (Ji K T z.2.1 z.2.2 (cf (tE K (evE (evC ae k) (gM ae) FU z.1)) jh)),?_,?_⟩
  ·rw[eb];refine PSs.nox (Ex (Av ?_))
   have:=FR (X:=(iB CX0 P w K mg base d.N d.x (aE d.st) f (.ref c) A outer s H E).nox) (k:=k - 3) (cx:=cx) (T:=T) (c:=c) (x:=x) (params:=j) (scope:=I) (e:=e) (p:=p) (lp:=z.2.1) (kp:=kp) (pos:=pos) (p1:=p1) (p2:=p2) (p3:=p3) (p4:=p4) (p5:=p5) hr3 (G.gl gs).1 (bl _ (by decide)) (G.gl gs).2 (qz ls) l1 l2 (bl _ (by decide)) d1 d2
    (λpm c' ctv u=>by have y:=bd pm c' ctv u;rw[eq s.heap.objs.size f (.ref c)] at y;exact y) rfl C hb hgT (cl _) (df _) (cz ((snd FU).e _ _ e z.1 G ce) pe) (am pe)
   rw[eq s.heap.objs.size f (.ref c)];exact this
  ·obtain⟨m,ds,S0,r,S',vd,R,J,e,q⟩:=h;simp only[evC,hd,hz,if_pos hk] at e;obtain⟨n,S1,L,es,e1,⟨t1,t2,t3,t4⟩,rfl,rfl⟩:=L1 e;refine⟨m,_,S0,_,S1,oJ vd,R,e1,λm1 H1 v B vv=>?_⟩;obtain⟨a,ha,rfl⟩:=vv.refs;obtain⟨a',U,ws,hw,Z⟩:=B.rel.ob n _ t2;rw[ha] at U;cases U;obtain⟨T',hT',tF,ps,tO⟩:=B.rel.ob 1 _ t1;have eT:=TF tF;subst eT;refine⟨a,ws,L,ps,rfl,.of hw,xI t3 Z,by rw[<-Z.length];exact t4,(λy=>by rw[y,tO.at_] at hw;cases hw),tO,λr H2 ps' u1 u2 u3 u4=>?_⟩;have A2:=B.rel.tabs t1 hT' tF u1 u4;have nr:r ∉ m1:=B.rel.no u3
   have vw2:VDs K m1 H2 (dC L .non es) (Lx ws L):=by
    have Y:=VDs.mono B.rel A2.ext Z;unfold dC Lx;rw[<-Z.length];split
    ·exact Y
    ·exact qb Y _ λi hi=>(ju t4 (by lia)).1 i hi
   refine q (m1++[r]) H2 (.ref r) (B.trans ⟨A2.ext.adopt u3,A2.rel.adopt nr u2 vw2⟩) ?_;rw[VD];exact⟨r,by rw[Zp (by rw[B.rel.len];exact Zj _),B.rel.len,Yd];rfl,rfl⟩
def xJ(T:TextOk K mg con ae)(hc:ae.all (Gc (xH con ae))=aN)(KX:K.In base)(hA:Gd con ae)(hS:∀d ∈ ae,d.ks ≠ aD->∀f l,mg d.x=aw (.ref f)->Fun K d.x d.x d.st f l->Qy base mg l):∀ (k i:Nat) (d:DefE),ae[i]?=aw d->∀f l,mg d.x=aw (.ref f)->Fun K d.x d.x d.st f l->FnOk P w K mg base CX0 k f l d.ps (spC K (evC ae k i) d.ps.length)
 |0,i,d,_,f,l,_,_=>Gg
 |k+1,i,d,hd,f,l,hm,F=>by
  have ih:=xJ T hc KX hA hS k;have B:=Zc hd;have X:=ZW.mp hc d B
  have U:∀ (c:Value) (A:Around) (outer:List Env) (s:Shared) (H:Hp) (E:XK),d.N.Nodup->Room k (A.deeper (envOfC d.x (aE d.st) s.heap.objs.size f c))->CtxOk (xH con ae) (evC ae k) (gM ae) k ⟨aE d.st,aD,d.N⟩ (iB CX0 P w K mg base d.N d.x (aE d.st) f c A outer s H E).nox:=λc A outer s H E nd hr=>by
    refine⟨rfl,rfl,rfl,rfl,nd,λ_ _=>rfl,hr,T.con,T.bl,λj y hy=>?_⟩;have b:(ae.map λd=>(d.x,d.ps.length))[j]?=aw y:=hy;rw[Zl] at b;cases I:ae[j]? with
    |none=>rw[I] at b;cases b
    |some e=>
     rw[I] at b;cases b;have ha:gM ae j=e.ps.length:=by unfold gM;rw[I]
     obtain⟨f',O,J,k',b',F'⟩:=T.fn j e I;refine⟨ha,f',O,e.ps,J,k',b',?_⟩;rw[ha];exact ih j e I f' O J F'
  cases C:d.ks with
  |some z=>
   by_cases Z:3<=k
   ·have h0:=hS d B (by rw[C];simp) f l hm F;exact L3 (k:=k) C Z F h0 (hA d B z C) KX hd U T.bl
   ·refine⟨λvs H Q E h=>?_,λA outer s H args us vs Q E _ _ _ _ h=>?_⟩
    ·obtain⟨m,L,S,d',Y,_,_,_,e,_⟩:=h;simp only[evC,hd,C,if_neg Z] at e;cases e
    ·obtain⟨m,L,S,d',Y,_,_,_,e,_⟩:=h;simp only[evC,hd,C,if_neg Z] at e;cases e
  |none=>
  unfold Gc at X;rw[C,Option.isSome_none,XZ,bAE] at X;have S:=qz X.1;refine F.ok S (λvs H Q E h=>?_) λc A outer s H vs Q E hr h=>?_
  ·obtain⟨m,L,S,d',Y,vd,_,hl,_⟩:=h;rw[<-vd.length,hl]
  ·have G:=U c A outer s H E S.nd hr;refine⟨_,(Qx FU).ss _ _ (bU d.st) d.body G S.kind X.2,?_⟩;obtain⟨m,L,S0,r,Y,vd,R,hl,e,q⟩:=h;simp only[evC,hd,C,LZ] at e;cases hx:gL (evC ae k) (gM ae) FU d.body (L.map aw++ZN (d.N.length - L.length) aD) S0 with
   |none=>rw[hx] at e;cases e
   |some z=>
    obtain⟨fl,ρ',S1⟩:=z;rw[hx] at e;refine⟨m,_,S0,fl,ρ',S1,oJ vd,R,hx,λJ H' A'=>?_⟩;cases fl with
    |nx=>cases e;exactλσ _=>q J H' .non A' pV
    |rt v=>cases e;exactλu vu=>q J H' u A' vu
    |bk=>cases e
    |ct=>cases e
end
end Ev
namespace L2
open PySem PySem.Spec PyProof.Rows
abbrev Jv(T:Addr)(ps:Array Value)(H:Hp):Prop:=H T=aw (.tbl ps)/\∀b,b ≠ T->H b=aD\/∃o X,H b=aw (.frz o (.lst X))
def zC{P:Program}{w:World}{K:Vp}{mg mb:Str->Option Value}{CX:CXT}{k:Nat}{fa a T c:Addr}{ps:Array Value}{fd:Ve}{x:Str}{sp:Sp}{s₁:Shared}{C:List Value}{ns:List Int}
  (KX:K.In s₁.heap) (hns:s₁.heap.Ns Ud mg) (hb:s₁.heap.Ns VT mb) (hbb:∀x:Str,x ≠ "__name__"->mb x=VR x) (hlim:s₁.heap.NoLimit) (hg:s₁.gens=#[])
  (l:s₁.heap.TableAt c T ps) (hTK:K.lookup T=aD)
  (L:s₁.heap.get? a=aw { cls:=.type "list", data:=.seq C.toArray }) (hi:IntsAre C ns) (hl:ns.length<=sizeLine) (hr:Room k callerA)
  (hcd:Vo s₁.heap c T) (hbm:s₁.heap.BuiltinsAt mg T) (F:∀base:Heap,K.In base->base.Ns Ud mg->Vo base c T->base.BuiltinsAt mg T->FnOk P w K mg base CX k fa fd [x] sp) (O:∀ (s:Shared) (u:Value),BindsTo s fd ⟨[u],[]⟩ [(x,u)])
  (hsp:∀H:Hp,Jv T ps H->SqL K H a (ns.map V.int)->sp [.ref a] H (λv _=>v = .bl aN) λ_ _ _=>False)
  (hCX:∀H e j,CX [] H s₁ (λ_ _ _=>False) e j->False) :
  codeAny (model P w) callerA (.call (.ref fa) ⟨[.ref a],[]⟩) (λr j=>r = .ok (.ret (.bool aN))/\OldK s₁.heap j.heap/\j.os=s₁.os/\AllBare j.gens) s₁:=by
 have rv:=gx hi;have lenV:=hi.length;have X:=l.2;have aT:a ≠ T:=λe=>by rw[e,X] at L;cases L
 have J:∀H:Hp,Jv T ps H->SqL K H a (ns.map V.int)->HOk P w H s₁.heap->(∀b,H b ≠ aD->b=a\/b=T)->(H a ≠ aD->K.lookup a=aD) ->
   codeAny (model P w) callerA (.call (.ref fa) ⟨[.ref a],[]⟩) (λr j=>r = .ok (.ret (.bool aN))/\OldK s₁.heap j.heap/\j.os=s₁.os/\AllBare j.gens) s₁:=by
  intro H hO hS hok hA hK;have B:∀ {b:Addr} {o:Obj},s₁.heap.get? b=aw o->H b=aD->(kW s₁.heap H).get? b=aw o:=λe n=>An e n
  have noA:∀ {b:Addr} {o:Obj} {U:Array DictEntry} {ep:Nat},s₁.heap.get? b=aw o->o.data = .dict U ep->H b=aD:=λ{b o U ep} e d=>by
   cases q:H b with
   |none=>rfl
   |some u=>
    rcases hA b (by rw[q];simp) with e' |e'
    ·subst e';rw[L] at e;cases e;have Y:Data.seq C.toArray _=Data.dict U ep:=d;cases Y
    ·subst e';rw[X] at e;cases e;have Y:Data.fields ps=Data.dict U ep:=d;cases Y
  have y:∀ {b:Addr} {m:Str->Option Value},s₁.heap.Ns b m->(kW s₁.heap H).Ns b m:=λ{b m} ⟨o,U,ep,e,d,r⟩=>⟨o,U,ep,B e (noA e d),d,r⟩
  have hKb:K.In (kW s₁.heap H):=λb o e=>B (KX b o e) (by
   cases q:H b with
   |none=>rfl
   |some u=>
    rcases hA b (by rw[q];simp) with e' |e'
    ·subst e';rw[hK (by rw[q];simp)] at e;cases e
    ·subst e';rw[hTK] at e;cases e)
  have hM:Mod K mg (kW s₁.heap H):=⟨hKb,y hns,⟨mb,y hb,hbb⟩,let ⟨mc,h1,h2⟩:=hlim;⟨mc,y h1,h2⟩⟩;have e0:Env0 P w K mg (kW s₁.heap H) callerA [] s₁ H:=⟨rfl,hM,λb o e=>Es e,WD (yB _ _),trivial,λb hb=>absurd (show b ∈ ([]:List Addr) from hb) (by simp),hok,.of_eq hg⟩
  have noC:∀ {b:Addr} {o:Obj} {n:String},s₁.heap.get? b=aw o->o.cls = .type n->n ≠ "list"->b ≠ T->H b=aD:=λ{b o n} e d hn nb=>by
   cases q:H b with
   |none=>rfl
   |some u=>
    rcases hA b (by rw[q];simp) with e' |e'
    ·subst e';rw[L] at e;cases e;have Y:Value.type "list" = Value.type n:=d;cases Y;exact absurd rfl hn
    ·exact absurd e' nb
  have hcd':Vo (kW s₁.heap H) c T:=by
   obtain⟨o,C,file,tf,Q,tg,inF,text,tt,e1,e2,r⟩:=hcd;exact⟨o,C,file,tf,Q,tg,inF,text,tt,B e1 (noC e1 e2 (by decide) r.2.2.2.2.2.2.2),e2,r⟩
  have hbm':(kW s₁.heap H).BuiltinsAt mg T:=by
   obtain⟨bm,o,b1,b2,b3,b4,b5,b6,r⟩:=hbm;exact⟨bm,o,b1,b2,b3,b4,B b5 (noC b5 b6 (by decide) b4),b6,r⟩
  refine V0 ((F _ hKb (y hns) hcd' hbm').run callerA [] s₁ H ⟨[.ref a],[]⟩ [.ref a] [.ref a] _ _ hr e0 (O s₁ (.ref a)) (.cons rfl .nil) (hsp H hO hS)) λr j h=>?_;cases r with
  |error e=>exact(hCX H e j h).elim
  |ok fl=>
   cases fl with
   |next=>exact False.elim h
   |brk=>exact False.elim h
   |cont=>exact False.elim h
   |ret u=>
    obtain⟨v,H',os,bare,un,I,r',q⟩:=h;have q':v = .bl aN:=q;subst q';obtain rfl:u=Value.bool aN:=r'
    have old:∀b o,b ≠ T->s₁.heap.get? b=aw o->j.heap.get? b=aw o:=λb o nb e=>by
     cases q:H b with
     |none=>exact un.keep b o e q (by intro z;exact absurd (show b ∈ ([]:List Addr) from z) (by simp)) (by simp)
     |some u=>
      rcases hO.2 b nb with z |⟨ob,xs,z⟩
      ·rw[q] at z;cases z
      ·have z2:=un.frzs b ob _ z;obtain⟨e1,_⟩:=hok b _ z;obtain⟨e2,_⟩:=I b _ z2;rw[e] at e1;cases e1;exact e2
    obtain⟨more,em⟩:=un.tbls T ps hO.1;have gT:j.heap.get? T=aw { cls:=.none,data:=.fields (ps++more) }:=I T _ em;refine⟨rfl,⟨λb o e=>?_,λb o e=>?_⟩,os,bare⟩
    ·by_cases nb:b=T
     ·subst nb;rw[X] at e;cases e;exact .inr (.inl ⟨l.isCodeTable,rfl,ps,more,rfl,gT⟩)
     ·exact .inl (old b o nb e)
    ·by_cases nb:b=T
     ·subst nb;exact⟨_,gT⟩
     ·exact⟨o,old b o nb e⟩
 have okT:∀ (H:Hp),H T=aw (.tbl ps)->a9 P w H s₁.heap T (.tbl ps):=λH e=>X;cases hk:K.lookup a with
 |some o=>
  have e:=KX a o hk;rw[L] at e;cases e;refine J (λb=>if b=T then aw (.tbl ps) else aD) ⟨if_pos rfl,λb nb=>.inl (if_neg nb)⟩ (.inr ⟨_,C.toArray,_,hk,rfl,rfl,rfl,by rw[Zk,lenV];exact hl,by simpa using rv⟩) (λb u z=>?_) (λb z=>?_) λz=>absurd (if_neg aT) z
  ·by_cases hb:b=T
   ·have Z:=(if_pos hb).symm.trans z;cases Z;subst hb;exact X
   ·have Z:=(if_neg hb).symm.trans z;cases Z
  ·by_cases hb:b=T
   ·exact .inr hb
   ·exact absurd (if_neg hb) z
 |none=>
  refine J (λb=>if b=T then aw (.tbl ps) else if b=a then aw (.frz { cls:=.type "list", data:=.seq C.toArray } (.lst (ns.map V.int))) else aD) ⟨if_pos rfl,λb nb=>?_⟩ (.inl (.inr ⟨{ cls:=.type "list", data:=.seq C.toArray },(if_neg aT).trans (if_pos rfl)⟩)) (λb u z=>?_) (λb z=>?_) λ_=>hk
  ·by_cases hb:b=a
   ·exact .inr ⟨_,_,(if_neg nb).trans (if_pos hb)⟩
   ·exact .inl ((if_neg nb).trans (if_neg hb))
  ·by_cases l:b=T
   ·have Z:=(if_pos l).symm.trans z;cases Z;subst l;exact X
   ·have z:=(if_neg l).symm.trans z;by_cases hb:b=a
    ·have Z:=(if_pos hb).symm.trans z;cases Z;subst hb;exact⟨L,by rw[Za];exact hl,C,_,rv,L⟩
    ·have Z:=(if_neg hb).symm.trans z;cases Z
  ·by_cases l:b=T
   ·exact .inr l
   ·by_cases hb:b=a
    ·exact .inl hb
    ·exact absurd ((if_neg l).trans (if_neg hb)) z
end L2
namespace Ev
open PySem PySem.Spec PyProof.Rows L2
@[inline]abbrev xK:=(Str × Str) × (WO × List Stmt) × (Scope × Addr) × (List (Str × Addr) × Value) × (Addr × Option Str)
abbrev Jw(h:Heap):Value->Option Str
 | .ref c=>(match h.get? c with
  |some ⟨_,_,.fields vs,_⟩=>(match vs.toList with |_ :: .str n _::_=>aw n |_=>aD)
  | _=>aD)
 |_=>aD
abbrev Qz(h:Heap):Option Obj->Option xK
 |some ⟨_,_,.func ⟨nm,qn,ps,.stmts b,sc,gl,cl,dv,_,_,_,_,cd,_,bi⟩,_⟩=>aw ((nm,qn),(ps,b),(sc,gl),(cl,dv),(bi,Jw h cd))
 |_=>aD
abbrev Gh(h:Heap)(x:Str):Option xK:=match h.nsMap Ud x with
 |some (.ref f)=>Qz h (h.get? f)
 |_=>aD
abbrev xL(d:DefE):Option xK:=aw ((d.x,d.x),(eU d.st,bU d.st),(aE d.st,Ud),([],.none),(VT,aw d.x))
abbrev QA(h:Heap)(x:Str):Option Int:=match h.nsMap Ud x with
 |some (.int v _)=>aw v
 |_=>aD
abbrev QB:Option Obj->Bool
 |some ⟨.none,aD,.fields ps,sl⟩=>ps.isEmpty && sl.isEmpty
 |_=>aS
abbrev QC(h:Heap)(c:Addr):Option Obj->Bool
 | some ⟨oc,od,.fields vs,os⟩=>(match (vs[11]?:Option Value) with
  |some (.ref P)=>PySem.W.codeHdIn [(c,⟨oc,od,.fields vs,os⟩)] c P && QB (h.get? P) && Ud != P
  | _=>aS)
 |_=>aS
abbrev L4(h:Heap)(x:Str):Bool:=match h.nsMap Ud x with
 | some (.ref f)=>(match h.get? f with
  | some ⟨_,_,.func fd,_⟩=>(match fd.code with
   |.ref c=>QC h c (h.get? c)
   | _=>aS)
  | _=>aS)
 |_=>aS
def L5{h:Heap}{x:Str}(e:L4 h x=aN):∃f o k c O v T,h.nsMap Ud x=aw (.ref f)/\h.get? f=aw o/\o.data = .func k/\k.code = .ref c/\h.get? c=aw O/\O.data = .fields v/\v[11]?=aw (.ref T)/\Vo h c T/\h.get? T=aw (VI #[])/\Ud ≠ T:=by
 unfold L4 at e;split at e
 ·rename_i f C;split at e
  ·rename_i Y X k U B;split at e
   ·rename_i c J;cases j:h.get? c with
    |none=>rw[j] at e;cases e
    |some O=>
     rw[j] at e;unfold QC at e;split at e
     ·rename_i O I v os l;cases l;split at e
      ·rename_i P L;simp only[bAE] at e;obtain⟨⟨u,d⟩,z⟩:=e
       have Q:h.get? P=aw (VI #[]):=by
        unfold QB at d;split at d
        ·rename_i ps sl y;simp only[bAE,Array.isEmpty_iff] at d;obtain⟨rfl,rfl⟩:=d;exact y
        ·cases d
       refine⟨f,_,k,c,_,v,P,C,B,rfl,J,j,rfl,L,PySem.W.codeHd_of_K (K:=[(c,⟨O,I,.fields v,os⟩)]) (λb o q=>?_) u,Q,by simpa using z⟩;rw[Yp] at q;cases hb:b == c with
       |true=>
        rw[hb] at q;cases q;have:b=c:=by simpa using hb
        rw[this];exact j
       |false=>rw[hb] at q;cases q
      ·cases e
     ·cases e
   ·cases e
  ·cases e
 ·cases e
abbrev QD(h:Heap)(d:DefE):Bool:=match d.ks with
 |none=>aN
 |some _=>L4 h d.x
@[inline]abbrev CA:=Bool × List (Option xK) × List (Option Int) × List Bool × List Bool
abbrev L6(con:List (Str × Int))(ae:List DefE)(h:Heap):CA:=(h.isNs Ud,ae.map (λd=>Gh h d.x),con.map (λc=>QA h c.1),fS.map (λx=>(h.nsMap Ud x).isNone),ae.map (QD h))
abbrev CB(con:List (Str × Int))(ae:List DefE):CA:=(aN,ae.map xL,con.map (λc=>aw c.2),fS.map (λ_=>aN),ae.map λ_=>aN)
abbrev Jx(d:DefE):Prop:=∀ (kV b pm:Value) (j:Option Addr) (c ct:Value) (u:List Value),u.length=d.ps.length->VP (Vt d.x d.x (eU d.st) (bU d.st) (aE d.st) .none kV b pm j c ct) ⟨u,[]⟩=pure (d.ps.zip u)
abbrev zD:List DefE->Prop
 |[]=>True
 |d::ds=>Jx d/\zD ds
def zD.at:∀ {b:List DefE} {d:DefE},zD b->d ∈ b->Jx d
 |e::b,d,h,hd=>by
  rcases Zn.mp hd with rfl |hd
  ·exact h.1
  ·exact zD.at h.2 hd
abbrev j7(h:Heap)(f:Addr):Vp:=match h.get? f with
 | some o=>(f,o)::(match o.data with
  | .func fd=>(match fd.code with
   |.ref c=>(match h.get? c with |some O=>[(c,O)] |none=>[])
   | _=>[])
  | _=>[])
 |none=>[]
abbrev cO(h:Heap)(d:DefE):Vp:=match h.nsMap Ud d.x with
 |some (.ref f)=>j7 h f
 |_=>[]
abbrev QE(K:Vp):Prop:=∀a o,K.lookup a=aw o->∀I n,o.data ≠ .seq I n
abbrev SC(h:Heap)(K:Vp)(x:Str)(T:Addr):Prop:=h.get? T=aw (VI #[])/\Ud ≠ T/\K.lookup T=aD/\ER K x T/\∃f o b c,h.nsMap Ud x=aw (.ref f)/\h.get? f=aw o/\o.data = .func b/\b.code = .ref c/\Vo h c T
structure Says(con:List (Str × Int))(ae:List DefE)(h:Heap):Prop where
 ns:∃m,h.Ns Ud m
 frag:∃K:Vp,K.In h/\QE K/\(∀d ∈ ae,d.ks ≠ aD->∃T,SC h K d.x T)/\∀mg,h.Ns Ud mg->TextOk K mg con ae
def dg{K:Vp}{a:Addr}{o:Obj}(h:K.lookup a=aw o):(a,o) ∈ K:=by
 induction K with
 |nil=>cases h
 |cons p K I=>
  obtain⟨b,q⟩:=p;rw[Yp] at h;cases hb:a == b with
  |true=>
   rw[hb] at h;cases h;have:a=b:=by simpa using hb
   subst this;exact Zi
  |false=>rw[hb] at h;exact Ze _ (I h)
def CC{K:Vp}{a:Addr}{o:Obj}(h:(a,o) ∈ K):∃o',K.lookup a=aw o':=by
 induction K with
 |nil=>cases h
 |cons p K I=>
  obtain⟨b,q⟩:=p;rw[Yp];cases hb:a == b with
  |true=>exact⟨_,rfl⟩
  |false=>
   rcases Zn.mp h with e |h
   ·cases e;simp at hb
   ·exact I h
def CD{h:Heap}{f a:Addr}{o:Obj}(e:(a,o) ∈ j7 h f):h.get? a=aw o:=by
 unfold j7 at e;cases d:h.get? f with
 |none=>rw[d] at e;cases e
 |some of=>
  rw[d] at e;dsimp only at e;rcases Zn.mp e with q |e
  ·cases q;exact d
  ·split at e
   ·split at e
    ·rename_i c j;cases b:h.get? c with
     |none=>rw[b] at e;cases e
     |some O=>
      rw[b] at e;dsimp only at e;rcases Zn.mp e with q |e
      ·cases q;exact b
      ·cases e
    ·cases e
   ·cases e
def qA{h:Heap}{a:Addr}{mg:Str->Option Value}(N:h.Ns a mg):h.nsMap a=mg:=by
 obtain⟨o,d,j,c,hd,_,b⟩:=N
 funext x
 unfold Heap.nsMap;rw[c];dsimp only;rw[hd];exact b x
def tG{h:Heap}{d:DefE}(e:Gh h d.x=xL d):∃f k l kV j pm q c ct O C cd v a t r u,h.nsMap Ud d.x=aw (.ref f)/\h.get? f=aw ⟨k,l,.func (Vt d.x d.x (eU d.st) (bU d.st) (aE d.st) .none kV j pm q (.ref c) ct),O⟩ ∧
  h.get? c=aw ⟨C,cd,.fields v,u⟩/\v.toList=a :: .str d.x t::r:=by
 unfold Gh xL at e;split at e
 ·rename_i f z;unfold Qz at e;split at e
  ·rename_i k l nm T ps b sc gl cl Q kV j pm q J ct L O B;simp only[Option.some.injEq,Prod.mk.injEq] at e;obtain⟨⟨rfl,rfl⟩,⟨rfl,rfl⟩,⟨rfl,rfl⟩,⟨rfl,rfl⟩,rfl,e⟩:=e;unfold Jw at e;split at e
   ·rename_i c;split at e
    ·rename_i C cd v u I;split at e
     ·rename_i a n t r y;cases e;exact⟨f,k,l,kV,j,pm,q,c,ct,O,C,cd,v,a,t,r,u,z,B,I,y⟩
     ·cases e
    ·cases e
   ·cases e
  ·cases e
 ·cases e
def Gi{con:List (Str × Int)}{ae:List DefE}(hb:zD ae){h:Heap}(e:L6 con ae h=CB con ae):Says con ae h:=by
 unfold L6 CB at e;simp only[Prod.mk.injEq] at e;obtain⟨e0,e1,e2,e3,e4⟩:=e;have N:=Heap.Ns.of_isNs e0;have D:∀d ∈ ae,Gh h d.x=xL d:=λd hd=>Y9.mp e1 d hd
 have inK:∀a o,(a,o) ∈ ae.flatMap (cO h)->h.get? a=aw o:=λa o he=>by
  obtain⟨d,hd,he⟩:=Yi.mp he;obtain⟨f,L,od,kV,j,pm,Q,c,ct,O,Y,cd,X,U,t,r,Z,b,k,u,B⟩:=tG (D d hd);unfold cO at he;rw[b] at he;exact CD he
 have lk:∀a o,(a,o) ∈ ae.flatMap (cO h)->(ae.flatMap (cO h)).lookup a=aw o:=λa o he=>by
  obtain⟨o',q⟩:=CC he;have z:=inK a o' (dg q);rw[inK a o he] at z;cases z;exact q
 refine⟨⟨_,N⟩,ae.flatMap (cO h),λa o q=>inK a o (dg q),λa o q its n hs=>?_,λd hd hk=>?_,λmg G=>?_⟩
 ·obtain⟨d,hd,he⟩:=Yi.mp (dg q);obtain⟨f,L,od,kV,j,pm,Q,c,ct,O,Y,cd,X,U,t,r,Z,b,k,u,B⟩:=tG (D d hd);unfold cO at he;rw[b] at he;dsimp only at he;unfold j7 at he;rw[k] at he;dsimp only at he;rw[u] at he;dsimp only at he;rcases Zn.mp he with z |he
  ·cases z;cases hs
  ·rcases Zn.mp he with z |he
   ·cases z;cases hs
   ·cases he
 ·have z:=Y9.mp e4 d hd;unfold QD at z;cases hz:d.ks with
  |none=>exact absurd hz hk
  |some y=>
   rw[hz] at z;obtain⟨f,o,fd,c,L,X,T,b,k,u,B,g5,g6,g7,g8,g9,g10⟩:=L5 z;refine⟨T,g9,g10,?_,?_,f,o,fd,c,b,k,u,B,g8⟩
   ·cases hl:(ae.flatMap (cO h)).lookup T with
    |none=>rfl
    |some q=>
     have iq:=inK T q (dg hl);rw[g9] at iq;cases iq;obtain⟨J,l,he⟩:=Yi.mp (dg hl);obtain⟨f,L,od,kV,j,pm,Q,c,ct,O,Y,cd,X,U,t,r,Z,C,I,k3,k4⟩:=tG (D J l);unfold cO at he;rw[C] at he;dsimp only at he;unfold j7 at he;rw[I] at he;dsimp only at he;rw[k3] at he;dsimp only at he;rcases Zn.mp he with y |he
     ·cases y
     ·rcases Zn.mp he with y |he
      ·cases y;simp at k4
      ·cases he
   ·intro f' o' fd' c' oc' vs' P' q1 q2 q3 q4 q5 q6 q7;obtain⟨J,l,he⟩:=Yi.mp (dg q1);obtain⟨f2,oc2,od2,kV,j,pm,Q,c2,ct,O,Y,cd,vs2,U,t,r,Z,C,I,k3,k4⟩:=tG (D J l);unfold cO at he;rw[C] at he;dsimp only at he;unfold j7 at he;rw[I] at he;dsimp only at he;rw[k3] at he;dsimp only at he;rcases Zn.mp he with y |he
    ·cases y;cases q2;have ex:J.x=d.x:=q3;rw[ex,b] at C;cases C;rw[k] at I;cases I;cases u;rw[B] at q4;cases q4;have:=inK c oc' (dg q5);rw[g5] at this;cases this;rw[g6] at q6;cases q6;rw[g7] at q7;cases q7;rfl
    ·rcases Zn.mp he with y |he
     ·cases y;cases q2
     ·cases he
 ·have hm:=qA G;refine⟨λi x v hi=>?_,λx hx=>?_,λi d hi=>?_⟩
  ·have z:=Y9.mp e2 (x,v) (Zc hi);unfold QA at z;rw[hm] at z;dsimp only at z;split at z
   ·rename_i v' t hv;cases z;exact⟨t,hv⟩
   ·cases z
  ·have z:=Y9.mp e3 x hx;rw[hm] at z
   simpa using z
  ·have hd:=Zc hi;obtain⟨f,L,od,kV,j,pm,Q,c,ct,O,Y,cd,X,U,t,r,Z,b,k,u,B⟩:=tG (D d hd)
   have m1:(f,_) ∈ ae.flatMap (cO h):=Yi.mpr ⟨d,hd,by
    show _ ∈ cO h d;unfold cO;rw[b];dsimp only;unfold j7;rw[k];exact Zi⟩
   have m2:(c,_) ∈ ae.flatMap (cO h):=Yi.mpr ⟨d,hd,by
    show _ ∈ cO h d;unfold cO;rw[b];dsimp only;unfold j7;rw[k];dsimp only;rw[u];exact Ze _ Zi⟩
   have l1:=lk _ _ m1;have l2:=lk _ _ m2;have kp:Vy (ae.flatMap (cO h)) (.ref f)=aN:=by unfold Vy;dsimp only;rw[l1]
   have cdI:Vr (ae.flatMap (cO h)) (.ref c) d.x=aN:=by
    unfold Vr;dsimp only;rw[l2];dsimp only;rw[B];simp
   have F:=KA (st:=d.st) (x:=d.x) (qual:=d.x) l1 cdI kp;refine⟨f,_,by rw[<-hm];exact b,kp,F.binds (hb.at hd),F⟩
def vY{con:List (Str × Int)}{ae:List DefE}{h h':Heap}(x:Says con ae h)(k:∀b o,h.get? b=aw o->h'.get? b=aw o):Says con ae h':=by
 obtain⟨⟨m,N⟩,K,KX,ns,Z,T⟩:=x
 have B:∀mg,h'.Ns Ud mg->h.Ns Ud mg:=λmg ⟨o,l,u,v,r⟩=>by
  obtain⟨o',J,C,j,r'⟩:=N;have z:=k _ _ j;rw[v] at z;cases z;exact⟨o,l,u,j,r⟩
 have y:h'.Ns Ud m:=let ⟨o,l,u,v,r⟩:=N;⟨o,l,u,k _ _ v,r⟩;refine⟨⟨m,y⟩,K,λa o q=>k _ _ (KX a o q),ns,λd hd O=>?_,λmg G=>T mg (B mg G)⟩;obtain⟨T,Q,I,t3,U,f,o,fd,c,Y,t6,L,X,t9⟩:=Z d hd O;exact⟨T,k _ _ Q,I,t3,U,f,o,fd,c,by rw[qA y,<-qA N];exact Y,k _ _ t6,L,X,t9.keeps k⟩
abbrev qB(con:List (Str × Int))(ae:List DefE)(hb:zD ae):PySem.W.Hook:=
 ⟨CA,λs=>L6 con ae s.heap,λ_=>CB con ae,λ_ h=>Says con ae h,λ_ _ e=>Gi hb e,λ_ _ _ x k=>vY x k⟩
def mv{K:Vp}{m:List Addr}{H:Hp}:∀ns:List Int,VDs K m H (ns.map D.int) (ns.map V.int)
 |[]=>by rw[Z7,Z7,VDs]
 |a::l=>by rw[Zz,Zz,VDs];exact⟨_,_,rfl,bp,mv l⟩
def SD:Vn (#[]:Array Value).toList:=by first |exact .nil |trivial |(unfold Vn;simp)
def Gj{l:PySem.W.OpenLaw}{n k i:Nat}{q:Program}{loose:List Str}{XP:(Str->Option Value)->Heap->Prop}{d:DefRec}{con:List (Str × Int)}{ae:List DefE}{hb:zD ae}{dl dz:DefE}{z:CE × Pos × Str}{x:Str}
  (hn:l.most=aw n) (hn2:n<=sizeLine) (hdf:d.params.defaults=[]) (hr:Room k callerA) (hx:d.name=dl.x) (hi:ae[i]?=aw dl) (b:dl.ps=[x]) (hc:ae.all (Gc (xH con ae))=aN) (hA:Gd con ae) (hdz:dz ∈ ae) (hz:dz.ks=aw z) (O:(ae.all λd=>d.ks.isNone || d.x == dz.x)=aN)
  (main:∀ns:List Int,ns.length<=n->∃S',evC ae k i [.ref 0] [.frz (ns.map D.int),.tbl dz.x z.2.1 z.2.2]=aw (.bl aN,S')) :
  PySem.W.WalkO q loose XP (qB con ae hb).says l.row.toRowW d [] (λf vs=>PySem.call f vs):=by
 refine Att.attach_call hn hdf λw s₀ C mg mb fa o pm cd I a vs ns G Y ho hd U L Z J B hg=>?_;obtain⟨_,K,KX,noS,tb,TX⟩:=(show Says con ae C.heap from Y);have TX:=TX mg G.T.g;obtain⟨f,fd,hm,kp,_,F⟩:=TX.fn i dl hi;rw[hx] at L;rw[L] at hm;cases hm
 have bd:∀ (s:Shared) (u:Value),BindsTo s fd ⟨[u],[]⟩ [(x,u)]:=λs u=>by
  obtain⟨oc,od,kV,I,pm,an,cdv,ct,osl,rfl,lk,U⟩:=F.ex;have z:=(hb.at (Zc hi)) kV I pm an cdv ct [u] (by rw[b];rfl);rw[b] at z;exact .of_eq z
 obtain⟨T,t1,t2,t3,t4,fz',oz,fdz,c,t5,t6,t7,t8,t9⟩:=tb dz hdz (by rw[hz];simp);have hmz:mg dz.x=aw (.ref fz'):=by rw[<-qA G.T.g];exact t5
 have bm:C.heap.BuiltinsAt mg T:=by
  obtain⟨bm,ob,b1,b2,Q,b4,b5,b6⟩:=G.T.bmain;refine⟨bm,ob,b1,b2,λy=>?_,λy=>?_,Q,b4,b5,b6⟩
  ·obtain⟨o,es,ep,ho,hd,_⟩:=G.T.g;rw[y,ho] at Q;cases Q;rw[hd] at b6;cases b6
  ·rw[y,t1] at Q;cases Q;cases b4
 refine zC (CX:=CX0) (T:=T) (c:=c) (ps:=#[]) (sp:=spC K (evC ae k i) dl.ps.length) KX G.T.g G.T.b G.T.builtins G.T.nolimit hg (t9.tab t1) t3 Z J (ZX B hn2) hr t9 bm (λbase KB _ cB bB=>by
  have:=xJ (P:=l.row.toRowW.prog) (w:=w) (base:=base) TX hc KB hA (λd' hd' hk' f' fd' hm' F'=>?_) k i dl hi fa fd L F
  ·rw[b] at this ⊢;exact this
  ·have hx':=ZW.mp O d' hd'
   have ex:d'.x=dz.x:=by
    cases hk2:d'.ks with
    |none=>exact absurd hk2 hk'
    |some y=>rw[hk2] at hx';simpa using hx'
   rw[ex,hmz] at hm';cases hm';obtain⟨oc,od,kV,I,pm,an,cdv,ct,osl,ef,lk,U⟩:=F'.ex;have:=KX _ _ lk;rw[t6] at this;cases this;cases t7;exact⟨c,T,t8,cB,bB,t2⟩) bd (λH hO hS=>?_) λH e s' z=>z
 have X:∃o,H a=aw (.frz o (.lst (ns.map V.int))):=by
  rcases hS with (z |⟨o,z⟩) |⟨o,its,n',hk,hc,hdd,hdt,_⟩
  ·by_cases aT:a=T
   ·rw[aT,hO.1] at z;cases z
   ·rcases hO.2 a aT with y |⟨o',xs,y⟩
    ·rw[y] at z;cases z
    ·rw[y] at z;cases z
  ·exact⟨o,z⟩
  ·exact absurd hdt (noS a o hk its n')
 obtain⟨o,X⟩:=X;have aT:a ≠ T:=λy=>by rw[y,hO.1] at X;cases X
 obtain⟨S',e⟩:=main ns B;refine⟨[a,T],[.ref 0],[.frz (ns.map D.int),.tbl dz.x z.2.1 z.2.2],.bl aN,S',?_,⟨rfl,by simp[aT],λj ob ej=>?_⟩,by rw[b];rfl,e,λm' H' v A vv=>vv.bls⟩
 ·rw[VDs];exact⟨_,_,rfl,by rw[VD];exact⟨a,rfl,rfl⟩,by rw[VDs]⟩
 ·cases j with
  |zero=>cases ej;exact⟨a,rfl,o,_,X,mv ns⟩
  |succ j=>
   cases j with
   |zero=>cases ej;exact⟨T,rfl,t4,#[],hO.1,SD,λcv ec=>by cases ec⟩
   |succ j=>simp at ej
end Ev
namespace Lw
open PySem Ev
abbrev top(i:Nat):Stmt:=PySem.Challenge.pw_downrings_k56_whole_just_so_much_longer.main.body.getD i (.Pass ⟨0,0,0,0⟩)
abbrev mw:List CS:=[.ret (.and (.inst .int (.var 0)) (.not (.inst .bool (.var 0))))]
abbrev j8:List CS:=[.ret (.and (.call 0 [.var 0]) (.chn .le .le (.var 1) (.var 0) (.var 2)))]
abbrev j9:List CS:=[.ret (.call 1 [.var 0,.int 0,.con 0 9999])]
abbrev my:List CS:=[.ret (.and (.inst .tuple (.var 0)) (.chn .le .le (.var 1) (.len (.var 0)) (.var 2)))]
abbrev iS:List CS:=[.ifs (.or (.not (.call 3 [.var 0,.int 0,.var 1])) (.not (.all (.comp ["number"] (.call 1 [.var 2,.int 0,.bin .sub (.var 1) (.int 1)]) [⟨.name 2,.val (.var 0),aD⟩])))) [.ret (.bl aS)] [],.ret (.all (.comp ["number"] (.cmp .eq (.cnt (.var 0) (.var 2)) (.int 1)) [⟨.name 2,.val (.var 0),aD⟩]))]
abbrev iT:List CS:=[.ret (.and (.call 4 [.var 0,.var 1]) (.cmp .eq (.listOf (.var 0)) (.srt (.var 0))))]
abbrev oK:List CS:=[.ret (.tupOf (.comp ["other"] (.var 2) [⟨.name 2,.val (.var 0),aw (.cmp .ne (.var 2) (.var 1))⟩]))]
abbrev oM:List CS:=[.asg (.name 1) (.lst [.tup []]),.for_ (.name 2) (.val (.var 0)) [.asg (.name 1) (.bin .add (.var 1) (.comp ["lot"] (.bin .add (.var 3) (.tup [.var 2])) [⟨.name 3,.val (.var 1),aD⟩]))],.ret (.var 1)]
abbrev kc:List CS:=[.ifs (.not (.call 3 [.var 0,.int 4,.int 4])) [.ret (.bl aS)] [],.asg (.tup [.name 1,.name 2,.name 3,.name 4]) (.var 0),.ret (.and (.call 1 [.var 1,.int 0,.con 1 8]) (.and (.call 1 [.var 2,.int 0,.con 2 60]) (.and (.call 9 [.var 3]) (.call 12 [.var 4]))))]
abbrev mz:List CS:=[.ifs (.not (.call 3 [.var 0,.int 1,.con 3 4])) [.ret (.bl aS)] [],.ret (.and (.all (.comp ["row"] (.call 10 [.var 1,.len (.var 0)]) [⟨.name 1,.val (.var 0),aD⟩])) (.call 11 [.var 0]))]
abbrev iU:List CS:=[.ret (.and (.call 3 [.var 0,.var 1,.var 1]) (.all (.comp ["gap"] (.call 1 [.var 2,.int 1,.con 4 99]) [⟨.name 2,.val (.var 0),aD⟩])))]
abbrev bH:List CS:=[.asg (.name 1) (.listR (.len (.var 0))),.ret (.all (.comp ["a", "b", "c"] (.cmp .le (.ix (.ix (.var 0) (.var 2)) (.var 3)) (.bin .add (.ix (.ix (.var 0) (.var 2)) (.var 4)) (.ix (.ix (.var 0) (.var 4)) (.var 3)))) [⟨.name 2,.val (.var 1),aD⟩,⟨.name 3,.val (.var 1),aD⟩,⟨.name 4,.val (.var 1),aD⟩]))]
abbrev kf:List CS:=[.ifs (.or (.not (.call 3 [.var 0,.int 0,.con 5 4])) (.not (.all (.comp ["part"] (.call 13 [.var 1]) [⟨.name 1,.val (.var 0),aD⟩])))) [.ret (.bl aS)] [],.ret (.all (.comp ["at"] (.cmp .gt (.ix (.ix (.var 0) (.var 1)) (.int 0)) (.ix (.ix (.var 0) (.bin .sub (.var 1) (.int 1))) (.int 1))) [⟨.name 1,.r2 (.int 1) (.len (.var 0)),aD⟩]))]
abbrev iV:List CS:=[.ret (.and (.call 3 [.var 0,.int 2,.int 2]) (.and (.call 2 [.ix (.var 0) (.int 0)]) (.and (.call 2 [.ix (.var 0) (.int 1)]) (.cmp .lt (.ix (.var 0) (.int 0)) (.ix (.var 0) (.int 1))))))]
abbrev oO:List CS:=[.ret (.call 1 [.var 1,.int 0,.bin .sub (.len (.ix (.var 0) (.int 2))) (.int 1)])]
abbrev eI:List CS:=[.for_ (.tup [.name 2,.name 3]) (.val (.ix (.var 0) (.int 3))) [.ifs (.chn .le .lt (.var 2) (.var 1) (.var 3)) [.ret (.var 3)] []],.ret (.var 1)]
abbrev tH:List CS:=[.ifs (.not (.call 3 [.var 0,.int 4,.int 4])) [.ret (.bl aS)] [],.asg (.tup [.name 1,.name 2,.name 3,.name 4]) (.var 0),.ret (.and (.call 8 [.var 1]) (.and (.call 17 [.var 1,.var 2]) (.and (.call 18 [.var 1,.var 3]) (.call 20 [.var 3,.var 4]))))]
abbrev mB:List CS:=[.ifs (.cmp .is (.var 1) .non) [.ret (.bl aN)] [],.ret (.and (.call 3 [.var 1,.int 2,.int 2]) (.and (.call 14 [.var 0,.ix (.var 1) (.int 0)]) (.call 2 [.ix (.var 1) (.int 1)])))]
abbrev gR:List CS:=[.ret (.and (.call 3 [.var 1,.int 0,.con 6 7]) (.all (.comp ["part"] (.call 19 [.var 0,.var 2]) [⟨.name 2,.val (.var 1),aD⟩])))]
abbrev kh:List CS:=[.ifs (.not (.call 3 [.var 1,.int 7,.int 7])) [.ret (.bl aS)] [],.asg (.tup [.name 2,.name 3,.name 4,.name 5,.name 6,.name 7,.name 8]) (.var 1),.ifs (.not (.all (.comp ["minute"] (.call 2 [.var 9]) [⟨.name 9,.val (.tup [.var 3,.var 4,.var 5,.var 6]),aD⟩]))) [.ret (.bl aS)] [],.ifs (.not (.chn .le .le (.bin .add (.var 3) (.ix (.var 0) (.int 1))) (.var 4) (.var 5))) [.ret (.bl aS)] [],.ret (.and (.call 14 [.var 0,.var 2]) (.and (.call 1 [.var 7,.int 0,.con 7 99]) (.call 1 [.var 8,.int 0,.ix (.var 0) (.int 0)])))]
abbrev kj:List CS:=[.ifs (.not (.call 4 [.var 1,.len (.var 0)])) [.ret (.bl aS)] [],.ret (.all (.comp ["number", "glider"] (.or (.cmp .eq (.ix (.var 3) (.int 6)) (.int 0)) (.cmp .isin (.var 2) (.var 1))) [⟨.tup [.name 2,.name 3],.en (.var 0),aD⟩]))]
abbrev kl:List CS:=[.ret (.tupOf (.comp ["number"] (.var 1) [⟨.name 1,.r1 (.len (.ix (.var 0) (.int 2))),aw (.cmp .notin (.var 1) (.ix (.var 0) (.int 3)))⟩]))]
abbrev km:List CS:=[.ifs (.not (.call 16 [.var 0])) [.never] []]
abbrev gU:List CS:=[.asg (.tup [.name 2,.name 3,.name 4,.name 5,.name 6,.name 7,.name 8]) (.var 0),.ret (.bin .mul (.var 7) (.mx (.int 0) (.bin .sub (.var 1) (.var 6))))]
abbrev fw:List CS:=[.ifs (.not (.var 1)) [.ret (.ix (.var 0) (.int 1))] [],.asg (.tup [.name 2,.name 3]) (.ix (.var 1) (.neg (.int 1))),.ret (.tup [.ix (.ix (.ix (.var 0) (.int 2)) (.var 2)) (.int 0),.var 3])]
abbrev oP:List CS:=[.ifs (.cmp .is (.var 1) .non) [.ret (.int 0)] [],.ret (.bin .add (.ix (.var 1) (.int 1)) (.ix (.ix (.ix (.ix (.var 0) (.int 0)) (.int 2)) (.ix (.var 1) (.int 0))) (.var 2)))]
abbrev mD:List CS:=[.asg (.tup [.name 3,.name 4]) (.var 1),.ret (.chn .le .lt (.ix (.ix (.ix (.var 0) (.int 2)) (.var 3)) (.int 1)) (.var 2) (.bin .sub (.var 4) (.ix (.ix (.var 0) (.int 0)) (.int 1))))]
abbrev fA:List CS:=[.ret (.len (.comp ["landing"] (.var 3) [⟨.name 3,.val (.var 1),aw (.call 26 [.var 0,.var 3,.var 2])⟩]))]
abbrev dD:List CS:=[.ret (.srt (.comp ["glider"] (.ix (.var 1) (.int 1)) [⟨.name 1,.val (.ix (.var 0) (.int 2)),aD⟩]))]
abbrev gW:List CS:=[.asg (.tup [.name 3,.name 4,.name 5,.name 6,.name 7,.name 8,.name 9]) (.ix (.ix (.var 0) (.int 2)) (.ix (.ix (.var 1) (.var 2)) (.int 0))),.ret (.and (.cmp .gt (.var 9) (.int 0)) (.and (.call 26 [.var 0,.ix (.var 1) (.var 2),.var 4]) (.cmp .gt (.call 30 [.var 0,.var 1,.var 2,.var 4]) (.var 9))))]
abbrev gX:List CS:=[.asg (.name 4) (.sl (.var 1) aD (aw (.var 2))),.asg (.name 5) (.comp ["when"] (.var 6) [⟨.name 6,.val (.call 28 [.var 0]),aw (.and (.cmp .gt (.var 6) (.var 3)) (.call 26 [.var 0,.ix (.var 1) (.var 2),.var 6]))⟩]),.ret (.mxL (.comp ["when"] (.bin .add (.int 1) (.call 27 [.var 0,.var 4,.var 6])) [⟨.name 6,.val (.bin .add (.lst [.var 3]) (.var 5)),aD⟩]))]
abbrev dh:List CS:=[.asg (.name 2) (.lst []),.for_ (.tup [.name 3,.name 4]) (.en (.var 1)) [.asg (.name 5) (.call 33 [.var 0,.call 24 [.var 0,.var 2],.var 4,.var 3]),.ifs (.cmp .is (.var 5) .non) [.ret (.var 2)] [],.ex (.app (.var 2) (.tup [.var 4,.var 5])),.ifs (.call 29 [.var 0,.var 2,.var 3]) [.ret (.sl (.var 2) aD (aw (.var 3)))] []],.ret (.var 2)]
abbrev eJ:List CS:=[.asg (.name 1) (.call 31 [.var 0,.ix (.var 0) (.int 3)]),.ret (.ite (.cmp .eq (.len (.var 1)) (.len (.ix (.var 0) (.int 3)))) (.var 1) .non)]
abbrev eK:List CS:=[.asg (.tup [.name 4,.name 5,.name 6,.name 7,.name 8,.name 9,.name 10]) (.ix (.ix (.var 0) (.int 2)) (.var 2)),.asg (.name 11) (.call 15 [.ix (.var 0) (.int 0),.mx (.var 6) (.call 25 [.var 0,.var 1,.var 4])]),.ifs (.or (.cmp .gt (.var 11) (.var 7)) (.call 34 [.var 0,.var 3,.var 11])) [.ret .non] [],.ret (.var 11)]
abbrev dE:List CS:=[.asg (.tup [.name 3,.name 4,.name 5,.name 6]) (.ix (.var 0) (.int 0)),.asg (.name 7) (.call 28 [.var 0]),.asg (.name 8) (.bin .add (.var 3) (.var 1)),.ret (.and (.cmp .lt (.var 8) (.len (.var 7))) (.cmp .gt (.bin .sub (.var 2) (.var 4)) (.ix (.var 7) (.var 8))))]
abbrev iW:List CS:=[.ex (.call 22 [.var 0]),.ret (.call 37 [.call 38 [.var 0,.str "last"]])]
abbrev iX:List CS:=[.ex (.call 22 [.var 0]),.ret (.call 37 [.call 38 [.var 0,.str "cost"]])]
abbrev CF:List CS:=[.ifs (.cmp .is (.var 0) .non) [.ret .non] [],.asg (.tup [.name 1,.name 2]) (.var 0),.ret (.tup [.str "order", .var 1,.var 2])]
abbrev iY:List CS:=[.asg (.name 2) (.call 32 [.var 0]),.ifs (.cmp .is (.var 2) .non) [.ret .non] [],.asg (.name 3) (.call 40 [.var 0,.var 1,.call 24 [.var 0,.var 2],.call 21 [.var 0],.dic0]),.ifs (.cmp .is (.var 3) .non) [.ret .non] [],.asg (.tup [.name 4,.name 5]) (.var 3),.for_ (.tup [.name 6,.name 7]) (.val (.rev (.var 2))) [.asg (.name 4) (.call 39 [.var 1,.ix (.ix (.var 0) (.int 2)) (.var 6),.var 7,.var 4])],.ret (.tup [.var 4,.bin .add (.ix (.var 0) (.int 3)) (.var 5)])]
abbrev tI:List CS:=[.ifs (.cmp .eq (.var 0) (.str "last")) [.ret (.mx (.var 2) (.var 3))] [],.ifs (.cmp .eq (.var 0) (.str "cost")) [.ret (.bin .add (.call 23 [.var 1,.var 2]) (.var 3))] [],.ret (.mx (.call 23 [.var 1,.var 2]) (.var 3))]
abbrev dN:List CS:=[.ifs (.not (.var 3)) [.ret (.tup [.int 0,.tup []])] [],.asg (.name 5) (.tup [.var 2,.var 3]),.ifs (.cmp .notin (.var 5) (.var 4)) [.asg (.name 6) (.comp ["number"] (.call 41 [.var 0,.var 1,.var 2,.var 3,.var 7,.var 4]) [⟨.name 7,.val (.var 3),aD⟩]),.setI (.mnN (.comp ["way"] (.var 7) [⟨.name 7,.val (.var 6),aw (.cmp .isnot (.var 7) .non)⟩])) (.var 4) (.var 5)] [],.ret (.ix (.var 4) (.var 5))]
abbrev ko:List CS:=[.asg (.name 6) (.call 33 [.var 0,.var 2,.var 4,.bin .sub (.len (.ix (.var 0) (.int 2))) (.len (.var 3))]),.ifs (.cmp .is (.var 6) .non) [.ret .non] [],.asg (.name 7) (.ix (.ix (.var 0) (.int 2)) (.var 4)),.asg (.name 8) (.call 40 [.var 0,.var 1,.tup [.ix (.var 7) (.int 0),.var 6],.call 6 [.var 3,.var 4],.var 5]),.ifs (.cmp .is (.var 8) .non) [.ret .non] [],.ret (.tup [.call 39 [.var 1,.var 7,.var 6,.ix (.var 8) (.int 0)],.bin .add (.tup [.var 4]) (.ix (.var 8) (.int 1))])]
abbrev mE:List CS:=[.ex (.call 47 [.var 0,.var 1]),.ret (.call 49 [.call 48 [.var 0,.var 1]])]
abbrev gY:List CS:=[.ex (.call 22 [.var 0]),.asg (.name 1) (.lst []),.for_ (.name 2) (.val (.call 50 [.var 0])) [.ifs (.and (.not (.call 52 [.var 2,.var 1])) (.not (.call 49 [.call 48 [.var 0,.var 2]]))) [.ex (.app (.var 1) (.var 2))] []],.ret (.var 1)]
abbrev eL:List CS:=[.asg (.name 1) (.call 43 [.var 0]),.asg (.name 2) (.lst []),.for_ (.name 3) (.val (.call 50 [.var 0])) [.ifs (.and (.not (.call 52 [.var 3,.var 2])) (.not (.call 52 [.call 51 [.var 0,.var 3],.var 1]))) [.ex (.app (.var 2) (.var 3))] []],.ret (.var 2)]
abbrev tJ:List CS:=[.ex (.call 22 [.var 0]),.asg (.name 1) (.call 38 [.call 46 [.var 0],.str "most"]),.ret (.ite (.cmp .is (.var 1) .non) .non (.ix (.var 1) (.int 0)))]
abbrev eM:List CS:=[.asg (.tup [.name 1,.name 2,.name 3,.name 4]) (.var 0),.asg (.name 5) (.bin .add (.con 0 9999) (.bin .mul (.con 6 7) (.con 4 99))),.asg (.name 6) (.comp ["kind", "joins", "first", "last", "due", "weight", "ring"] (.tup [.var 7,.var 8,.var 9,.var 5,.var 10,.int 1,.var 13]) [⟨.tup [.name 7,.name 8,.name 9,.name 10,.name 11,.name 12,.name 13],.val (.var 3),aD⟩]),.ret (.tup [.var 1,.var 2,.tupOf (.var 6),.var 4])]
abbrev kq:List CS:=[.ex (.call 22 [.var 0]),.ifs (.not (.call 5 [.var 1,.len (.ix (.var 0) (.int 2))])) [.never] []]
abbrev gZ:List CS:=[.asg (.tup [.name 2,.name 3,.name 4,.name 5]) (.var 0),.asg (.name 6) (.tupOf (.comp ["number"] (.ix (.var 4) (.var 7)) [⟨.name 7,.val (.var 1),aD⟩])),.ret (.tup [.var 2,.var 3,.var 6,.tupOf (.comp ["number"] (.idx (.var 1) (.var 7)) [⟨.name 7,.val (.var 5),aw (.cmp .isin (.var 7) (.var 1))⟩])])]
abbrev xM:List CS:=[.ret (.cmp .isnot (.call 38 [.var 0,.str "last"]) .non)]
abbrev kz:CE × Pos × Str:=(.call 7 [.listR (.len (.ix (.var 0) (.int 2)))],Ev.SB (top 69), "all_lots.<locals>.<lambda>")
abbrev oQ:List CS:=[.ret (.tupOf (.comp ["number"] (.var 2) [⟨.name 2,.r1 (.len (.ix (.var 0) (.int 2))),aw (.cmp .notin (.var 2) (.var 1))⟩]))]
abbrev kr:List CS:=[.ret (.any (.comp ["other"] (.all (.comp ["number"] (.cmp .isin (.var 3) (.var 0)) [⟨.name 3,.val (.var 2),aD⟩])) [⟨.name 2,.val (.var 1),aD⟩]))]
abbrev hU:List CS:=[.ifs (.cmp .lt (.var 1) (.len (.var 0))) [.ret (.ix (.var 0) (.var 1))] [],.ret (.int 0)]
abbrev oT:List CS:=[.ifs (.cmp .ge (.var 0) (.bin .pow (.int 10) (.int 18))) [.ret (.lst [.bin .sub (.var 0) (.bin .pow (.int 10) (.int 18))])] [],.asg (.name 1) (.int 0),.for_ (.name 2) (.r1 (.int 64)) [.asg (.name 3) (.bin .mod (.bin .mul (.bin .add (.bin .add (.bin .mod (.var 0) (.int 2147483629)) (.bin .mul (.int 7919) (.var 2))) (.int 1)) (.int 48271)) (.int 2147483647)),.asg (.name 3) (.bin .mod (.bin .add (.bin .add (.bin .mul (.var 3) (.var 3)) (.bin .mul (.int 69621) (.var 2))) (.int 7)) (.int 2147483587)),.asg (.name 1) (.bin .add (.bin .mul (.var 1) (.int 2147483587)) (.var 3))],.ret (.lst [.var 1])]
abbrev mF:List CS:=[.asg (.name 2) (.bin .mod (.ix (.var 0) (.int 0)) (.var 1)),.setI (.bin .fdiv (.ix (.var 0) (.int 0)) (.var 1)) (.var 0) (.int 0),.ret (.var 2)]
abbrev fb:List CS:=[.asg (.tup [.name 1,.name 2]) (.tup [.bin .add (.int 1) (.call 55 [.var 0,.int 4]),.ix (.lst [.int 3,.int 12,.int 40]) (.call 55 [.var 0,.int 3])]),.asg (.name 3) (.comp ["_law_a"] (.comp ["_law_b"] (.bin .add (.int 1) (.call 55 [.var 0,.var 2])) [⟨.name 7,.r1 (.var 1),aD⟩]) [⟨.name 6,.r1 (.var 1),aD⟩]),.for_ (.name 4) (.r1 (.var 1)) [.for_ (.name 5) (.r1 (.var 1)) [.setI (.comp ["_law_b"] (.mn (.ix (.ix (.var 3) (.var 5)) (.var 6)) (.bin .add (.ix (.ix (.var 3) (.var 5)) (.var 4)) (.ix (.ix (.var 3) (.var 4)) (.var 6)))) [⟨.name 6,.r1 (.var 1),aD⟩]) (.var 3) (.var 5)]],.ret (.tupOf (.comp ["_law_row"] (.tupOf (.var 6)) [⟨.name 6,.val (.var 3),aD⟩]))]
abbrev iZ:List CS:=[.asg (.tup [.name 1,.name 2]) (.tup [.lst [],.int 0]),.for_ (.name 3) (.r1 (.call 55 [.var 0,.ix (.lst [.int 1,.int 5]) (.call 55 [.var 0,.int 2])])) [.asg (.name 4) (.bin .add (.var 2) (.call 55 [.var 0,.int 25])),.ex (.app (.var 1) (.tup [.var 4,.bin .add (.bin .add (.var 4) (.int 1)) (.call 55 [.var 0,.int 25])])),.asg (.name 2) (.bin .add (.ix (.ix (.var 1) (.neg (.int 1))) (.int 1)) (.int 1))],.ret (.tup [.ix (.lst [.int 8,.int 1,.int 2,.int 3,.int 0]) (.call 55 [.var 0,.int 5]),.ix (.lst [.int 0,.int 2,.int 9,.int 60]) (.call 55 [.var 0,.int 4]),.call 56 [.var 0],.tupOf (.var 1)])]
abbrev gH:List CS:=[.asg (.tup [.name 2,.name 3]) (.tup [.call 57 [.var 0],.lst []]),.asg (.tup [.name 4,.name 5]) (.tup [.ix (.lst [.int 5,.int 20,.int 60]) (.call 55 [.var 0,.int 3]),.ix (.lst [.int 4,.int 30,.int 90,.int 400]) (.call 55 [.var 0,.int 4])]),.for_ (.name 6) (.r1 (.call 55 [.var 0,.bin .add (.var 1) (.int 1)])) [.asg (.name 7) (.call 55 [.var 0,.var 4]),.asg (.name 8) (.bin .add (.bin .add (.var 7) (.ix (.var 2) (.int 1))) (.ix (.lst [.int 0,.call 55 [.var 0,.int 9]]) (.call 55 [.var 0,.int 2]))),.asg (.tup [.name 9,.name 10]) (.tup [.bin .add (.var 8) (.call 55 [.var 0,.var 5]),.bin .add (.var 7) (.call 55 [.var 0,.var 5])]),.ex (.app (.var 3) (.lst [.call 55 [.var 0,.len (.ix (.var 2) (.int 2))],.var 7,.var 8,.var 9,.var 10,.ix (.lst [.int 0,.int 1,.int 7,.int 99]) (.call 55 [.var 0,.int 4]),.int 0]))],.asg (.tup [.name 11,.name 12]) (.tup [.listR (.len (.var 3)),.lst []]),.for_ (.name 13) (.r1 (.ix (.lst [.int 0,.call 55 [.var 0,.bin .add (.len (.var 3)) (.int 1)]]) (.call 55 [.var 0,.int 2]))) [.ex (.app (.var 12) (.popAt (.var 11) (.call 55 [.var 0,.len (.var 11)]))),.ifs (.and (.cmp .gt (.ix (.var 2) (.int 0)) (.int 0)) (.cmp .eq (.call 55 [.var 0,.int 3]) (.int 0))) [.setI (.bin .add (.int 1) (.call 55 [.var 0,.ix (.var 2) (.int 0)])) (.ix (.var 3) (.ix (.var 12) (.neg (.int 1)))) (.int 6)] []],.asg (.name 14) (.ix (.lst [.non,.tup [.call 55 [.var 0,.len (.ix (.var 2) (.int 2))],.call 55 [.var 0,.int 30]]]) (.call 55 [.var 0,.int 2])),.ret (.tup [.var 2,.var 14,.tupOf (.comp ["_law_one"] (.tupOf (.var 15)) [⟨.name 15,.val (.var 3),aD⟩]),.tupOf (.var 12)])]
abbrev ku:List CS:=[.asg (.name 2) (.tupOf (.comp ["_law_one"] (.bin .add (.bin .add (.sl (.var 3) aD (aw (.int 3))) (.tup [.bin .add (.ix (.var 3) (.int 3)) (.var 1)])) (.sl (.var 3) (aw (.int 4)) aD)) [⟨.name 3,.val (.ix (.var 0) (.int 2)),aD⟩])),.ret (.tup [.ix (.var 0) (.int 0),.ix (.var 0) (.int 1),.var 2,.ix (.var 0) (.int 3)])]
abbrev xN:List CS:=[.for_ (.name 1) (.r1 (.mx (.int 1) (.mn (.len (.var 0)) (.int 4)))) [.asg (.name 2) (.call 54 [.call 53 [.var 0,.var 1]]),.asg (.tup [.name 3,.name 4,.name 5,.name 6]) (.call 58 [.var 2,.int 7]),.asg (.name 7) (.ix (.lst [.int 1,.int 5,.int 40]) (.call 55 [.var 2,.int 3])),.asg (.name 8) (.tupOf (.comp ["_law_one"] (.bin .add (.bin .add (.sl (.var 14) aD (aw (.int 3))) (.tup [.bin .add (.ix (.var 14) (.int 2)) (.call 55 [.var 2,.var 7])])) (.sl (.var 14) (aw (.int 4)) aD)) [⟨.name 14,.val (.var 5),aD⟩])),.asg (.tup [.name 9,.name 10]) (.tup [.tup [.var 3,.var 4,.var 8,.var 6],.tupR (.len (.var 8))]),.asg (.name 11) (.call 45 [.var 9]),.ifs (.cmp .ne (.call 42 [.var 9,.var 10]) (.cmp .eq (.var 11) (.int 0))) [.ret (.bl aS)] [],.asg (.name 12) (.tup [.bin .add (.tup [.mn (.int 8) (.bin .add (.ix (.var 3) (.int 0)) (.int 1))]) (.sl (.var 3) (aw (.int 1)) aD),.var 4,.var 8,.var 6]),.ifs (.cmp .is (.var 11) .non) [.ifs (.or (.cmp .isnot (.call 45 [.call 59 [.var 9,.int 900]]) .non) (.or (.cmp .isnot (.call 35 [.var 9]) .non) (.cmp .isnot (.call 36 [.var 9]) .non))) [.ret (.bl aS)] [],.ifs (.cmp .isin (.tup []) (.call 44 [.var 9])) [.ret (.bl aS)] []] [.asg (.name 13) (.call 45 [.var 12]),.ifs (.or (.cmp .is (.var 13) .non) (.or (.cmp .gt (.var 13) (.var 11)) (.cmp .isnot (.call 42 [.call 59 [.var 9,.var 11],.var 10]) (.bl aN)))) [.ret (.bl aS)] [],.ifs (.and (.cmp .gt (.var 11) (.int 0)) (.cmp .isnot (.call 42 [.call 59 [.var 9,.bin .sub (.var 11) (.int 1)],.var 10]) (.bl aS))) [.ret (.bl aS)] []]],.ret (.bl aN)]
abbrev ic:DefE:=⟨"is_whole", top 6,["thing"],["thing"],mw,aD⟩
abbrev fU:DefE:=⟨"is_within", top 7,["thing", "least", "most"],["thing", "least", "most"],j8,aD⟩
abbrev fV:DefE:=⟨"is_minute", top 8,["thing"],["thing"],j9,aD⟩
abbrev ie:DefE:=⟨"is_tuple", top 9,["thing", "least", "most"],["thing", "least", "most"],my,aD⟩
abbrev fc:DefE:=⟨"are_unlike", top 10,["thing", "many"],["thing", "many"],iS,aD⟩
abbrev fe:DefE:=⟨"are_rising", top 11,["thing", "many"],["thing", "many"],iT,aD⟩
abbrev jD:DefE:=⟨"without", top 12,["numbers", "number"],["numbers", "number"],oK,aD⟩
abbrev jE:DefE:=⟨"lots_of", top 13,["numbers", "lots", "number"],["numbers"],oM,aD⟩
abbrev fW:DefE:=⟨"is_meadow", top 20,["thing", "rings", "sink", "gaps", "shuts"],["thing"],kc,aD⟩
abbrev ig:DefE:=⟨"are_gaps", top 21,["thing"],["thing"],mz,aD⟩
abbrev ff:DefE:=⟨"is_gap_row", top 22,["thing", "many"],["thing", "many"],iU,aD⟩
abbrev bg:DefE:=⟨"no_glider_between_helps", top 23,["gaps", "kinds"],["gaps"],bH,aD⟩
abbrev fX:DefE:=⟨"are_shuts", top 24,["thing"],["thing"],kf,aD⟩
abbrev fh:DefE:=⟨"is_stretch", top 25,["thing"],["thing"],iV,aD⟩
abbrev jF:DefE:=⟨"is_kind", top 26,["meadow", "thing"],["meadow", "thing"],oO,aD⟩
abbrev cC:DefE:=⟨"first_not_shut", top 27,["meadow", "minute", "begin", "end"],["meadow", "minute"],eI,aD⟩
abbrev mG:DefE:=⟨"is_sky", top 31,["thing", "meadow", "ahead", "gliders", "fixed"],["thing"],tH,aD⟩
abbrev ij:DefE:=⟨"is_ahead", top 32,["meadow", "thing"],["meadow", "thing"],mB,aD⟩
abbrev dP:DefE:=⟨"are_gliders", top 33,["meadow", "thing"],["meadow", "thing"],gR,aD⟩
abbrev fY:DefE:=⟨"is_glider", top 34,["meadow", "thing", "kind", "joins", "first", "last", "due", "weight", "ring"],["meadow", "thing"],kh,aD⟩
abbrev fZ:DefE:=⟨"are_fixed", top 35,["gliders", "thing"],["gliders", "thing"],kj,aD⟩
abbrev f7:DefE:=⟨"free_ones", top 36,["sky"],["sky"],kl,aD⟩
abbrev f8:DefE:=⟨"check_sky", top 37,["thing"],["thing"],km,aD⟩
abbrev dQ:DefE:=⟨"glider_cost", top 39,["glider", "minute", "kind", "joins", "first", "last", "due", "weight", "ring"],["glider", "minute"],gU,aD⟩
abbrev cT:DefE:=⟨"landing_ahead", top 40,["sky", "sooner", "number", "minute"],["sky", "sooner"],fw,aD⟩
abbrev jG:DefE:=⟨"gap_end", top 41,["sky", "ahead", "kind"],["sky", "ahead", "kind"],oP,aD⟩
abbrev ik:DefE:=⟨"waits_at", top 42,["sky", "landing", "minute", "number", "lands"],["sky", "landing", "minute"],mD,aD⟩
abbrev cU:DefE:=⟨"how_many_wait", top 43,["sky", "landings", "minute"],["sky", "landings", "minute"],fA,aD⟩
abbrev cp:DefE:=⟨"joining_minutes", top 44,["sky"],["sky"],dD,aD⟩
abbrev dR:DefE:=⟨"is_too_high", top 45,["sky", "landings", "place", "kind", "joins", "first", "last", "due", "weight", "ring"],["sky", "landings", "place"],gW,aD⟩
abbrev dS:DefE:=⟨"ring_needed", top 46,["sky", "landings", "place", "minute", "sooner", "later"],["sky", "landings", "place", "minute"],gX,aD⟩
abbrev bX:DefE:=⟨"soonest_landings", top 48,["sky", "numbers", "landings", "place", "number", "minute"],["sky", "numbers"],dh,aD⟩
abbrev cD:DefE:=⟨"fixed_landings", top 49,["sky", "landings"],["sky"],eJ,aD⟩
abbrev cE:DefE:=⟨"soonest_minute", top 50,["sky", "ahead", "number", "place", "kind", "joins", "first", "last", "due", "weight", "ring", "minute"],["sky", "ahead", "number", "place"],eK,aD⟩
abbrev cq:DefE:=⟨"leaves_too_late", top 51,["sky", "place", "minute", "rings", "sink", "gaps", "shuts", "joins", "one_too_many"],["sky", "place", "minute"],dE,aD⟩
abbrev fj:DefE:=⟨"least_last", top 53,["sky"],["sky"],iW,aD⟩
abbrev fk:DefE:=⟨"least_cost", top 54,["sky"],["sky"],iX,aD⟩
abbrev vZ:DefE:=⟨"told", top 55,["best", "number", "order"],["best"],CF,aD⟩
abbrev fm:DefE:=⟨"best_order", top 56,["sky", "aim", "landings", "best", "number", "order", "glider", "minute"],["sky", "aim"],iY,aD⟩
abbrev mH:DefE:=⟨"joined", top 57,["aim", "glider", "minute", "number"],["aim", "glider", "minute", "number"],tI,aD⟩
abbrev bO:DefE:=⟨"best_behind", top 58,["sky", "aim", "ahead", "left", "known", "key", "ways"],["sky", "aim", "ahead", "left", "known"],dN,aD⟩
abbrev f9:DefE:=⟨"best_with", top 59,["sky", "aim", "ahead", "left", "number", "known", "minute", "glider", "best"],["sky", "aim", "ahead", "left", "number", "known"],ko,aD⟩
abbrev il:DefE:=⟨"can_land", top 61,["sky", "lot"],["sky", "lot"],mE,aD⟩
abbrev dU:DefE:=⟨"least_stuck", top 62,["sky", "found", "lot"],["sky"],gY,aD⟩
abbrev cF:DefE:=⟨"least_sendings", top 63,["sky", "stuck", "found", "lot"],["sky"],eL,aD⟩
abbrev mI:DefE:=⟨"longer", top 64,["sky", "best"],["sky"],tJ,aD⟩
abbrev cG:DefE:=⟨"never_too_late", top 65,["sky", "meadow", "ahead", "gliders", "fixed", "latest", "late"],["sky"],eM,aD⟩
abbrev ga:DefE:=⟨"check_lot", top 66,["sky", "lot"],["sky", "lot"],kq,aD⟩
abbrev dW:DefE:=⟨"narrowed_to", top 67,["sky", "lot", "meadow", "ahead", "gliders", "fixed", "kept"],["sky", "lot"],gZ,aD⟩
abbrev qC:DefE:=⟨"lands", top 68,["sky"],["sky"],xM,aD⟩
abbrev fo:DefE:=⟨"all_lots", top 69,["sky"],["sky"],[],aw kz⟩
abbrev jH:DefE:=⟨"all_but", top 70,["sky", "lot"],["sky", "lot"],oQ,aD⟩
abbrev gf:DefE:=⟨"holds_one", top 71,["lot", "others"],["lot", "others"],kr,aD⟩
abbrev dX:DefE:=⟨"_law_cell_at", top 73,["_law_script", "_law_k"],["_law_script", "_law_k"],hU,aD⟩
abbrev jI:DefE:=⟨"_law_pot", top 74,["_law_cell", "_law_number", "_law_j", "_law_more"],["_law_cell"],oT,aD⟩
abbrev im:DefE:=⟨"_law_take", top 75,["_law_pot_here", "_law_wide", "_law_found"],["_law_pot_here", "_law_wide"],mF,aD⟩
abbrev io:DefE:=⟨"_law_gaps", top 76,["_law_pot_here", "_law_many", "_law_far", "_law_found", "_law_c", "_law_a"],["_law_pot_here"],fb,aD⟩
abbrev fq:DefE:=⟨"_law_meadow", top 77,["_law_pot_here", "_law_shuts", "_law_at", "_law_turn", "_law_begin"],["_law_pot_here"],iZ,aD⟩
abbrev jJ:DefE:=⟨"_law_sky", top 78,["_law_pot_here", "_law_most", "_law_meadow_here", "_law_gliders", "_law_wide", "_law_long", "_law_number", "_law_joins", "_law_first", "_law_last", "_law_due", "_law_left", "_law_fixed", "_law_turn", "_law_ahead"],["_law_pot_here", "_law_most"],gH,aD⟩
abbrev gg:DefE:=⟨"_law_later", top 79,["_law_sky_here", "_law_many", "_law_some"],["_law_sky_here", "_law_many"],ku,aD⟩
abbrev xO:DefE:=⟨"law", top 80,["_law_script", "_law_k", "_law_pot_here", "_law_meadow_here", "_law_ahead", "_law_gliders", "_law_fixed", "_law_far", "_law_some", "_law_sky_here", "_law_every", "_law_found", "_law_wide", "_law_more"],["_law_script"],xN,aD⟩
abbrev ae:List DefE:=[ic,fU,fV,ie,fc,fe,jD,jE,fW,ig,ff,bg,fX,fh,jF,cC,mG,ij,dP,fY,fZ,f7,f8,dQ,cT,jG,ik,cU,cp,dR,dS,bX,cD,cE,cq,fj,fk,vZ,fm,mH,bO,f9,il,dU,cF,mI,cG,ga,dW,qC,fo,jH,gf,dX,jI,im,io,fq,jJ,gg,xO]
abbrev con:List (Str × Int):=[("LAST_MINUTE", 9999),("MOST_RINGS", 8),("MOST_SINK", 60),("MOST_KINDS", 4),("MOST_GAP", 99),("MOST_SHUTS", 4),("MOST_GLIDERS", 7),("MOST_WEIGHT", 99)]
def chk:ae.all (Gc (xH con ae))=aN:=by kernel_rfl
def SE:Gd con ae:=Gf (f:=50) (dz:=fo) (z:=kz) rfl rfl (by kernel_rfl) ⟨_,_,_,_,_,_,_,_,_,_,_,_,_,_,rfl,by kernel_rfl,by kernel_rfl,λ_ _ _ _=>rfl,λ_ _ _=>rfl,λ_=>rfl,λ_=>rfl⟩
def us1:∀ {u:List Value},u.length=1->∃b,u=[b]
 |[b],_=>⟨b,rfl⟩
def us2:∀ {u:List Value},u.length=2->∃b c,u=[b,c]
 |[b,c],_=>⟨b,c,rfl⟩
def us3:∀ {u:List Value},u.length=3->∃b d c,u=[b,d,c]
 |[b,d,c],_=>⟨b,d,c,rfl⟩
def us4:∀ {u:List Value},u.length=4->∃c j b d,u=[c,j,b,d]
 |[c,j,b,d],_=>⟨c,j,b,d,rfl⟩
def us5:∀ {u:List Value},u.length=5->∃d k b j c,u=[d,k,b,j,c]
 |[d,k,b,j,c],_=>⟨d,k,b,j,c,rfl⟩
def us6:∀ {u:List Value},u.length=6->∃j l b k d c,u=[j,l,b,k,d,c]
 |[j,l,b,k,d,c],_=>⟨j,l,b,k,d,c,rfl⟩
def bind:zD ae:=by
 repeat' apply And.intro
 all_goals first |trivial |(intro _ _ _ _ _ _ u b;first |(obtain⟨_,rfl⟩:=us1 b;rfl) |(obtain⟨_,_,rfl⟩:=us2 b;rfl) |(obtain⟨_,_,_,rfl⟩:=us3 b;rfl) |(obtain⟨_,_,_,_,rfl⟩:=us4 b;rfl) |(obtain⟨_,_,_,_,_,rfl⟩:=us5 b;rfl) |(obtain⟨_,_,_,_,_,_,rfl⟩:=us6 b;rfl))
end Lw
section
open PySem PySem.W PyProof.Rows
noncomputable abbrev Lw.view:Program:={ PySem.Challenge.pw_downrings_k56_whole_just_so_much_longer with main:={ PySem.Challenge.pw_downrings_k56_whole_just_so_much_longer.main with body:=[Lw.top 80] } }
noncomputable abbrev Lw.loose:List PySem.Str:=List.map PySem.Str.ofString ["is_whole", "is_within", "is_minute", "is_tuple", "are_unlike", "are_rising", "without", "lots_of", "is_meadow", "are_gaps", "is_gap_row", "no_glider_between_helps", "are_shuts", "is_stretch", "is_kind", "first_not_shut", "is_sky", "is_ahead", "are_gliders", "is_glider", "are_fixed", "free_ones", "check_sky", "glider_cost", "landing_ahead", "gap_end", "waits_at", "how_many_wait", "joining_minutes", "is_too_high", "ring_needed", "soonest_landings", "fixed_landings", "soonest_minute", "leaves_too_late", "least_last", "least_cost", "told", "best_order", "joined", "best_behind", "best_with", "can_land", "least_stuck", "least_sendings", "longer", "never_too_late", "check_lot", "narrowed_to", "lands", "all_lots", "all_but", "holds_one", "_law_cell_at", "_law_pot", "_law_take", "_law_gaps", "_law_meadow", "_law_sky", "_law_later", "LAST_MINUTE", "MOST_RINGS", "MOST_SINK", "MOST_KINDS", "MOST_GAP", "MOST_SHUTS", "MOST_GLIDERS", "MOST_WEIGHT", "RingError", "NoSky", "NoLot"]
set_option maxHeartbeats 0 in
def Lw.said:PySem.Challenge.rw_downrings_k56_whole_just_so_much_longer.wellSaid=aN:=by kernel_rfl
set_option maxHeartbeats 0 in
def Lw.head(b:∀ns:List Int,ns.length<=63->∃c,Ev.evC Lw.ae 40 60 [.ref 0] [.frz (ns.map Ev.D.int),.tbl "all_lots" Lw.kz.2.1 Lw.kz.2.2]=aw (.bl aN,c)):PySem.Challenge.rw_downrings_k56_whole_just_so_much_longer.Holds:=by
 w_on;refine holds_law Lw.said λsaid=>?_
 refine holds_open (q:=Lw.view) (loose:=Lw.loose) (Xt:=(λs=>xlAt Lw.view [] s && recOk (RowW.records PySem.Challenge.rw_downrings_k56_whole_just_so_much_longer.row.toRowW) s)) (XP:=XL Lw.view []) (Yf:=(Hook.obs (Ev.qB Lw.con Lw.ae Lw.bind))) (Ya:=(Hook.val (Ev.qB Lw.con Lw.ae Lw.bind))) (YP:=Hook.says (Ev.qB Lw.con Lw.ae Lw.bind)) (N:=20000) ?hl (Hook.of _) (Hook.keeps _) (λs e=>xl_of s (XR.mp e).1) XL.keeps (by rfl) (by rfl) (by rfl) (λs e=>recFacts_of (XR.mp e).2) (by rfl) (by first |assumption |decide +kernel) (by decide +kernel) ⟨rfl,rfl,rfl,rfl,rfl,by decide +kernel⟩ ?hw ?hc
 case hw=>w_witness2
 case hl=>exactλw=>by kernel_rfl
 case hc=>exact Ev.Gj (l:=PySem.Challenge.rw_downrings_k56_whole_just_so_much_longer) (n:=63) (k:=40) (i:=60) (dl:=Lw.xO) rfl (by decide) rfl ⟨rfl,by decide,by decide,rfl⟩ rfl rfl rfl Lw.chk Lw.SE (dz:=Lw.fo) (z:=Lw.kz) (Zc (i:=50) rfl) rfl (by kernel_rfl) b
end
namespace Ev
open PySem PySem.Spec PyProof.Rows L2
abbrev Ok{b:Type}(x:Option (b × Sto))(Q:b->Sto->Prop):Prop:=∃a S,x=aw (a,S)/\Q a S
abbrev OkS(x:Option (Fl × Rho × Sto))(Q:Fl->Rho->Sto->Prop):Prop:=∃f b S,x=aw (f,b,S)/\Q f b S
section
variable {α β:Type} {S S':Sto} {ρ ρ':Rho}
def aI{a:α}{Q:α->Sto->Prop}:Ok (aw (a,S)) Q=Q a S:=by
 apply propext;exact⟨λ⟨_,_,e,q⟩=>by cases e;exact q,λq=>⟨a,S,rfl,q⟩⟩
def be{Q:α->Sto->Prop}:Ok aD Q=False:=propext ⟨λ⟨_,_,e,_⟩=>(nomatch e),λh=>h.elim⟩
def bF{x:Option (α × Sto)}{f:α->Sto->Option (β × Sto)}{Q:β->Sto->Prop}:Ok (bnd x f) Q=Ok x λa S=>Ok (f a S) Q:=by
 apply propext;constructor
 ·rintro⟨b,S',e,q⟩;obtain⟨a,S,c,d⟩:=ab e;exact⟨a,S,c,b,S',d,q⟩
 ·rintro⟨a,S,c,b,S',d,q⟩;exact⟨b,S',by rw[c];exact d,q⟩
def dj{c:Prop}[Decidable c]{x y:Option (α × Sto)}{Q:α->Sto->Prop}:Ok (if c then x else y) Q=if c then Ok x Q else Ok y Q:=by split <;> rfl
def L7{x:Option β}{f:β->α × Sto}{Q:α->Sto->Prop}:Ok (x.map f) Q=∃b,x=aw b/\Q (f b).1 (f b).2:=by
 apply propext;cases x with
 |none=>exact⟨λ⟨_,_,e,_⟩=>(nomatch e),λ⟨_,e,_⟩=>(nomatch e)⟩
 |some b=>exact⟨λ⟨a,S,e,q⟩=>⟨b,rfl,by have c:=Option.some.inj e;rw[c];exact q⟩,λ⟨B,e,q⟩=>by cases e;exact⟨_,_,rfl,q⟩⟩
def Ok.mono{x:Option (α × Sto)}{Q Q':α->Sto->Prop}(h:Ok x Q)(f:∀a S,Q a S->Q' a S):Ok x Q':=let ⟨a,S,e,q⟩:=h;⟨a,S,e,f a S q⟩
def OkS.mono{x:Option (Fl × Rho × Sto)}{Q Q':Fl->Rho->Sto->Prop}(h:OkS x Q)(f:∀a ρ S,Q a ρ S->Q' a ρ S):OkS x Q':=let ⟨a,ρ,S,e,q⟩:=h;⟨a,ρ,S,e,f a ρ S q⟩
abbrev nxt(y:XS)(Q:Fl->Rho->Sto->Prop)(f:Fl)(ρ:Rho)(S:Sto):Prop:=match f with
 |.nx=>OkS (y ρ S) Q
 |f=>Q f ρ S
def Gk{x y:XS}{Q:Fl->Rho->Sto->Prop}:OkS (BF x y ρ S) Q=OkS (x ρ S) (nxt y Q):=by
 apply propext;unfold BF;constructor
 ·rintro⟨f,b,c,e,q⟩;split at e
  ·cases e
  ·rename_i d j h;exact⟨_,_,_,h,f,b,c,e,q⟩
  ·rename_i r n h;cases e;cases f with
   |nx=>exact absurd rfl (n b c)
   |_=>exact⟨_,_,_,h,q⟩
 ·rintro⟨f,b,c,e,q⟩;rw[e];cases f with
  |nx=>exact q
  |_=>exact⟨_,_,_,rfl,q⟩
def L8{c:XT}{x y:XS}{Q:Fl->Rho->Sto->Prop}:OkS (xIf c x y ρ S) Q=Ok (c ρ S) λb d=>if b=aN then OkS (x ρ d) Q else OkS (y ρ d) Q:=by
 apply propext;unfold xIf;constructor
 ·rintro⟨f,j,d,e,q⟩;cases h:c ρ S with
  |none=>rw[h] at e;cases e
  |some r=>
   obtain⟨b,k⟩:=r;rw[h] at e;refine⟨b,k,rfl,?_⟩;dsimp only at e ⊢;split
   ·rename_i hb;rw[if_pos hb] at e;exact⟨f,j,d,e,q⟩
   ·rename_i hb;rw[if_neg hb] at e;exact⟨f,j,d,e,q⟩
 ·rintro⟨b,k,e,q⟩;rw[e];dsimp only;split
  ·rename_i hb;rw[if_pos hb] at q;exact q
  ·rename_i hb;rw[if_neg hb] at q;exact q
def Gm{x:XE}{t:Tg}{Q:Fl->Rho->Sto->Prop}:OkS (nB x t ρ S) Q=Ok (x ρ S) λd S1=>∃b,aC t d ρ=aw b/\Q .nx b S1:=by
 apply propext;unfold nB;constructor
 ·rintro⟨f,b,S1,e,q⟩;cases h:x ρ S with
  |none=>rw[h] at e;cases e
  |some r=>
   obtain⟨d,k⟩:=r;rw[h] at e;dsimp only at e;cases c:aC t d ρ with
   |none=>rw[c] at e;cases e
   |some j=>rw[c] at e;cases e;exact⟨d,_,rfl,b,c,q⟩
 ·rintro⟨d,k,e,b,l,q⟩;rw[e];dsimp only;rw[l];exact⟨_,_,_,rfl,q⟩
def CG{x:XE}{Q:Fl->Rho->Sto->Prop}:OkS (sO x ρ S) Q=Ok (x ρ S) λ_ S1=>Q .nx ρ S1:=by
 apply propext;unfold sO;constructor
 ·rintro⟨f,b,S1,e,q⟩;cases h:x ρ S with
  |none=>rw[h] at e;cases e
  |some r=>rw[h] at e;cases e;exact⟨_,_,rfl,q⟩
 ·rintro⟨d,c,e,q⟩;rw[e];exact⟨_,_,_,rfl,q⟩
def Gn{x:XE}{Q:Fl->Rho->Sto->Prop}:OkS (BG x ρ S) Q=Ok (x ρ S) λd S1=>Q (.rt d) ρ S1:=by
 apply propext;unfold BG;constructor
 ·rintro⟨f,b,S1,e,q⟩;cases h:x ρ S with
  |none=>rw[h] at e;cases e
  |some r=>rw[h] at e;cases e;exact⟨_,_,rfl,q⟩
 ·rintro⟨d,c,e,q⟩;rw[e];exact⟨_,_,_,rfl,q⟩
def CH{v o i:XE}{Q:Fl->Rho->Sto->Prop}:OkS (sP v o i ρ S) Q=Ok (v ρ S) λa d=>Ok (o ρ d) λb u=>Ok (i ρ u) λc l=>∃S4,jx b c a l=aw S4/\Q .nx ρ S4:=by
 apply propext;unfold sP;constructor
 ·rintro⟨f,z,d,e,q⟩;cases h:v ρ S with
  |none=>rw[h] at e;cases e
  |some r=>
   rw[h] at e;dsimp only at e;cases k:o ρ r.2 with
   |none=>rw[k] at e;cases e
   |some r2=>
    rw[k] at e;dsimp only at e;cases j:i ρ r2.2 with
    |none=>rw[j] at e;cases e
    |some y=>
     rw[j] at e;dsimp only at e;cases h4:jx r2.1 y.1 r.1 y.2 with
     |none=>rw[h4] at e;cases e
     |some S4=>rw[h4] at e;cases e;exact⟨_,_,rfl,_,_,k,_,_,j,_,h4,q⟩
 ·rintro⟨a,d,B,b,u,I,c,l,C,S4,J,q⟩;rw[B];dsimp only;rw[I];dsimp only;rw[C];dsimp only;rw[J];exact⟨_,_,_,rfl,q⟩
def Go{it:XI}{T:Tg}{b:XS}{k:Nat}{Q:Fl->Rho->Sto->Prop}:OkS (BH it T b k ρ S) Q=Ok (it ρ S) λnx c=>OkS (fC nx T b k 0 ρ c) Q:=by
 apply propext;unfold BH;constructor
 ·rintro⟨f,j,c,e,q⟩;cases h:it ρ S with
  |none=>rw[h] at e;cases e
  |some r=>rw[h] at e;exact⟨_,_,rfl,_,_,_,e,q⟩
 ·rintro⟨d,l,e,q⟩;rw[e];exact q
abbrev out(Q:D->Sto->Prop)(f:Fl)(_:Rho)(S:Sto):Prop:=match f with
 |.rt v=>Q v S
 |.nx=>Q .non S
 |_=>False
def L9{Q:D->Sto->Prop}{d:D}:out Q (.rt d) ρ S=Q d S:=rfl
def Ma{Q:D->Sto->Prop}:out Q .nx ρ S=Q .non S:=rfl
def ax{ae:List DefE}{k f:Nat}{d:DefE}{b:List D}{Q:D->Sto->Prop}(hd:ae[f]?=aw d)(c:b.map aw++ZN (d.N.length - b.length) aD=ρ)(h:OkS (gL (evC ae k) (gM ae) 60 d.body ρ S) (out Q))(u:d.ks=aD:=by rfl):Ok (evC ae (k+1) f b S) Q:=by
 subst c;simp only[evC,hd,u,LZ];obtain⟨l,j,y,e,q⟩:=h;show Ok (match gL (evC ae k) (gM ae) FU d.body _ S with |some (.rt v,_,S')=>aw (v,S') |some (.nx,_,S')=>aw (.non,S') |_=>aD) Q;unfold FU;rw[e];cases l with
 |rt v=>exact⟨_,_,rfl,q⟩
 |nx=>exact⟨_,_,rfl,q⟩
 |bk=>exact q.elim
 |ct=>exact q.elim
def oU{nx:Nxt}{T:Tg}{c:XA}{N:Nat}(I:Nat->List D->Sto->Prop)
  (step:∀i b S,i < N->I i b S->∃d j,nx i S=aw (aw d)/\aC T d ρ=aw j/\Ok (c j S) λl q=>I (i+1) (b++l) q) (stop:∀b S,I N b S->nx N S=aw aD) :
  ∀ (n i k:Nat) (b:List D) (S:Sto),N=i+n->n < k->I i b S->Ok (bq nx T c ρ k i S) λl S'=>I N (b++l) S'
 |0,i,k+1,b,S,hN,hk,h=>by
  obtain rfl:N=i:=by omega
  simp only[bq,stop b S h];exact⟨_,_,rfl,by show I _ (b++[]) S;rw[Z0];exact h⟩
 |n+1,i,k+1,b,S,hN,hk,h=>by
  obtain⟨d,j,u,z,l,q,v,J⟩:=step i b S (by omega) h;simp only[bq,u,z,v,bnd];obtain⟨C,y,B,L⟩:=oU I step stop n (i+1) k (b++l) q (by omega) (by omega) J;simp only[B];exact⟨_,_,rfl,by show I _ (b++(l++C)) y;rw[<-Yu];exact L⟩
def gh{nx:Nxt}{T:Tg}{c:XA}{k:Nat}(N:Nat)(I:Nat->List D->Sto->Prop)(u:N < k)
  (step:∀i b S,i < N->I i b S->∃d j,nx i S=aw (aw d)/\aC T d ρ=aw j/\Ok (c j S) λl q=>I (i+1) (b++l) q) (stop:∀b S,I N b S->nx N S=aw aD) (h:I 0 [] S) :
  Ok (bq nx T c ρ k 0 S) (I N):=(oU I step stop N 0 k [] S (by omega) u h).mono λl S' z=>by rw[XJ] at z;exact z
def mJ{nx:Nxt}{T:Tg}{b:XS}{N:Nat}{Q:Fl->Rho->Sto->Prop}(I:Nat->Rho->Sto->Prop)
  (step:∀i ρ S,i < N->I i ρ S->∃d j,nx i S=aw (aw d)/\aC T d ρ=aw j/\OkS (b j S) λu c l=>match u with |.nx=>I (i+1) c l |.ct=>I (i+1) c l |.bk=>Q .nx c l |.rt d=>Q (.rt d) c l)
  (stop:∀ρ S,I N ρ S->nx N S=aw aD/\Q .nx ρ S) :
  ∀ (n i k:Nat) (ρ:Rho) (S:Sto),N=i+n->n < k->I i ρ S->OkS (fC nx T b k i ρ S) Q
 |0,i,k+1,ρ,S,hN,hk,h=>by
  obtain rfl:N=i:=by omega
  simp only[fC,(stop ρ S h).1];exact⟨_,_,_,rfl,(stop ρ S h).2⟩
 |n+1,i,k+1,ρ,S,hN,hk,h=>by
  obtain⟨d,j,v,z,u,c,l,y,q⟩:=step i ρ S (by omega) h;simp only[fC,v,z,y];cases u with
  |nx=>exact mJ I step stop n (i+1) k c l (by omega) (by omega) q
  |ct=>exact mJ I step stop n (i+1) k c l (by omega) (by omega) q
  |bk=>exact⟨_,_,_,rfl,q⟩
  |rt d=>exact⟨_,_,_,rfl,q⟩
def kM{nx:Nxt}{T:Tg}{b:XS}{k:Nat}{Q:Fl->Rho->Sto->Prop}(N:Nat)(I:Nat->Rho->Sto->Prop)(u:N < k)
  (step:∀i ρ S,i < N->I i ρ S->∃d j,nx i S=aw (aw d)/\aC T d ρ=aw j/\OkS (b j S) λq c l=>match q with |.nx=>I (i+1) c l |.ct=>I (i+1) c l |.bk=>Q .nx c l |.rt d=>Q (.rt d) c l)
  (stop:∀ρ S,I N ρ S->nx N S=aw aD/\Q .nx ρ S) (h:I 0 ρ S):OkS (fC nx T b k 0 ρ S) Q:=mJ I step stop N 0 k ρ S (by omega) u h
end
mutual
noncomputable def TD(p:Nat)(S:Sto):Dw.D->D->Prop
 |.non,d=>d = .non
 |.bl b,d=>d = .bl b
 |.int i,d=>d = .int i
 |.str x,d=>d = .str x
 |.tup ts,d=>∃c,d = .tup c/\TDs p S ts c
 |.lst ts,d=>∃n c,d = .ref n/\n ≠ p/\S[n]?=aw (.lst c)/\TDs p S ts c
 |.dic _ _,_=>False
noncomputable def TDs(p:Nat)(S:Sto):List Dw.D->List D->Prop
 |[],ds=>ds=[]
 |t::ts,ds=>∃d r,ds=d::r/\TD p S t d/\TDs p S ts r
end
abbrev Kp(p:Nat)(S b:Sto):Prop:=∀i o,i ≠ p->S[i]?=aw o->b[i]?=aw o
abbrev Sm(S b:Sto):Prop:=∀ (i:Nat) (o:Ob),S[i]?=aw o->b[i]?=aw o
def Sm.kp{p:Nat}{S S':Sto}(h:Sm S S'):Kp p S S':=λi o _ e=>h i o e
def Sm.refl(S:Sto):Sm S S:=λ_ _ e=>e
def Sm.trans{S c S2:Sto}(a:Sm S c)(b:Sm c S2):Sm S S2:=λi o e=>b i o (a i o e)
def Sm.app(S X:Sto):Sm S (S++X):=λi o e=>by
 have hi:=(Zb.mp e).1;rw[Zv hi];exact e
def Kp.refl(p:Nat)(S:Sto):Kp p S S:=λ_ _ _ e=>e
def Kp.trans{p:Nat}{S c S2:Sto}(a:Kp p S c)(b:Kp p c S2):Kp p S S2:=λi o n e=>b i o n (a i o n e)
section
variable {p:Nat} {S S':Sto}
def Mb:TD p S .non .non:=by rw[TD]
def bZ{i:Int}:TD p S (.int i) (.int i):=by rw[TD]
def dk{T:List Dw.D}{d:List D}(h:TDs p S T d):TD p S (.tup T) (.tup d):=by rw[TD];exact⟨d,rfl,h⟩
def cI:TDs p S [] []:=by rw[TDs]
def aJ{t:Dw.D}{d:D}{T:List Dw.D}{b:List D}(h:TD p S t d)(q:TDs p S T b):TDs p S (t::T) (d::b):=by rw[TDs];exact⟨d,b,rfl,h,q⟩
def TD.non{d:D}(h:TD p S .non d):d = .non:=by rw[TD] at h;exact h
def TD.bl{b:Bool}{d:D}(h:TD p S (.bl b) d):d = .bl b:=by rw[TD] at h;exact h
def TD.int{i:Int}{d:D}(h:TD p S (.int i) d):d = .int i:=by rw[TD] at h;exact h
def TD.str{x:Str}{d:D}(h:TD p S (.str x) d):d = .str x:=by rw[TD] at h;exact h
def TD.tup{T:List Dw.D}{d:D}(h:TD p S (.tup T) d):∃ds,d = .tup ds/\TDs p S T ds:=by rw[TD] at h;exact h
def TDs.cons{t:Dw.D}{T:List Dw.D}{b:List D}(h:TDs p S (t::T) b):∃d r,b=d::r/\TD p S t d/\TDs p S T r:=by rw[TDs] at h;exact h
def TDs.nil{d:List D}(h:TDs p S [] d):d=[]:=by rw[TDs] at h;exact h
def TDs.len:∀ {T:List Dw.D} {b:List D},TDs p S T b->b.length=T.length
 |[],_,h=>by rw[h.nil];rfl
 |t::T,_,h=>by obtain⟨d,r,rfl,_,q⟩:=h.cons;simp[q.len]
abbrev tyT:Dw.D->String
 |.non => "NoneType" |.bl _ => "bool" |.int _ => "int" |.str _ => "str" |.tup _ => "tuple" |.lst _ => "list" |.dic _ _ => "dict"
def QF{t:Dw.D}{d:D}(h:TD p S t d):tyN d S=aw (tyT t):=by
 cases t with
 |non=>rw[h.non];rfl
 |bl _=>rw[h.bl];rfl
 |int _=>rw[h.int];rfl
 |str _=>rw[h.str];rfl
 |tup _=>obtain⟨_,rfl,_⟩:=h.tup;rfl
 |lst _=>rw[TD] at h;obtain⟨n,b,rfl,_,e,_⟩:=h;simp only[tyN,e];rfl
 |dic _ _=>rw[TD] at h;exact h.elim
def qD{ty:Ty}{t:Dw.D}{d:D}(h:TD p S t d):lW ty d S=aw (.bl (fO ty (tyT t)),S):=by
 unfold lW;rw[QF h];rfl
end
def Gp{n:Nat}:Ok (sS g n x c S) Q=Ok (x c S) λd b=>d.length=n/\Ok (g d b) Q:=by
 unfold sS;rw[bF]
 congr 1
 funext d b
 rw[dj,be];apply propext;split
 ·rename_i h;exact⟨λz=>⟨h,z⟩,λz=>z.2⟩
 ·rename_i h;exact⟨λz=>z.elim,λz=>(h z.1).elim⟩
def Mc:Ok (BL x y c S) Q=Ok (x c S) λd S1=>∃b,d = .bl b/\if b=aN then Ok (y c S1) Q else Q (.bl aS) S1:=by
 unfold BL;rw[bF]
 congr 1
 funext d S1
 apply propext;cases d with
 |bl b=>cases b <;> simp[aI]
 |_=>simp[be]
def QG:Ok (xOr x y j S) Q=Ok (x j S) λd c=>∃b,d = .bl b/\if b=aN then Q (.bl aN) c else Ok (y j c) Q:=by
 unfold xOr;rw[bF]
 congr 1
 funext d c
 apply propext;cases d with
 |bl b=>cases b <;> simp[aI]
 |_=>simp[be]
def Md:Ok (zn d S) Q=∃b,d = .bl b/\Q (.bl (!b)) S:=by
 apply propext;cases d with
 |bl b=>simp[zn,aI]
 |_=>simp[zn,be]
def Me:Ok (zo f g x y z d S) Q=Ok (x d S) λa j=>Ok (y d j) λb k=>Ok (f a b k) λr S3=>∃c,r = .bl c/\if c=aN then Ok (z d S3) λe l=>Ok (g b e l) Q else Q (.bl aS) S3:=by
 unfold zo;rw[bF]
 congr 1
 funext a j
 rw[bF]
 congr 1
 funext b k
 rw[bF]
 congr 1
 funext r S3
 apply propext;cases r with
 |bl c=>cases c <;> simp[aI,bF]
 |_=>simp[be]
def Mf{i:Nat}:Ok (yW i b S) Q=∃d,b[i]?=aw (aw d)/\Q d S:=by
 apply propext;unfold yW;cases h:b[i]? with
 |none=>simp[be]
 |some o=>cases o with
  |none=>simp[be]
  |some d=>simp[aI]
def QH{i j:Int}:Ok (ak .le (.int i) (.int j) S) Q=Q (.bl (decide (i<=j))) S:=aI
def QI{i j:Int}:Ok (ak .lt (.int i) (.int j) S) Q=Q (.bl (decide (i < j))) S:=aI
def QJ{i j:Int}:Ok (ak .gt (.int i) (.int j) S) Q=Q (.bl (decide (j < i))) S:=aI
def QK{i j:Int}:Ok (ak .ge (.int i) (.int j) S) Q=Q (.bl (decide (j<=i))) S:=aI
def Mg{i j:Int}:Ok (bL .add (.int i) (.int j) S) Q=Q (.int (i+j)) S:=aI
def Mh{i j:Int}:Ok (bL .sub (.int i) (.int j) S) Q=Q (.int (i - j)) S:=aI
def QL:Ok (xB x c S) Q=Ok (x c S) λd S1=>∃b,d = .bl b/\Q b S1:=by
 unfold xB;rw[bF]
 congr 1
 funext d S1
 apply propext;cases d with
 |bl b=>simp[aI]
 |_=>simp[be]
def Gq{own k:Nat}:Ok (lY own it T c k d S) Q=Ok (it d S) λnx j=>dA T (d++ZN own aD)=aN/\Ok (bq nx T c (d++ZN own aD) k 0 j) λb S2=>b.length<=100000/\Q b S2:=by
 unfold lY;rw[bF]
 congr 1
 funext nx j
 rw[dj,be];apply propext
 have e:Ok (bnd (bq nx T c (d++ZN own aD) k 0 j) λb S2=>if b.length<=100000 then aw (b,S2) else aD) Q=Ok (bq nx T c (d++ZN own aD) k 0 j) λb S2=>b.length<=100000/\Q b S2:=by
  rw[bF]
  congr 1
  funext b S2
  rw[dj,be,aI];apply propext;split
  ·rename_i h;exact⟨λz=>⟨h,z⟩,λz=>z.2⟩
  ·rename_i h;exact⟨λz=>z.elim,λz=>(h z.1).elim⟩
 rw[e];split
 ·rename_i h;exact⟨λz=>⟨h,z⟩,λz=>z.2⟩
 ·rename_i h;exact⟨λz=>z.elim,λz=>(h z.1).elim⟩
def CJ{k:Nat}:Ok (jy it T c k b S) Q=(dA T b=aN/\Ok (it b S) λnx d=>Ok (bq nx T c b k 0 d) Q):=by
 unfold jy;rw[dj,be,bF];apply propext;split
 ·rename_i h;exact⟨λz=>⟨h,z⟩,λz=>z.2⟩
 ·rename_i h;exact⟨λz=>z.elim,λz=>(h z.1).elim⟩
def Gr:Ok (oe x b S) Q=Ok (x b S) λd S1=>d.length<=1000/\Q d S1:=by
 unfold oe;rw[bF]
 congr 1
 funext d S1
 rw[dj,be,aI];apply propext;split
 ·rename_i h;exact⟨λz=>⟨h,z⟩,λz=>z.2⟩
 ·rename_i h;exact⟨λz=>z.elim,λz=>(h z.1).elim⟩
def Gu:Ok (lJ d S) Q=(d.length<=1000/\Q (.tup d) S):=by
 unfold lJ;rw[dj,be,aI];apply propext;split
 ·rename_i h;exact⟨λz=>⟨h,z⟩,λz=>z.2⟩
 ·rename_i h;exact⟨λz=>z.elim,λz=>(h z.1).elim⟩
def kN{b:Type}(l:List b)(g:b->Bool)(S:Sto):kE aS (l.map λt=>D.bl (g t)) S=aw (.bl (l.all g),S):=by
 unfold kE;have c:(l.map λt=>D.bl (g t)).all y7=aN:=by rw[YQ];simp[Function.comp_def,y7]
 have d:(l.map λt=>D.bl (g t)).all nv=l.all g:=by rw[YQ];rfl
 rw[if_pos ⟨rfl,c⟩,d]
def Gv{S:Sto}{n:Nat}{lo:Int}{T:Tg}{c:XA}{y:Rho}{Q:List D->Sto->Prop}(hl:n<=100000)(g:Nat->Bool)
  (step:∀ (i:Nat) b,i < n->Sm S b->∃d,aC T (.int (lo+i)) y=aw d/\Ok (c d b) λk u=>k=[.bl (g i)]/\Sm b u) (q:∀b,Sm S b->Q ((Zg n).map λi=>.bl (g i)) b) :
  Ok (bq (nxR lo n) T c y LF 0 S) λk S2=>k.length<=100000/\Q k S2:=by
 refine(gh n (λi j b=>Sm S b/\j=(Zg i).map λt=>.bl (g t)) (by unfold LF;lia) (λi j b hi ⟨sm,l⟩=>?_) (λj b ⟨sm,l⟩=>?_) ⟨Sm.refl S,by simp⟩).mono λk b ⟨sm,l⟩=>?_
 ·obtain⟨d,B,k,u,z,rfl,v⟩:=step i b hi sm;refine⟨_,d,by show aw (if i < n then aw (D.int (lo+i)) else aD)=_;rw[if_pos hi],B,_,u,z,sm.trans v,?_⟩;rw[l,Xo,ZQ];rfl
 ·show aw (if n < n then aw (D.int (lo+n)) else aD)=_;rw[if_neg (ZL n)]
 ·subst l;exact⟨by rw[Za,ZB];exact hl,q b sm⟩
def v5{m n:Nat}(z:S[m]?=aw (.lst ((Zg n).map λj=>.int (Int.ofNat j))))(J:n<=1000)(f:Nat->List D)
  (step:∀ (i:Nat) b,i < n->Sm S b->∃d,aC T (.int i) B=aw d/\Ok (c d b) λl u=>l=f i/\Sm b u):Ok (bq (nxS m) T c B LF 0 S) λl S2=>l=(Zg n).flatMap f/\Sm S S2:=by
 refine(gh n (λi k b=>Sm S b/\k=(Zg i).flatMap f) (by unfold LF;lia) (λi k b hi ⟨sm,q⟩=>?_) (λk b ⟨sm,q⟩=>?_) ⟨Sm.refl S,by simp⟩).mono λl b ⟨sm,q⟩=>⟨q,sm⟩
 ·obtain⟨d,I,l,u,C,rfl,v⟩:=step i b hi sm;refine⟨.int i,d,?_,I,_,u,C,sm.trans v,?_⟩
  ·show(aQ b m).map (λy=>y[i]?)=_;simp only[aQ,sm _ _ z,ZK,Zl,Z6 hi];rfl
  ·rw[q,Dw.n9]
 ·show(aQ b m).map (λy=>y[n]?)=_;simp only[aQ,sm _ _ z,ZK];rw[Zr (by simp)]
def CK:Ok (dM x c S) Q=Ok (x c S) λd b=>Q (.ref b.length) (b++[.lst d]):=by
 unfold dM;rw[bF]
 congr 1
 funext d b
 rw[aI]
def Mi(h:Ok (x c S) λd b=>∃i:Nat,d = .int i/\i<=1000/\Q ((Zg i).map λj=>.int (Int.ofNat j)) b):Ok (zx x c S) Q:=by
 unfold zx;rw[bF];refine h.mono λd b ⟨i,e,hi,q⟩=>?_;subst e;dsimp only;rw[if_pos (by lia),aI,ZG];exact q
def tK(is:List Int):(is.map D.int).all cL=aN:=by rw[YQ];simp[Function.comp_def,cL]
def CL(is:List Int)(i:Int)(S:Sto):vJ (.tup (is.map D.int)) [.int i] S=aw (.int (is.count i:Nat),S):=by
 have e:((is.map D.int).countP λz=>eqF z (.int i))=is.count i:=by
  rw[List.countP_map];unfold List.count
  congr 1
 simp only[vJ];rw[if_pos ⟨rfl,tK is⟩,e]
def i6(neg:Bool)(is:List Int)(i:Int)(S:Sto):inS neg (.int i) (.tup (is.map D.int)) S=aw (.bl (neg != decide (i ∈ is)),S):=by
 have e:inF (.int i) (is.map D.int)=decide (i ∈ is):=by
  unfold inF;rw[XF,Yh,Yz];simp only[Function.comp_def,eqF,beq_iff_eq,decide_eq_true_eq];exact⟨λ⟨x,b,e⟩=>e ▸ b,λh=>⟨i,h,rfl⟩⟩
 simp only[inS,ao];rw[if_pos ⟨rfl,tK is⟩,e]
def qE(i j:Int)(S:Sto):ak .eq (.int i) (.int j) S=aw (.bl (decide (i=j)),S):=by
 simp only[ak,eqS];have:eqD 60 S (.int i) (.int j)=aw (i == j):=rfl;rw[this];rfl
def Gw(i j:Int)(S:Sto):ak .ne (.int i) (.int j) S=aw (.bl (!decide (i=j)),S):=wR (x:=.int i) (y:=.int j) (b:=decide (i=j)) rfl
def Mj{i j:Int}:Ok (ak .eq (.int i) (.int j) S) Q=Q (.bl (decide (i=j))) S:=by rw[qE,aI]
def Ml{i j:Int}:Ok (ak .ne (.int i) (.int j) S) Q=Q (.bl (!decide (i=j))) S:=by rw[Gw,aI]
def Gx{i:Nat}:aC (.name i) d b=if i < b.length then aw (b.set i (aw d)) else aD:=by simp only[aC]
def CM:aC (.tup T) (.tup d) ρ=aO T d ρ:=by simp only[aC]
def xP:aO [] [] ρ=aw ρ:=by simp only[aO]
def tL{i:Nat}:aO (.name i::T) (d::k) c=if i < c.length then aO T k (c.set i (aw d)) else aD:=by
 simp only[aO,aC];split
 ·rename_i j h;split at h
  ·rename_i b;cases h;rw[if_pos b]
  ·cases h
 ·rename_i h;split at h
  ·cases h
  ·rename_i b;rw[if_neg b]
def qF{i j:Nat}(d:i < c.length)(k:j < c.length):aC (.tup [.name i,.name j]) (.tup [a,b]) c=aw ((c.set i (aw a)).set j (aw b)):=by
 rw[CM,tL,if_pos d,tL,if_pos (by rw[Yc];exact k),xP]
def aP{a:Nat}(h:S[a]?=aw (.lst es)):aQ S a=aw es:=by simp only[aQ,h]
def CN(d:List D)(k:Nat)(b:k<=d.length):jm d aD (aw (k:Int))=d.take k:=by
 unfold jm;rw[Dw.A8 _ _ (by lia),ZG,Nat.min_eq_left b];rfl
def Mn{p:Nat}(h:TDs p S T d):aq c9 (.tup d) S=aw (.int T.length,S):=by
 simp only[aq,ao,c9,h.len]
section
variable {S S' S1 S2:Sto} {p:Nat} {Q:D->Sto->Prop} {ρ:Rho}
def Mo{i j:Int}:Ok (bL .mod (.int i) (.int j) S) Q=(0 < j/\Q (.int (i % j)) S):=by
 simp only[bL,KQ,dj,aI,be];apply propext;split
 ·rename_i h;exact⟨λz=>⟨h,z⟩,λz=>z.2⟩
 ·rename_i h;exact⟨λz=>z.elim,λz=>(h z.1).elim⟩
def Gy{i j:Int}:Ok (bL .fdiv (.int i) (.int j) S) Q=((0 < j/\j < 1298074214633706907132624082305024)/\Q (.int (i / j)) S):=by
 simp only[bL,Bi,dj,aI,be];apply propext;split
 ·rename_i h;exact⟨λz=>⟨h,z⟩,λz=>z.2⟩
 ·rename_i h;exact⟨λz=>z.elim,λz=>(h z.1).elim⟩
def Mp{i j:Int}:Ok (bL .mul (.int i) (.int j) S) Q=(gP i j=aN/\Q (.int (i * j)) S):=by
 simp only[bL,yY,dj,aI,be];apply propext;split
 ·rename_i h;exact⟨λz=>⟨h,z⟩,λz=>z.2⟩
 ·rename_i h;exact⟨λz=>z.elim,λz=>(h z.1).elim⟩
def Mq{i j:Int}:Ok (bL .pow (.int i) (.int j) S) Q=((0<=j/\j<=1000000/\i.natAbs < 2 ^ 64)/\Q (.int (i ^ j.toNat)) S):=by
 simp only[bL,KR,dj,aI,be];apply propext;split
 ·rename_i h;exact⟨λz=>⟨h,z⟩,λz=>z.2⟩
 ·rename_i h;exact⟨λz=>z.elim,λz=>(h z.1).elim⟩
def xQ{i j:Int}(b:-(2 ^ 64) < j)(c:j < 2 ^ 64):gP i j=aN:=by simp only[gP,YH,bAE,decide_eq_true_eq];exact .inr ⟨b,c⟩
def qG{i j:Int}(b:-(2 ^ 64) < i)(c:i < 2 ^ 64):gP i j=aN:=by simp only[gP,YH,bAE,decide_eq_true_eq];exact .inl ⟨b,c⟩
abbrev Pot(p:Nat)(S:Sto):Prop:=∃n:Int,S[p]?=aw (.lst [.int n])
structure Dr(p:Nat)(S S':Sto):Prop where
 kp:Kp p S S'
 pot:Pot p S'
def Dr.refl(h:Pot p S):Dr p S S:=⟨Kp.refl p S,h⟩
def Dr.trans(a:Dr p S S1)(b:Dr p S1 S2):Dr p S S2:=⟨a.kp.trans b.kp,b.pot⟩
def Dr.sm(h:Pot p S)(s:Sm S S'):Dr p S S':=⟨s.kp,let ⟨n,e⟩:=h;⟨n,s _ _ e⟩⟩
def Dr.thenSm(a:Dr p S S1)(s:Sm S1 S2):Dr p S S2:=a.trans (Dr.sm a.pot s)
def Pot.lt(h:Pot p S):p < S.length:=let ⟨_,e⟩:=h;(Zb.mp e).1
def Mr:Kp p S (S.set p o):=λi u n e=>by rw[Zx (Ne.symm n)];exact e
def gj(h:p < S.length):(S.set p o)[p]?=aw o:=by rw[ZU h]
def mL{n:Nat}{lo:Int}{T:Tg}{b:XS}{Q:Fl->Rho->Sto->Prop}(hl:n<=100000)(I:Nat->Rho->Sto->Prop)
  (step:∀ (i:Nat) ρ S,i < n->I i ρ S->∃j,aC T (.int (lo+i)) ρ=aw j/\OkS (b j S) λl c S2=>match l with |.nx=>I (i+1) c S2 |.ct=>I (i+1) c S2 |.bk=>Q .nx c S2 |.rt d=>Q (.rt d) c S2)
  (q:∀ρ S',I n ρ S'->Q .nx ρ S') (v:I 0 ρ S):OkS (fC (nxR lo n) T b LF 0 ρ S) Q:=by
 refine kM n I (by unfold LF;lia) (λi ρ S' hi k=>?_) (λρ S' k=>⟨?_,q ρ S' k⟩) v
 ·obtain⟨j,u,z⟩:=step i ρ S' hi k;exact⟨_,j,by show aw (if i < n then aw (D.int (lo+i)) else aD)=_;rw[if_pos hi],u,z⟩
 ·show aw (if n < n then aw (D.int (lo+n)) else aD)=_;rw[if_neg (ZL n)]
def v7{n:Nat}{lo:Int}{T:Tg}{c:XA}{Q:List D->Sto->Prop}(hl:n<=100000)(I:Nat->List D->Sto->Prop)
  (step:∀ (i:Nat) b S',i < n->I i b S'->∃d,aC T (.int (lo+i)) ρ=aw d/\Ok (c d S') λj S1=>I (i+1) (b++j) S1) (q:∀j S',I n j S'->j.length<=100000/\Q j S') (u:I 0 [] S) :
  Ok (bq (nxR lo n) T c ρ LF 0 S) λj S2=>j.length<=100000/\Q j S2:=by
 refine(gh n I (by unfold LF;lia) (λi b S' hi k=>?_) (λb S' k=>?_) u).mono q
 ·obtain⟨d,l,z⟩:=step i b S' hi k;exact⟨_,d,by show aw (if i < n then aw (D.int (lo+i)) else aD)=_;rw[if_pos hi],l,z⟩
 ·show aw (if n < n then aw (D.int (lo+n)) else aD)=_;rw[if_neg (ZL n)]
def Ms:Ok (vf x y ρ S) Q=Ok (x ρ S) λb S1=>Ok (y ρ S1) λi S2=>∃k,i = .int k/\∃d,atI b k=aw d/\Q d S2:=by
 unfold vf;rw[bF]
 congr 1
 funext b S1
 rw[bF]
 congr 1
 funext i S2
 apply propext;cases i with
 |int k=>simp[L7]
 |_=>simp[be]
def Mu{i:Int}(b:0<=i)(c:i < ds.length):∃d,atI ds i=aw d/\ds[i.toNat]?=aw d:=by
 have hi:i.toNat < ds.length:=by lia
 refine⟨ds[i.toNat],?_,gEG hi⟩;unfold atI ixN;rw[if_pos b,if_pos (by lia)];exact gEG hi
def mM{nx:Nxt}{T:Tg}{c:XA}{Q:List D->Sto->Prop}(n:Nat)(u:Nat->D)(I:Nat->List D->Sto->Prop)(k:∀i b S',i<=n->I i b S'->nx i S'=aw (if i < n then aw (u i) else aD))(hl:n<=100000)
  (step:∀ (i:Nat) b S',i < n->I i b S'->∃d,aC T (u i) ρ=aw d/\Ok (c d S') λj S1=>I (i+1) (b++j) S1) (q:∀j S',I n j S'->j.length<=100000/\Q j S') (y:I 0 [] S) :
  Ok (bq nx T c ρ LF 0 S) λj S2=>j.length<=100000/\Q j S2:=by
 refine(gh n I (by unfold LF;lia) (λi b S' hi l=>?_) (λb S' l=>?_) y).mono q
 ·obtain⟨d,v,z⟩:=step i b S' hi l;exact⟨_,d,by rw[k i b S' (by lia) l,if_pos hi],v,z⟩
 ·rw[k n b S' (Zj _) l,if_neg (ZL n)]
def CO{m i:Nat}(h:S[m]?=aw (.lst b))(c:Nat->D)(j:∀i d,b[i]?=aw d->c i=d):nxS m i S=aw (if i < b.length then aw (c i) else aD):=by
 show(aQ S m).map (λb=>b[i]?)=_;rw[aP h,ZK];split
 ·rename_i hi;rw[gEG hi,j i _ (gEG hi)]
 ·rename_i hi;rw[Zr (by lia)]
structure RowsS(p:Nat)(S:Sto)(rs:List D)(M:List (List Int)):Prop where
 len:rs.length=M.length
 row:∀ (i:Nat) r,M[i]?=aw r->∃a,rs[i]?=aw (.ref a)/\a ≠ p/\S[a]?=aw (.lst (r.map D.int))
def RowsS.keep(h:RowsS p S c M)(k:Kp p S S'):RowsS p S' c M:=⟨h.len,λi r b=>let ⟨a,e,n,z⟩:=h.row i r b;⟨a,e,n,k _ _ n z⟩⟩
def RowsS.nil:RowsS p S [] []:=⟨rfl,λi r h=>by simp at h⟩
def RowsS.snoc{a:Nat}(h:RowsS p S k M)(n:a ≠ p)(z:S[a]?=aw (.lst (r.map D.int))):RowsS p S (k++[.ref a]) (M++[r]):=by
 refine⟨by simp[h.len],λi j c=>?_⟩;by_cases hi:i < M.length
 ·rw[Zv hi] at c;obtain⟨b,e,nb,Z⟩:=h.row i j c;exact⟨b,by rw[Zv (by rw[h.len];exact hi)];exact e,nb,Z⟩
 ·rw[Zp (by lia)] at c
  have d:i - M.length=0:=by
   have:=(Zb.mp c).1;simp at this;lia
  rw[d] at c;cases c;exact⟨a,by rw[Zp (by rw[h.len];lia),h.len,d];rfl,n,z⟩
def bh:(S++[o])[S.length]?=aw o:=by rw[Zp (Zj _),Yd];rfl
def Kp.setNew{f:Nat}(h:Kp p S S')(b:S.length<=f):Kp p S (S'.set f o):=λi u n e=>by
 have hi:=(Zb.mp e).1;rw[Zx (by lia)];exact h i u n e
def Pot.setNe{f:Nat}(h:Pot p S)(b:f ≠ p):Pot p (S.set f o):=by
 obtain⟨n,e⟩:=h;exact⟨n,by rw[Zx b];exact e⟩
abbrev au(q:Int × Int):D:=.tup [.int q.1,.int q.2]
def i7:∀ (b:List (Int × Int)),TDs p S (b.map Dw.xf) (b.map au)
 |[]=>cI
 |e::b=>aJ (dk (aJ bZ (aJ bZ cI))) (i7 b)
def mN{f:Nat}(h:S[f]?=aw (.lst d))(hl:d.length < 100000):Ok (sL (.ref f) [e] S) Q=Q .non (S.set f (.lst (d++[e]))):=by
 simp only[sL,chg,h];rw[if_pos hl];exact aI
def gk{f:Nat}(h:S[f]?=aw (.lst d)):fP (.ref f) S=aN:=by simp only[fP,aP h];rfl
def qH{f:Nat}(h:S[f]?=aw (.lst (ds++[e]))):ixS (.ref f) (.int (-1)) S=aw (e,S):=by
 have:atI (ds++[e]) (-1:Int)=aw e:=by
  unfold atI ixN;rw[if_neg (by decide),if_pos (by rw[Zf,Zq];lia)];show(ds++[e])[((-1:Int)+((ds++[e]).length:Int)).toNat]?=aw e;have:((-1:Int)+((ds++[e]).length:Int)).toNat=ds.length:=by rw[Zf,Zq];lia
  rw[this,Zp (Zj _),Yd];rfl
 simp only[ixS,ao,aP h,ZK,this]
def AL{i:Nat}(h:b[i]?=aw d):ixS (.tup b) (.int i) S=aw (d,S):=by
 have hi:=(Zb.mp h).1
 have c:atI b (i:Int)=aw d:=by
  unfold atI ixN;rw[if_pos (by lia),if_pos (by lia),ZG];exact h
 simp only[ixS,ao,c,ZK]
def w5{i:Nat}(h:b[i]?=aw d):atI b (i:Int)=aw d:=by
 have hi:=(Zb.mp h).1;unfold atI ixN;rw[if_pos (by lia),if_pos (by lia),ZG];exact h
def Gz:ak .eq (.tup d) (.tup []) S=aw (.bl d.isEmpty,S):=by
 simp only[ak,eqS]
 have:eqD 60 S (.tup d) (.tup [])=aw d.isEmpty:=by
  cases d <;> rfl
 rw[this];rfl
def GA:ak .ne (.tup d) (.tup []) S=aw (.bl (!d.isEmpty),S):=wR (x:=.tup d) (y:=.tup []) (b:=d.isEmpty) (by cases d <;> rfl)
def Mv:Ok (bL .add (.tup xs) (.tup y) S) Q=(xs.length+y.length<=1000/\Q (.tup (xs++y)) S):=by
 simp only[bL,kD,dj,aI,be];apply propext;split
 ·rename_i h;exact⟨λz=>⟨h,z⟩,λz=>z.2⟩
 ·rename_i h;exact⟨λz=>z.elim,λz=>(h z.1).elim⟩
end
@[inline]abbrev WP(b:Type):=Rho->Sto->(b->Sto->Prop)->Prop
abbrev Sd{c:Type}(w:WP c)(x:Rho->Sto->Option (c × Sto)):Prop:=∀b S Q,w b S Q->Ok (x b S) Q
def a8{c b:Type}{x:Option (c × Sto)}{f:c->Sto->Option (b × Sto)}{Q:b->Sto->Prop}(h:Ok x λa S=>Ok (f a S) Q):Ok (bnd x f) Q:=bF ▸ h
def bz{b:Type}{a:b}{S:Sto}{Q:b->Sto->Prop}(h:Q a S):Ok (aw (a,S)) Q:=⟨_,_,rfl,h⟩
abbrev wIf(b:Bool)(A B:Prop):Prop:=match b with
 |true=>A
 |false=>B
abbrev wBl(d:D)(Q:Bool->Prop):Prop:=match d with
 |.bl b=>Q b
 |.non=>False |.int _=>False |.str _=>False |.tup _=>False |.ref _=>False
abbrev cP(d:D)(Q:Int->Prop):Prop:=match d with
 |.int i=>Q i
 |.non=>False |.bl _=>False |.str _=>False |.tup _=>False |.ref _=>False
def mO{d:D}{Q:Bool->Prop}(h:wBl d Q):∃b,d = .bl b/\Q b:=by cases d <;> first |exact h.elim |exact⟨_,rfl,h⟩
def cJ{d:D}{Q:Int->Prop}(h:cP d Q):∃b,d = .int b/\Q b:=by cases d <;> first |exact h.elim |exact⟨_,rfl,h⟩
abbrev SF(o:Option D)(Q:D->Prop):Prop:=match o with
 |some d=>Q d
 |none=>False
abbrev v8:Rho->Nat->(D->Prop)->Prop
 |[],_,_=>False
 |o::_,0,Q=>SF o Q
 |_::ρ,i+1,Q=>v8 ρ i Q
def xR:∀ {ρ:Rho} {i:Nat} {Q:D->Prop},v8 ρ i Q->∃d,ρ[i]?=aw (aw d)/\Q d
 |[],_,_,h=>h.elim
 |some d::_,0,_,h=>⟨d,rfl,h⟩
 |none::_,0,_,h=>h.elim
 |o::ρ,i+1,_,h=>by rw[YA];exact xR (ρ:=ρ) h
abbrev QM(i:Nat):WP D:=λb S Q=>v8 b i λd=>Q d S
def QN{i:Nat}:Sd (QM i) (yW i):=λb S Q h=>by
 rw[Mf];exact xR h
abbrev wC(d:D):WP D:=λ_ S Q=>Q d S
def s_c{d:D}:Sd (wC d) (xC d):=λ_ _ _ h=>bz h
abbrev GC(g:D->D->Sto->(D->Sto->Prop)->Prop)(x y:WP D):WP D:=λc S Q=>x c S λa d=>y c d λb j=>g a b j Q
def CP{g:D->D->Sto->(D->Sto->Prop)->Prop}{f:D->D->Sto->Option (D × Sto)}{w v:WP D}{x y:XE}(hw:Sd w x)(d:Sd v y)(c:∀ {a b S Q},g a b S Q->Ok (f a b S) Q):Sd (GC g w v) (sj f x y):=
 λ_ _ _ h=>a8 ((hw _ _ _ h).mono λ_ _ h=>a8 ((d _ _ _ h).mono λ_ _ h=>c h))
abbrev wUn{b β:Type}(g:b->Sto->(β->Sto->Prop)->Prop)(x:WP b):WP β:=λd S Q=>x d S λa c=>g a c Q
def GD{b c:Type}{g:b->Sto->(c->Sto->Prop)->Prop}{f:b->Sto->Option (c × Sto)}{w:WP b}{x:Rho->Sto->Option (b × Sto)}(hw:Sd w x)(d:∀ {a S Q},g a S Q->Ok (f a S) Q):Sd (wUn g w) (λj S=>bnd (x j S) f):=
 λ_ _ _ h=>a8 ((hw _ _ _ h).mono λ_ _ h=>d h)
abbrev wOk{c b:Type}(f:c->Sto->Option (b × Sto))(a:c)(S:Sto)(Q:b->Sto->Prop):Prop:=Ok (f a S) Q
abbrev wII:BOp->Int->Int->Sto->(D->Sto->Prop)->Prop
 |.add,i,j,S,Q=>Q (.int (i+j)) S
 |.sub,i,j,S,Q=>Q (.int (i - j)) S
 |.mul,i,j,S,Q=>gP i j=aN/\Q (.int (i * j)) S
 |.mod,i,j,S,Q=>0 < j/\Q (.int (i % j)) S
 |.fdiv,i,j,S,Q=>(0 < j/\j < 1298074214633706907132624082305024)/\Q (.int (i / j)) S
 |.pow,i,j,S,Q=>(0<=j/\j<=1000000/\i.natAbs < 2 ^ 64)/\Q (.int (i ^ j.toNat)) S
def Mw{o:BOp}{i j:Int}{S:Sto}{Q:D->Sto->Prop}(h:wII o i j S Q):Ok (bL o (.int i) (.int j) S) Q:=by
 cases o with
 |add=>rw[Mg];exact h
 |sub=>rw[Mh];exact h
 |mul=>rw[Mp];exact h
 |mod=>rw[Mo];exact h
 |fdiv=>rw[Gy];exact h
 |pow=>rw[Mq];exact h
abbrev wTT:BOp->List D->List D->Sto->(D->Sto->Prop)->Prop
 |.add,xs,ys,S,Q=>xs.length+ys.length<=1000/\Q (.tup (xs++ys)) S
 |.sub,_,_,_,_=>False
 |.mul,_,_,_,_=>False
 |.mod,_,_,_,_=>False
 |.fdiv,_,_,_,_=>False
 |.pow,_,_,_,_=>False
def Mx{o:BOp}{i j:List D}{S:Sto}{Q:D->Sto->Prop}(h:wTT o i j S Q):Ok (bL o (.tup i) (.tup j) S) Q:=by
 cases o with
 |add=>rw[Mv];exact h
 |_=>exact h.elim
abbrev CQ(o:BOp)(i:Int)(y:D)(S:Sto)(Q:D->Sto->Prop):Prop:=match y with
 |.int j=>wII o i j S Q
 |.non=>False |.bl _=>False |.str _=>False |.ref _=>False
 |.tup ys=>Ok (bL o (.int i) (.tup ys) S) Q
abbrev xS(o:BOp)(xs:List D)(y:D)(S:Sto)(Q:D->Sto->Prop):Prop:=match y with
 |.tup ys=>wTT o xs ys S Q
 |.non=>False |.bl _=>False |.str _=>False |.ref _=>False
 |.int j=>Ok (bL o (.tup xs) (.int j) S) Q
abbrev tM(o:BOp)(x y:D)(S:Sto)(Q:D->Sto->Prop):Prop:=match x with
 |.int i=>CQ o i y S Q
 |.tup xs=>xS o xs y S Q
 |.non=>Ok (bL o .non y S) Q
 |.bl b=>Ok (bL o (.bl b) y S) Q
 |.str b=>Ok (bL o (.str b) y S) Q
 |.ref b=>Ok (bL o (.ref b) y S) Q
def GF{o:BOp}{x y:D}{S:Sto}{Q:D->Sto->Prop}(h:tM o x y S Q):Ok (bL o x y S) Q:=by
 cases x with
 |int i=>cases y with
  |int j=>exact Mw h
  |tup Y=>exact h
  |_=>exact h.elim
 |tup X=>cases y with
  |int j=>exact h
  |tup Y=>exact Mx h
  |_=>exact h.elim
 |_=>exact h
abbrev wCI:COp->Int->Int->Sto->(D->Sto->Prop)->Prop
 |.eq,i,j,S,Q=>Q (.bl (decide (i=j))) S
 |.ne,i,j,S,Q=>Q (.bl (!decide (i=j))) S
 |.lt,i,j,S,Q=>Q (.bl (decide (i < j))) S
 |.le,i,j,S,Q=>Q (.bl (decide (i<=j))) S
 |.gt,i,j,S,Q=>Q (.bl (decide (j < i))) S
 |.ge,i,j,S,Q=>Q (.bl (decide (j<=i))) S
 |.is,_,_,_,_=>False
 |.isnot,_,_,_,_=>False
 |.isin,_,_,_,_=>False
 |.notin,_,_,_,_=>False
def My{o:COp}{i j:Int}{S:Sto}{Q:D->Sto->Prop}(h:wCI o i j S Q):Ok (ak o (.int i) (.int j) S) Q:=by
 cases o with
 |eq=>rw[Mj];exact h
 |ne=>rw[Ml];exact h
 |lt=>rw[QI];exact h
 |le=>rw[QH];exact h
 |gt=>rw[QJ];exact h
 |ge=>rw[QK];exact h
 |_=>exact h.elim
abbrev Mz(o:COp)(i:Int)(y:D)(S:Sto)(Q:D->Sto->Prop):Prop:=match y with
 |.int j=>wCI o i j S Q
 |.non=>Ok (ak o (.int i) .non S) Q
 |.bl b=>Ok (ak o (.int i) (.bl b) S) Q
 |.str b=>Ok (ak o (.int i) (.str b) S) Q
 |.ref b=>Ok (ak o (.int i) (.ref b) S) Q
 |.tup b=>Ok (ak o (.int i) (.tup b) S) Q
abbrev zE(o:COp)(xs:List D)(y:D)(S:Sto)(Q:D->Sto->Prop):Prop:=match o with
 |.eq=>match y with
  |.tup ys=>match ys with
   |[]=>Q (.bl xs.isEmpty) S
   |y::ys=>Ok (ak .eq (.tup xs) (.tup (y::ys)) S) Q
  |.non=>Ok (ak .eq (.tup xs) .non S) Q
  |.bl b=>Ok (ak .eq (.tup xs) (.bl b) S) Q
  |.str b=>Ok (ak .eq (.tup xs) (.str b) S) Q
  |.ref b=>Ok (ak .eq (.tup xs) (.ref b) S) Q
  |.int b=>Ok (ak .eq (.tup xs) (.int b) S) Q
 |.ne=>match y with
  |.tup ys=>match ys with
   |[]=>Q (.bl (!xs.isEmpty)) S
   |y::ys=>Ok (ak .ne (.tup xs) (.tup (y::ys)) S) Q
  |.non=>Ok (ak .ne (.tup xs) .non S) Q
  |.bl b=>Ok (ak .ne (.tup xs) (.bl b) S) Q
  |.str b=>Ok (ak .ne (.tup xs) (.str b) S) Q
  |.ref b=>Ok (ak .ne (.tup xs) (.ref b) S) Q
  |.int b=>Ok (ak .ne (.tup xs) (.int b) S) Q
 |.is=>Ok (ak .is (.tup xs) y S) Q
 |.isnot=>Ok (ak .isnot (.tup xs) y S) Q
 |.isin=>Ok (ak .isin (.tup xs) y S) Q
 |.notin=>Ok (ak .notin (.tup xs) y S) Q
 |.lt=>False |.le=>False |.gt=>False |.ge=>False
abbrev wCx(o:COp)(x y:D)(S:Sto)(Q:D->Sto->Prop):Prop:=match x with
 |.int i=>Mz o i y S Q
 |.tup xs=>zE o xs y S Q
 |.non=>Ok (ak o .non y S) Q
 |.bl b=>Ok (ak o (.bl b) y S) Q
 |.str b=>Ok (ak o (.str b) y S) Q
 |.ref b=>Ok (ak o (.ref b) y S) Q
def MA{o:COp}{x y:D}{S:Sto}{Q:D->Sto->Prop}(h:wCx o x y S Q):Ok (ak o x y S) Q:=by
 cases x with
 |int i=>cases y with
  |int j=>exact My h
  |_=>exact h
 |tup X=>cases o with
  |eq=>cases y with
   |tup Y=>cases Y with
    |nil=>rw[Gz,aI];exact h
    |cons y Y=>exact h
   |_=>exact h
  |ne=>cases y with
   |tup Y=>cases Y with
    |nil=>rw[GA,aI];exact h
    |cons y Y=>exact h
   |_=>exact h
  |lt=>exact h.elim
  |le=>exact h.elim
  |gt=>exact h.elim
  |ge=>exact h.elim
  |_=>exact h
 |_=>exact h
abbrev wCm(o:COp)(x y:D)(S:Sto)(Q:D->Sto->Prop):Prop:=match o with
 |.is=>Ok (ak .is x y S) Q
 |.isnot=>Ok (ak .isnot x y S) Q
 |.isin=>Ok (ak .isin x y S) Q
 |.notin=>Ok (ak .notin x y S) Q
 |.eq=>wCx .eq x y S Q
 |.ne=>wCx .ne x y S Q
 |.lt=>wCx .lt x y S Q
 |.le=>wCx .le x y S Q
 |.gt=>wCx .gt x y S Q
 |.ge=>wCx .ge x y S Q
def qI{o:COp}{x y:D}{S:Sto}{Q:D->Sto->Prop}(h:wCm o x y S Q):Ok (ak o x y S) Q:=by
 cases o <;> first |exact MA h |exact h
abbrev MB(o p:COp)(x y z:WP D):WP D:=λd S Q=>x d S λa k=>y d k λb q=>wCm o a b q λr j=>wBl r λc=>wIf c (z d j λe l=>wCm p b e l Q) (Q (.bl aS) j)
def Jy{o p:COp}{w v u:WP D}{x y z:XE}(hw:Sd w x)(j:Sd v y)(d:Sd u z):Sd (MB o p w v u) (zo (ak o) (ak p) x y z):=λ_ _ _ h=>by
 rw[Me];refine(hw _ _ _ h).mono λa k h=>(j _ _ _ h).mono λb B h=>(qI h).mono λr l h=>?_;obtain⟨c,e,h⟩:=mO h;refine⟨c,e,?_⟩;cases c with
 |true=>exact(d _ _ _ h).mono λe q h=>qI h
 |false=>exact h
abbrev QO(x y:WP D):WP D:=λj S Q=>x j S λd c=>wBl d λb=>wIf b (y j c Q) (Q (.bl aS) c)
def QP{w v:WP D}{x y:XE}(hw:Sd w x)(b:Sd v y):Sd (QO w v) (BL x y):=λ_ _ _ h=>by
 rw[Mc];refine(hw _ _ _ h).mono λa d h=>?_;obtain⟨c,e,h⟩:=mO h;refine⟨c,e,?_⟩;cases c with
 |true=>exact b _ _ _ h
 |false=>exact h
abbrev wOr(x y:WP D):WP D:=λj S Q=>x j S λd c=>wBl d λb=>wIf b (Q (.bl aN) c) (y j c Q)
def SG{w v:WP D}{x y:XE}(hw:Sd w x)(b:Sd v y):Sd (wOr w v) (xOr x y):=λ_ _ _ h=>by
 rw[QG];refine(hw _ _ _ h).mono λa d h=>?_;obtain⟨c,e,h⟩:=mO h;refine⟨c,e,?_⟩;cases c with
 |false=>exact b _ _ _ h
 |true=>exact h
abbrev QQ(x:WP D):WP D:=λj S Q=>x j S λd c=>wBl d λb=>Q (.bl (!b)) c
def QR{w:WP D}{x:XE}(hw:Sd w x):Sd (QQ w) (xUn zn x):=λ_ _ _ h=>a8 ((hw _ _ _ h).mono λa b h=>by
 rw[Md];exact mO h)
abbrev QS(x:WP D):WP D:=λc S Q=>x c S λd b=>cP d λi=>Q (.int (-i)) b
def QT{w:WP D}{x:XE}(hw:Sd w x):Sd (QS w) (xUn Lg x):=λ_ _ _ h=>a8 ((hw _ _ _ h).mono λa b h=>by
 obtain⟨i,rfl,h⟩:=cJ h;exact bz h)
abbrev QU{α:Type}(c:WP Bool)(x y:WP α):WP α:=λd S Q=>c d S λb j=>wIf b (x d j Q) (y d j Q)
def QV{c:WP Bool}{w v:WP D}{t:XT}{x y:XE}(hc:Sd c t)(hw:Sd w x)(d:Sd v y):Sd (QU c w v) (Lh t x y):=λ_ _ _ h=>a8 ((hc _ _ _ h).mono λb j h=>by
 cases b with
 |true=>exact hw _ _ _ h
 | false=>exact d _ _ _ h)
abbrev wO:Option (WP D)->WP (Option Int)
 |none=>λ_ S Q=>Q aD S
 |some w=>λc S Q=>w c S λd b=>cP d λi=>Q (aw i) b
abbrev qJ(lo hi:Option Int)(d:D)(S:Sto)(Q:D->Sto->Prop):Prop:=match d with
 |.tup ds=>Q (.tup (jm ds lo hi)) S
 |.ref n=>Ok (slS lo hi (.ref n) S) Q
 |.non=>False |.bl _=>False |.str _=>False |.int _=>False
abbrev wSl(x:WP D)(lo hi:WP (Option Int)):WP D:=λb S Q=>x b S λd c=>lo b c λl k=>hi b k λh j=>qJ l h d j Q
def SH:Sd (wO aD) vm:=λ_ _ _ h=>bz h
def SI{w:WP D}{x:XE}(hw:Sd w x):Sd (wO (aw w)) (vn x):=λ_ _ _ h=>a8 ((hw _ _ _ h).mono λd b h=>by
 obtain⟨i,rfl,h⟩:=cJ h;exact bz h)
def SJ{w:WP D}{l u:WP (Option Int)}{x:XE}{lo hi:XO}(hw:Sd w x)(hl:Sd l lo)(c:Sd u hi):Sd (wSl w l u) (xSl x lo hi):=λ_ _ _ h=>a8 ((hw _ _ _ h).mono λd j h=>a8 ((hl _ _ _ h).mono λa q h=>a8 ((c _ _ _ h).mono λb k h=>by
 cases d with
 |tup v=>exact bz h
 |ref n=>exact h
 | _=>exact h.elim)))
abbrev Jz(g:List D->Sto->Option (D × Sto))(n:Nat)(x:WP (List D)):WP D:=λc S Q=>x c S λd b=>d.length=n/\Ok (g d b) Q
def MC{g:List D->Sto->Option (D × Sto)}{n:Nat}{w:WP (List D)}{x:XA}(hw:Sd w x):Sd (Jz g n w) (sS g n x):=λ_ _ _ h=>by
 rw[Gp];exact hw _ _ _ h
abbrev jK(x:WP (List D)):WP D:=λc S Q=>x c S λd b=>Q (.ref b.length) (b++[.lst d])
def gI{w:WP (List D)}{x:XA}(hw:Sd w x):Sd (jK w) (dM x):=λ_ _ _ h=>by rw[CK];exact hw _ _ _ h
abbrev ft:Nat->List CE->Prop->Prop
 |_,[],A=>A
 |0,_::_,_=>False
 |n+1,_::es,A=>ft n es A
def i8:∀ {n:Nat} {es:List CE} {A:Prop},ft n es A->es.length<=n/\A
 |n,[],_,h=>⟨Z5 _,by cases n <;> exact h⟩
 |0,_::_,_,h=>h.elim
 |n+1,_::es,_,h=>by rw[Zo];exact⟨We (i8 (es:=es) h).1,(i8 (es:=es) h).2⟩
abbrev wSh{α:Type}(c:List CE)(x:WP α):WP α:=λb S Q=>ft 60 c (x b S Q)
abbrev CT(c:D->Sto->Bool)(f:D->List D->Sto->Option (D × Sto))(x:WP D)(y:WP (List D)):WP D:=λj S Q=>x j S λd b=>c d b=aN/\y j b λl k=>Ok (f d l k) Q
def xT{c:D->Sto->Bool}{f:D->List D->Sto->Option (D × Sto)}{w:WP D}{v:WP (List D)}{x:XE}{y:XA}(hw:Sd w x)(b:Sd v y):Sd (CT c f w v) (zl c f x y):=λ_ _ _ h=>a8 ((hw _ _ _ h).mono λd j h=>by
 rw[if_pos h.1];exact a8 (b _ _ _ h.2))
abbrev MD(x:WP D):WP (List D):=λc S Q=>x c S λd b=>∃i:Nat,d = .int i/\i<=1000/\Q ((Zg i).map λj=>.int (Int.ofNat j)) b
def JA{w:WP D}{x:XE}(hw:Sd w x):Sd (MD w) (zx x):=λ_ _ _ h=>Mi (hw _ _ _ h)
abbrev QW:WP (List D):=λ_ S Q=>Q [] S
def QX:Sd QW Fc:=λ_ _ _ h=>bz h
abbrev JB(x:WP D)(y:WP (List D)):WP (List D):=λb S Q=>x b S λa c=>y b c λj d=>Q (a::j) d
def ME{w:WP D}{v:WP (List D)}{x:XE}{y:XA}(hw:Sd w x)(b:Sd v y):Sd (JB w v) (xg x y):=λ_ _ _ h=>a8 ((hw _ _ _ h).mono λd c h=>a8 ((b _ _ _ h).mono λk j h=>bz h))
abbrev SK(o:Option D)(A:Prop):Prop:=match o with
 |none=>A
 |some _=>False
abbrev wFr:Rho->Nat->Prop->Prop
 |[],_,_=>False
 |o::_,0,A=>SK o A
 |_::ρ,i+1,A=>wFr ρ i A
def qK:∀ {ρ:Rho} {i:Nat} {A:Prop},wFr ρ i A->ρ[i]?=aw aD/\A
 |[],_,_,h=>h.elim
 |none::_,0,_,h=>⟨rfl,h⟩
 |some _::_,0,_,h=>h.elim
 |o::ρ,i+1,_,h=>by rw[YA];exact qK (ρ:=ρ) h
abbrev tN:List Tg->Rho->Prop->Prop
 |[],_,A=>A
 |.name i::ts,ρ,A=>wFr ρ i (tN ts ρ A)
 |.tup us::ts,ρ,A=>dA (.tup us) ρ=aN/\tN ts ρ A
abbrev wFt:Tg->Rho->Prop->Prop
 |.name i,ρ,A=>wFr ρ i A
 |.tup ts,ρ,A=>tN ts ρ A
def oV{i:Nat}{b:Rho}(h:b[i]?=aw aD):dA (.name i) b=aN:=by rw[dA,h]
def qL:∀ {T:List Tg} {b:Rho} {A:Prop},tN T b A->fR T b=aN/\A
 |[],_,_,h=>⟨by rw[fR],h⟩
 |.name i::T,b,_,h=>by
  obtain⟨e,h⟩:=qK h;obtain⟨c,h⟩:=qL h;exact⟨by rw[fR,oV e,c];rfl,h⟩
 |.tup us::T,b,_,h=>by
  obtain⟨e,h⟩:=h;obtain⟨c,h⟩:=qL h;exact⟨by rw[fR,e,c];rfl,h⟩
def v9{t:Tg}{b:Rho}{A:Prop}(h:wFt t b A):dA t b=aN/\A:=by
 cases t with
 |name i=>exact⟨oV (qK h).1,(qK h).2⟩
 |tup T=>rw[dA];exact qL h
abbrev tP:List Str->Rho->(Rho->Prop)->Prop
 |[],r,Q=>Q r
 |_::own,r,Q=>tP own (aD::r) Q
abbrev tQ:Rho->Rho->(Rho->Prop)->Prop
 |[],r,Q=>Q r
 |o::ρ,r,Q=>tQ ρ r λb=>Q (o::b)
def xU:∀ {ρ r:Rho} {Q:Rho->Prop},tQ ρ r Q->Q (ρ++r)
 |[],_,_,h=>h
 |o::ρ,r,Q,h=>xU (ρ:=ρ) (Q:=λb=>Q (o::b)) h
def xV:∀ {own:List Str} {k:Nat} {Q:Rho->Prop},tP own (ZN k aD) Q->Q (ZN (own.length+k) aD)
 |[],k,_,h=>by rw[Z3,Yx];exact h
 |_::own,k,Q,h=>by
  have:=xV (own:=own) (k:=k+1) h;rw[Zo,show own.length+1+k=own.length+(k+1) by lia];exact this
abbrev JC(own:List Str)(it:WP Nxt)(T:Tg)(c:XA)(k:Nat):WP (List D):=λj S Q=>it j S λnx l=>tP own [] λr=>tQ j r λb=>wFt T b (Ok (bq nx T c b k 0 l) λd q=>d.length<=100000/\Q d q)
def CU{own:List Str}{k:Nat}{w:WP Nxt}{it:XI}{T:Tg}{c:XA}(hw:Sd w it):Sd (JC own w T c k) (lY own.length it T c k):=λ_ _ _ h=>by
 rw[Gq]
 exact(hw _ _ _ h).mono λnx b h=>by
  have h:=xU (xV (own:=own) (k:=0) h);exact v9 h
abbrev CV(it:WP Nxt)(T:Tg)(c:XA)(k:Nat):WP (List D):=λb S Q=>wFt T b (it b S λnx d=>Ok (bq nx T c b k 0 d) Q)
def GG{k:Nat}{w:WP Nxt}{it:XI}{T:Tg}{c:XA}(hw:Sd w it):Sd (CV w T c k) (jy it T c k):=λ_ _ _ h=>by
 rw[CJ];exact⟨(v9 h).1,hw _ _ _ (v9 h).2⟩
abbrev wa(d:D)(b:Sto)(Q:Nxt->Sto->Prop):Prop:=match d with
 |.tup ds=>Q (nxL ds) b
 |.ref n=>(aQ b n).isSome=aN/\Q (nxS n) b
 |.non=>False |.bl _=>False |.str _=>False |.int _=>False
def SL{w:WP D}{x:XE}(hw:Sd w x):Sd (λc S Q=>w c S λd b=>wa d b Q) (xIV x):=λ_ _ _ h=>a8 ((hw _ _ _ h).mono λd b h=>by
 cases d with
 |tup j=>exact bz h
 |ref n=>dsimp only;rw[if_pos h.1];exact bz h.2
 | _=>exact h.elim)
abbrev GH(d:D)(b:Sto)(Q:Nxt->Sto->Prop):Prop:=match d with
 |.tup ds=>Q (Fu ds) b
 |_=>False
def SM{w:WP D}{x:XE}(hw:Sd w x):Sd (λc S Q=>w c S λd b=>GH d b Q) (xEV x):=λ_ _ _ h=>a8 ((hw _ _ _ h).mono λd b h=>by
 cases d with
 |tup j=>exact bz h
 | _=>exact h.elim)
abbrev wOn{b β:Type}(f:b->β)(x:WP b):WP β:=λd S Q=>x d S λa c=>Q (f a) c
def JD{b k:Type}{f:b->k}{w:WP b}{x:Rho->Sto->Option (b × Sto)}(hw:Sd w x):Sd (wOn f w) (λj S=>bnd (x j S) λa c=>aw (f a,c)):=λ_ _ _ h=>a8 ((hw _ _ _ h).mono λd c h=>bz h)
abbrev wR1(x:WP D):WP Nxt:=λc S Q=>x c S λd b=>cP d λj=>lim j=aN/\Q (nxR 0 j.toNat) b
def SN{w:WP D}{x:XE}(hw:Sd w x):Sd (wR1 w) (xR1 x):=λ_ _ _ h=>a8 ((hw _ _ _ h).mono λd b h=>by
 obtain⟨i,rfl,h⟩:=cJ h;dsimp only;rw[if_pos h.1];exact bz h.2)
abbrev wDn(x:WP D):WP Nxt:=λc S Q=>x c S λd b=>cP d λj=>lim j=aN/\Q (nxD j (j+1).toNat) b
def SO{w:WP D}{x:XE}(hw:Sd w x):Sd (wDn w) (xDn x):=λ_ _ _ h=>a8 ((hw _ _ _ h).mono λd b h=>by
 cases d with
 |int j=>obtain⟨h,q⟩:=h;dsimp only;rw[if_pos h];exact bz q
 | _=>exact h.elim)
abbrev JE(x:WP D):WP D:=λc S Q=>x c S λd b=>cP d λi=>(0<=i/\i<=1000)/\Q (.tup ((Zg i.toNat).map λj=>.int (Int.ofNat j))) b
def MF{w:WP D}{x:XE}(hw:Sd w x):Sd (JE w) (BZ x):=λ_ _ _ h=>a8 ((hw _ _ _ h).mono λd b h=>by
 cases d with
 |int j=>obtain⟨h,q⟩:=h;dsimp only;rw[if_pos h];exact bz q
 | _=>exact h.elim)
abbrev wR2(x y:WP D):WP Nxt:=λb S Q=>x b S λd c=>y b c λe k=>cP d λi=>cP e λj=>(lim i=aN/\lim j=aN)/\Q (nxR i (j - i).toNat) k
def SQ{w v:WP D}{x y:XE}(hw:Sd w x)(k:Sd v y):Sd (wR2 w v) (xR2 x y):=λ_ _ _ h=>a8 ((hw _ _ _ h).mono λd l h=>a8 ((k _ _ _ h).mono λe q h=>by
 obtain⟨i,rfl,c⟩:=cJ h;obtain⟨j,rfl,b⟩:=cJ c;dsimp only;rw[if_pos b.1];exact bz b.2))
abbrev cQ(d:D)(S:Sto)(Q:Bool->Sto->Prop):Prop:=match d with
 |.bl b=>Q b S
 |.tup ds=>Q (!ds.isEmpty) S
 |.int i=>Q (i != 0) S
 |.non=>Q aS S
 |.str y=>Ok (lQ (.str y) S) Q
 |.ref y=>Ok (lQ (.ref y) S) Q
def CW{d:D}{S:Sto}{Q:Bool->Sto->Prop}(h:cQ d S Q):Ok (lQ d S) Q:=by cases d <;> first |exact bz h |exact h
abbrev wB(x:WP D):WP Bool:=λj S Q=>x j S λd c=>wBl d λb=>Q b c
def s_b{w:WP D}{x:XE}(hw:Sd w x):Sd (wB w) (xB x):=λ_ _ _ h=>by
 rw[QL];exact(hw _ _ _ h).mono λd b h=>mO h
abbrev JF(x y:WP Bool):WP Bool:=λd S Q=>x d S λb c=>wIf b (y d c Q) (Q aS c)
abbrev QY(x y:WP Bool):WP Bool:=λd S Q=>x d S λb c=>wIf b (Q aN c) (y d c Q)
abbrev JG(x:WP Bool):WP Bool:=λd S Q=>x d S λb c=>Q (!b) c
def MG{w v:WP Bool}{x y:XT}(hw:Sd w x)(c:Sd v y):Sd (JF w v) (BO x y):=λ_ _ _ h=>a8 ((hw _ _ _ h).mono λb d h=>by
 cases b with
 |true=>exact c _ _ _ h
 | false=>exact bz h)
def QZ{w v:WP Bool}{x y:XT}(hw:Sd w x)(c:Sd v y):Sd (QY w v) (Ll x y):=λ_ _ _ h=>a8 ((hw _ _ _ h).mono λb d h=>by
 cases b with
 |false=>exact c _ _ _ h
 | true=>exact bz h)
def MH{w:WP Bool}{x:XT}(hw:Sd w x):Sd (JG w) (BP x):=λ_ _ _ h=>a8 ((hw _ _ _ h).mono λb c h=>bz h)
abbrev JH(t:WP Bool)(c:WP (List D)):WP (List D):=λj S Q=>t j S λb d=>wIf b (c j d Q) (Q [] d)
def MI{t:WP Bool}{c:WP (List D)}{x:XT}{y:XA}(d:Sd t x)(hc:Sd c y):Sd (JH t c) (BI x y):=λ_ _ _ h=>a8 ((d _ _ _ h).mono λb j h=>by
 cases b with
 |true=>exact hc _ _ _ h
 | false=>exact bz h)
abbrev GI(f:Bool->List D->Option (List D))(d:List D)(S:Sto)(Q:List D->Sto->Prop):Prop:=∃b,f aS d=aw b/\Q b S
abbrev GJ(f:Bool->List D->Option (List D))(d:D)(S:Sto)(Q:List D->Sto->Prop):Prop:=∃r b,ao d S=aw r/\f r.1 r.2=aw b/\Q b S
abbrev wb(d:D)(S:Sto)(Q:List D->Sto->Prop):Prop:=Ok ((ao d S).map λr=>(r.2,S)) Q
def Q0{f:Bool->List D->Option (List D)}{w:WP (List D)}{x:XA}(hw:Sd w x):Sd (λc S Q=>w c S λd b=>GI f d b Q) (zv f x):=λ_ _ _ h=>a8 ((hw _ _ _ h).mono λd b ⟨j,e,h⟩=>by rw[e];exact bz h)
def Q1{f:Bool->List D->Option (List D)}{w:WP D}{x:XE}(hw:Sd w x):Sd (λj S Q=>w j S λd b=>GJ f d b Q) (zw f x):=λ_ _ _ h=>a8 ((hw _ _ _ h).mono λd b ⟨r,k,c,e,h⟩=>by
 rw[c];dsimp only;rw[e];exact bz h)
abbrev wNo{α:Type}:WP α:=λ_ _ _=>False
def qM{b:Type}{x:Rho->Sto->Option (b × Sto)}:Sd wNo x:=λ_ _ _ h=>h.elim
abbrev aY(b:Bool)(x:WP (List D))(y:WP D)(c:Rho)(S:Sto)(KT:List D->Sto->Prop)(KV:D->Sto->Prop):Prop:=match b with
 |true=>x c S KT
 |false=>y c S KV
abbrev wOf{α:Type}(b:Bool)(x:WP (List D))(y:WP D)(gt:List D->Sto->(α->Sto->Prop)->Prop)(k:D->Sto->(α->Sto->Prop)->Prop):WP α:=λj S Q=>aY b x y j S (λl c=>gt l c Q) (λd c=>k d c Q)
def s_of{j:Type}{b:Bool}{w:WP (List D)}{v:WP D}{gt:List D->Sto->(j->Sto->Prop)->Prop}{l:D->Sto->(j->Sto->Prop)->Prop}{x y:Rho->Sto->Option (j × Sto)}(hw:Sd (λk S Q=>w k S λq c=>gt q c Q) x)(u:Sd (λk S Q=>v k S λd c=>l d c Q) y):Sd (wOf b w v gt l) (if b=aN then x else y):=by
 cases b with
 |true=>exact hw
 |false=>exact u
def SR{b:Bool}{w:WP (List D)}{v u:WP D}{x:XA}{y z:XE}(hw:Sd w x)(C:Sd u z)(B:Sd v y):Sd (λj S Q=>aY b w u j S (λq c=>v j c λi l=>cP i λk=>∃d,atI q k=aw d/\Q d l) (λd c=>v j c λi l=>Ok (ixS d i l) Q)) (if b=aN then vf x y else sj ixS z y):=λj S Q h=>by
 cases b with
 |true=>
  show Ok (vf x y j S) Q;rw[Ms];exact(hw _ _ _ h).mono λq c h=>(B _ _ _ h).mono λi l h=>cJ h
 |false=>exact a8 ((C _ _ _ h).mono λq c h=>a8 (B _ _ _ h))
abbrev wO2(t:CE->WP D):Option CE->Option (WP D)
 |none=>aD
 |some e=>aw (t e)
abbrev GK(t:CE->WP Bool):Option CE->WP (List D)->WP (List D)
 |some c,x=>JH (t c) x
 |none,x=>x
abbrev CY(x y:D)(S:Sto)(Q:D->Sto->Prop):Prop:=cP x λi=>cP y λj=>Q (.int (if j > i then j else i)) S
abbrev CZ(x y:D)(S:Sto)(Q:D->Sto->Prop):Prop:=cP x λi=>cP y λj=>Q (.int (if j < i then j else i)) S
abbrev w2(g:D->D->Sto->(D->Sto->Prop)->Prop):List D->Sto->(D->Sto->Prop)->Prop
 |[],_,_=>False
 |[_],_,_=>False
 |[x,y],S,Q=>g x y S Q
 |_::_::_::_,_,_=>False
def JI{g:D->D->Sto->(D->Sto->Prop)->Prop}{f:D->D->Sto->Option (D × Sto)}(c:∀ {a b S Q},g a b S Q->Ok (f a b S) Q):∀ {d:List D} {S:Sto} {Q:D->Sto->Prop},w2 g d S Q->Ok (two f d S) Q
 |[],_,_,h=>h.elim
 |[_],_,_,h=>h.elim
 |[x,y],_,_,h=>c h
 |_::_::_::_,_,_,h=>h.elim
abbrev JJ:WP D:=λ_ S Q=>Q (.ref (Zw S)) (S++[.dic [] []])
abbrev wCf(i:CI->WP Nxt)(own:List Str)(t:CE->XT)(e:List Cl->XA):List Cl->WP (List D)
 |[]=>wNo
 |⟨tg,it,cond⟩::rest=>JC own (i it) tg (cnd t cond (e rest)) LF
mutual
noncomputable def wE(C:Calls)(j:Nat->Nat):Nat->CE->WP D
 |0,_=>wNo
 |n+1,e=>match e with
  |.non=>wC .non
  |.bl b=>wC (.bl b)
  |.int i=>wC (.int i)
  |.str x=>wC (.str x)
  |.var i=>QM i
  |.con _ v=>wC (.int v)
  |.tup es=>wSh es (wOn D.tup (wA C j n es))
  |.lst es=>jK (wSh es (wA C j n es))
  |.dic0=>JJ
  |.bin o a b=>GC (tM o) (wE C j n a) (wE C j n b)
  |.neg a=>QS (wE C j n a)
  |.cmp o a b=>GC (wCm o) (wE C j n a) (wE C j n b)
  |.chn o p a b c=>MB o p (wE C j n a) (wE C j n b) (wE C j n c)
  |.and a b=>QO (wE C j n a) (wE C j n b)
  |.or a b=>wOr (wE C j n a) (wE C j n b)
  |.not a=>QQ (wE C j n a)
  |.ite c a b=>QU (wT C j n c) (wE C j n a) (wE C j n b)
  |.ix a b=>λq S Q=>aY (aj a) (wTm C j n a) (wE C j n a) q S (λy l=>wE C j n b q l λi u=>cP i λk=>∃d,atI y k=aw d/\Q d u) (λd l=>wE C j n b q l λi u=>Ok (ixS d i u) Q)
  |.sl a lo hi=>wSl (wE C j n a) (wO (wO2 (wE C j n) lo)) (wO (wO2 (wE C j n) hi))
  |.call f es=>Jz (C f) (j f) (wA C j n es)
  |.inst t a=>wUn (wOk (lW t)) (wE C j n a)
  |.len a=>wOf (aj a) (wTm C j n a) (wE C j n a) (wOk (c9 aS)) (wOk (aq c9))
  |.all a=>wOf (aj a) (wTm C j n a) (wE C j n a) (wOk (kE aS)) (wOk (aq kE))
  |.any a=>wOf (aj a) (wTm C j n a) (wE C j n a) (wOk (ny aS)) (wOk (aq ny))
  |.tupOf a=>wOf (aj a) (wTm C j n a) (wE C j n a) (wOk (cM aS)) (wOk (aq cM))
  |.listOf a=>jK (wOf (aj a) (wTm C j n a) (wE C j n a) (λy S Q=>Q y S) wb)
  |.listR a=>jK (MD (wE C j n a))
  |.srt a=>jK (wOf (aj a) (wTm C j n a) (wE C j n a) (GI cW) (GJ cW))
  |.mxL a=>wOf (aj a) (wTm C j n a) (wE C j n a) (wOk (nA aS)) (wOk (aq nA))
  |.rev a=>wUn (wOk vC) (wE C j n a)
  |.mnN a=>wOf (aj a) (wTm C j n a) (wE C j n a) (wOk (nF aS)) (wOk (aq nF))
  |.mx a b=>wUn (w2 CY) (wA C j n [a,b])
  |.mn a b=>wUn (w2 CZ) (wA C j n [a,b])
  |.comp own elt cls=>jK (wCf (wI C j n) own (evT C j n) (gK C j n elt) cls)
  |.app o a=>CT fP sL (wE C j n o) (wA C j n [a])
  |.popAt o a=>CT fP ia (wE C j n o) (wA C j n [a])
  |.cnt o a=>CT (λd _=>isTup d) vJ (wE C j n o) (wA C j n [a])
  |.idx o a=>CT (λd _=>isTup d) vN (wE C j n o) (wA C j n [a])
  |.tupR a=>JE (wE C j n a)
noncomputable def wA(C:Calls)(b:Nat->Nat):Nat->List CE->WP (List D)
 |0,_=>wNo
 |n+1,es=>match es with
  |[]=>QW
  |e::es=>JB (wE C b n e) (wA C b n es)
noncomputable def wTm(C:Calls)(b:Nat->Nat):Nat->CE->WP (List D)
 |0,_=>wNo
 |n+1,e=>match e with
  |.lst es=>wSh es (wA C b n es)
  |.listOf a=>wOf (aj a) (wTm C b n a) (wE C b n a) (λd S Q=>Q d S) wb
  |.listR a=>MD (wE C b n a)
  |.srt a=>wOf (aj a) (wTm C b n a) (wE C b n a) (GI cW) (GJ cW)
  |.comp own elt cls=>wCf (wI C b n) own (evT C b n) (gK C b n elt) cls
  |_=>wNo
noncomputable def wI(C:Calls)(c:Nat->Nat):Nat->CI->WP Nxt
 |0,_=>wNo
 |n+1,it=>match it with
  |.val a=>wOf (aj a) (wTm C c n a) (wE C c n a) (λl S Q=>Q (nxL l) S) wa
  |.r1 a=>wR1 (wE C c n a)
  |.dn a=>wDn (wE C c n a)
  |.r2 a b=>wR2 (wE C c n a) (wE C c n b)
  |.en a=>λk S Q=>wE C c n a k S λd j=>GH d j Q
noncomputable def wT(C:Calls)(d:Nat->Nat):Nat->CE->WP Bool
 |0,_=>wNo
 |n+1,e=>match e with
  |.cmp o a b=>wB (GC (wCm o) (wE C d n a) (wE C d n b))
  |.chn o p a b c=>wB (MB o p (wE C d n a) (wE C d n b) (wE C d n c))
  |.and a b=>JF (wT C d n a) (wT C d n b)
  |.or a b=>QY (wT C d n a) (wT C d n b)
  |.not a=>JG (wT C d n a)
  |.ite _ _ _=>wNo
  |e=>wUn cQ (wE C d n e)
end
abbrev wCl(C:Calls)(c:Nat->Nat)(n:Nat)(b:CE):List Cl->WP (List D)
 |[]=>wOn (λd=>[d]) (wE C c n b)
 |⟨tg,it,cond⟩::rest=>CV (wI C c n it) tg (cnd (evT C c n) cond (gK C c n b rest)) LF
def qN{C:Calls}{j:Nat->Nat}:∀ {n:Nat} {b:List CE} {c:Rho} {S l:Sto} {d:List D},evA C j n b c S=aw (d,l)->d.length=b.length
 |0,_,_,_,_,_,h=>by simp only[evA,xNo] at h;cases h
 |n+1,[],_,_,_,_,h=>by simp only[evA,Fc] at h;cases h;rfl
 |n+1,e::b,_,_,_,_,h=>by
  simp only[evA,xg] at h;obtain⟨a,q,u,h⟩:=ab h;obtain⟨y,v,k,h⟩:=ab h;cases h;rw[Zo,Zo,qN k]
structure SndW(C:Calls)(ar:Nat->Nat)(n:Nat):Prop where
 e:∀ {e:CE},Sd (wE C ar n e) (evE C ar n e)
 a:∀ {es:List CE},Sd (wA C ar n es) (evA C ar n es)
 m:∀ {e:CE},Sd (wTm C ar n e) (cX C ar n e)
 i:∀ {i:CI},Sd (wI C ar n i) (evI C ar n i)
 t:∀ {e:CE},Sd (wT C ar n e) (evT C ar n e)
section
variable {C:Calls} {ar:Nat->Nat} {n:Nat}
def Q2(h:SndW C ar n){b:List CE}:Sd (wSh b (wOn D.tup (wA C ar n b))) (lB lJ (evA C ar n b)):=λk S Q w=>by
 obtain⟨le,w⟩:=i8 w;obtain⟨j,c,d,q⟩:=h.a _ _ _ w;refine a8 ⟨j,c,d,?_⟩;have l:=qN d;show Ok (lJ j c) Q;rw[Gu];exact⟨by lia,q⟩
def C0(h:SndW C ar n){b:List CE}:Sd (wSh b (wA C ar n b)) (oe (evA C ar n b)):=λk S Q w=>by
 obtain⟨le,w⟩:=i8 w;obtain⟨j,d,c,q⟩:=h.a _ _ _ w;rw[Gr];have l:=qN c;exact⟨j,d,c,by lia,q⟩
def JK(h:SndW C ar n){o:Option CE}:Sd (wO (wO2 (wE C ar n) o)) (opt (evE C ar n) o):=by
 cases o with
 |none=>exact SH
 |some e=>exact SI h.e
def GL{a b:D}{S:Sto}{Q:D->Sto->Prop}(h:CY a b S Q):Ok (Bo a b S) Q:=by
 obtain⟨i,rfl,d⟩:=cJ h;obtain⟨j,rfl,c⟩:=cJ d;exact bz c
def GM{a b:D}{S:Sto}{Q:D->Sto->Prop}(h:CZ a b S Q):Ok (Bp a b S) Q:=by
 obtain⟨i,rfl,d⟩:=cJ h;obtain⟨j,rfl,c⟩:=cJ d;exact bz c
end
section
variable {C:Calls} {ar:Nat->Nat} {n:Nat}
def Q4(h:SndW C ar n){o:Option CE}{w:WP (List D)}{x:XA}(hw:Sd w x):Sd (GK (wT C ar n) o w) (cnd (evT C ar n) o x):=by
 cases o with
 |none=>exact hw
 |some c=>exact MI h.t hw
def C1{c b:Type}{f:c->Sto->Option (b × Sto)}{a:c}{S:Sto}{Q:b->Sto->Prop}(h:wOk f a S Q):Ok (f a S) Q:=h
def s_q(h:SndW C ar n){f:Bool->List D->Sto->Option (D × Sto)}{a:CE}:Sd (wOf (aj a) (wTm C ar n a) (wE C ar n a) (wOk (f aS)) (wOk (aq f))) (if aj a=aN then pS f (cX C ar n a) else pT f (evE C ar n a)):=
 s_of (GD (f:=f aS) h.m C1) (GD (f:=aq f) h.e C1)
def JL(h:SndW C ar n){a:CE}:Sd (wOf (aj a) (wTm C ar n a) (wE C ar n a) (λd S Q=>Q d S) wb) (if aj a=aN then cX C ar n a else l6 (evE C ar n a)):=s_of h.m (λ_ _ _ w=>a8 (h.e _ _ _ w))
def JM(h:SndW C ar n){a:CE}:Sd (wOf (aj a) (wTm C ar n a) (wE C ar n a) (GI cW) (GJ cW)) (if aj a=aN then zv cW (cX C ar n a) else zw cW (evE C ar n a)):=s_of (Q0 h.m) (Q1 h.e)
def s_u{g:D->Sto->Option (D × Sto)}{w:WP D}{x:XE}(hw:Sd w x):Sd (wUn (wOk g) w) (xUn g x):=GD (f:=g) hw C1
def SS{w:WP (List D)}{x:XA}(hw:Sd w x):Sd (wUn (w2 CY) w) (lB (two Bo) x):=λ_ _ _ h=>a8 ((hw _ _ _ h).mono λ_ _ h=>JI (λz=>GL z) h)
def SU{w:WP (List D)}{x:XA}(hw:Sd w x):Sd (wUn (w2 CZ) w) (lB (two Bp) x):=λ_ _ _ h=>a8 ((hw _ _ _ h).mono λ_ _ h=>JI (λz=>GM z) h)
def MJ:Sd JJ B0:=λ_ _ _ h=>bz h
def Q5{w:WP D}{x:XE}(hw:Sd w x):Sd (wUn cQ w) (Fn x):=GD (f:=lQ) hw CW
def oW:∀n,SndW C ar n
 |0=>⟨qM,qM,qM,qM,qM⟩
 |n+1=>by
  have h:=oW n;refine⟨λ{e}=>?_,λ{j}=>?_,λ{e}=>?_,λ{i}=>?_,λ{e}=>?_⟩
  ·cases e with
   |non=>exact s_c
   |bl b=>exact s_c
   |int b=>exact s_c
   |str b=>exact s_c
   |var b=>exact QN
   |con b v=>exact s_c
   |tup j=>exact Q2 h
   |lst j=>exact gI (C0 h)
   |dic0=>exact MJ
   |bin o a b=>exact CP h.e h.e GF
   |neg a=>exact QT h.e
   |cmp o a b=>exact CP h.e h.e qI
   |chn o p a b c=>exact Jy h.e h.e h.e
   |and a b=>exact QP h.e h.e
   |or a b=>exact SG h.e h.e
   |not a=>exact QR h.e
   |ite c a b=>exact QV h.t h.e h.e
   |ix a b=>exact SR h.m h.e h.e
   |sl a lo hi=>exact SJ h.e (JK h) (JK h)
   |call f j=>exact MC h.a
   |inst t a=>exact s_u h.e
   |len a=>exact s_q h
   |all a=>exact s_q h
   |any a=>exact s_q h
   |tupOf a=>exact s_q h
   |listOf a=>exact gI (JL h)
   |listR a=>exact gI (JA h.e)
   |srt a=>exact gI (JM h)
   |mxL a=>exact s_q h
   |rev a=>exact s_u h.e
   |mnN a=>exact s_q h
   |mx a b=>exact SS h.a
   |mn a b=>exact SU h.a
   |comp own l d=>cases d with
    |nil=>exact gI qM
    |cons c k=>cases c with |mk T it cond=>exact gI (CU h.i)
   |app o a=>exact xT h.e h.a
   |popAt o a=>exact xT h.e h.a
   |cnt o a=>exact xT h.e h.a
   |idx o a=>exact xT h.e h.a
   |tupR a=>exact MF h.e
  ·cases j with
   |nil=>exact QX
   |cons e j=>exact ME h.e h.a
  ·cases e with
   |lst j=>exact C0 h
   |listOf a=>exact JL h
   |listR a=>exact JA h.e
   |srt a=>exact JM h
   |comp own l d=>cases d with
    |nil=>exact qM
    |cons c k=>cases c with |mk T it cond=>exact CU h.i
   |_=>exact qM
  ·cases i with
   |val a=>exact s_of (JD h.m) (SL h.e)
   |r1 a=>exact SN h.e
   |dn a=>exact SO h.e
   |r2 a b=>exact SQ h.e h.e
   |en a=>exact SM h.e
  ·cases e with
   |cmp o a b=>exact s_b (CP h.e h.e qI)
   |chn o p a b c=>exact s_b (Jy h.e h.e h.e)
   |and a b=>exact MG h.t h.t
   |or a b=>exact QZ h.t h.t
   |not a=>exact MH h.t
   |ite a b c=>exact qM
   |_=>exact Q5 h.e
def SV{d:CE}{b:List Cl}:Sd (wCl C ar n d b) (gK C ar (n+1) d b):=by
 cases b with
 |nil=>exact JD (oW n).e
 |cons c j=>cases c with |mk T it cond=>exact GG (oW n).i
def ML{b:CE}{c:List Cl}{o:Option CE}{d:Rho}{S:Sto}{Q:List D->Sto->Prop}(h:GK (wT C ar (n+1)) o (wCl C ar n b c) d S Q):Ok (cnd (evT C ar (n+1)) o (gK C ar (n+1) b c) d S) Q:=Q4 (oW (n+1)) SV _ _ _ h
abbrev wNm:Nat->D->Rho->(Rho->Prop)->Prop
 |_,_,[],_=>False
 |0,d,_::ρ,Q=>Q (aw d::ρ)
 |i+1,d,o::ρ,Q=>wNm i d ρ λb=>Q (o::b)
def qO:∀ {i:Nat} {d:D} {ρ:Rho} {Q:Rho->Prop},wNm i d ρ Q->i < ρ.length/\Q (ρ.set i (aw d))
 |i,_,[],_,h=>by cases i <;> exact h.elim
 |0,d,_::ρ,Q,h=>⟨by simp,h⟩
 |i+1,d,o::ρ,Q,h=>by
  have:=qO (ρ:=ρ) (Q:=λb=>Q (o::b)) h;exact⟨by rw[Zo];lia,this.2⟩
abbrev wBs:List Tg->List D->Rho->(Rho->Prop)->Prop
 |[],[],ρ,Q=>Q ρ
 |[],_::_,_,_=>False
 |.name _::_,[],_,_=>False
 |.tup _::_,[],_,_=>False
 |.name i::ts,d::ds,ρ,Q=>wNm i d ρ λb=>wBs ts ds b Q
 |.tup us::ts,d::ds,ρ,Q=>∃b,aC (.tup us) d ρ=aw b/\wBs ts ds b Q
abbrev wTp(T:List Tg)(d:D)(b:Rho)(Q:Rho->Prop):Prop:=match d with
 |.tup ds=>wBs T ds b Q
 |.non=>False |.bl _=>False |.str _=>False |.int _=>False |.ref _=>False
abbrev wBd:Tg->D->Rho->(Rho->Prop)->Prop
 |.name i,d,ρ,Q=>wNm i d ρ Q
 |.tup ts,d,ρ,Q=>wTp ts d ρ Q
def C2{i:Nat}{d:D}{b:Rho}{Q:Rho->Prop}(h:wNm i d b Q):∃ρ1,aC (.name i) d b=aw ρ1/\Q ρ1:=⟨_,by rw[Gx,if_pos (qO h).1],(qO h).2⟩
def wc:∀ {T:List Tg} {k:List D} {j:Rho} {Q:Rho->Prop},wBs T k j Q->∃b,aO T k j=aw b/\Q b
 |[],[],j,Q,h=>⟨j,xP,h⟩
 |[],_::_,_,_,h=>h.elim
 |.name _::_,[],_,_,h=>h.elim
 |.tup _::_,[],_,_,h=>h.elim
 |.name i::T,d::k,j,Q,h=>by
  obtain⟨b,e,q⟩:=C2 h;obtain⟨c,l,q⟩:=wc q;exact⟨c,by rw[aO,e];exact l,q⟩
 |.tup us::T,d::k,j,Q,h=>by
  obtain⟨b,e,q⟩:=h;obtain⟨c,l,q⟩:=wc q;exact⟨c,by rw[aO,e];exact l,q⟩
def MM{t:Tg}{d:D}{b:Rho}{Q:Rho->Prop}(h:wBd t d b Q):∃ρ1,aC t d b=aw ρ1/\Q ρ1:=by
 cases t with
 |name i=>exact C2 h
 |tup T=>cases d with
  |tup c=>rw[CM];exact wc h
  |_=>exact h.elim
@[inline]abbrev WS:=Rho->Sto->(Fl->Rho->Sto->Prop)->Prop
abbrev rW(y:WS)(b:Rho)(S:Sto)(Q:Fl->Rho->Sto->Prop):Prop:=y b S Q
abbrev wNx(y:WS)(Q:Fl->Rho->Sto->Prop)(f:Fl)(b:Rho)(S:Sto):Prop:=match f with
 |.nx=>rW y b S Q
 |.rt d=>Q (.rt d) b S
 |.bk=>Q .bk b S
 |.ct=>Q .ct b S
mutual
noncomputable def wS(C:Calls)(ar:Nat->Nat):Nat->CS->WS
 |0,_=>λ_ _ _=>False
 |n+1,s=>match s with
  |.asg t e=>λj S Q=>wE C ar n e j S λd k=>wBd t d j λl=>Q .nx l k
  |.setI v o i=>λj S Q=>wE C ar n v j S λa k=>wE C ar n o j k λb y=>wE C ar n i j y λc u=>∃q,jx b c a u=aw q/\Q .nx j q
  |.ex e=>λj S Q=>wE C ar n e j S λ_ k=>Q .nx j k
  |.ret e=>λj S Q=>wE C ar n e j S λd k=>Q (.rt d) j k
  |.ifs c a b=>λj S Q=>wT C ar n c j S λt k=>wIf t (rW (wSs C ar n a) j k Q) (rW (wSs C ar n b) j k Q)
  |.for_ t it b=>λj S Q=>wI C ar n it j S λnx k=>OkS (fC nx t (gL C ar n b) LF 0 j k) Q
  |.cnt=>λj S Q=>Q .ct j S
  |.never=>λ_ _ _=>False
noncomputable def wSs(C:Calls)(ar:Nat->Nat):Nat->List CS->WS
 |0,_=>λ_ _ _=>False
 |n+1,ss=>match ss with
  |[]=>λb S Q=>Q .nx b S
  |s::ss=>λb S Q=>wS C ar n s b S (wNx (wSs C ar n ss) Q)
end
structure SdS(C:Calls)(ar:Nat->Nat)(n:Nat):Prop where
 s:∀ {s:CS} {ρ S Q},wS C ar n s ρ S Q->OkS (evS C ar n s ρ S) Q
 ss:∀ {ss:List CS} {ρ S Q},wSs C ar n ss ρ S Q->OkS (gL C ar n ss ρ S) Q
def C3:∀n,SdS C ar n
 |0=>⟨λh=>by simp only[wS] at h,λh=>by simp only[wSs] at h⟩
 |n+1=>by
  have h:=C3 n;have g:SndW C ar n:=oW n;refine⟨λ{s ρ S Q} w=>?_,λ{ss ρ S Q} w=>?_⟩
  ·cases s with
   |asg t e=>simp only[evS,Gm];simp only[wS] at w;exact(g.e _ _ _ w).mono λd j w=>MM w
   |setI v o i=>simp only[evS,CH];simp only[wS] at w;exact(g.e _ _ _ w).mono λa j w=>(g.e _ _ _ w).mono λb l w=>g.e _ _ _ w
   |ex e=>simp only[evS,CG];simp only[wS] at w;exact g.e _ _ _ w
   |ret e=>simp only[evS,Gn];simp only[wS] at w;exact g.e _ _ _ w
   |ifs c a b=>
    simp only[evS,L8];simp only[wS] at w;refine(g.t _ _ _ w).mono λt j w=>?_;cases t with
    |true=>exact h.ss w
    |false=>exact h.ss w
   |for_ t it b=>simp only[evS,Go];simp only[wS] at w;exact g.i _ _ _ w
   |cnt=>simp only[wS] at w;simp only[evS];exact⟨_,_,_,rfl,w⟩
   |never=>simp only[wS] at w
  ·cases ss with
   |nil=>simp only[wSs] at w;simp only[gL];exact⟨_,_,_,rfl,w⟩
   |cons s ss=>
    simp only[wSs] at w;simp only[gL,Gk];refine(h.s w).mono λf k j w=>?_;cases f with
    |nx=>exact h.ss w
    |_=>exact w
def MN{ss:List CS}{b:Rho}{S:Sto}{Q:Fl->Rho->Sto->Prop}(h:rW (wSs C ar n ss) b S Q):OkS (gL C ar n ss b S) Q:=(C3 n).ss h
def C4{s:CS}{ss:List CS}{b:Rho}{S:Sto}{Q:Fl->Rho->Sto->Prop}(h:wS C ar n s b S (wNx (wSs C ar n ss) Q)):rW (wSs C ar (n+1) (s::ss)) b S Q:=h
def GN{b:Rho}{S:Sto}{Q:Fl->Rho->Sto->Prop}(h:Q .nx b S):rW (wSs C ar (n+1) []) b S Q:=h
end
def MO{ae:List DefE}{k f:Nat}{d:DefE}{z:CE × Pos × Str}{u:List D}{ρ:Rho}{S:Sto}{Q:D->Sto->Prop}(hd:ae[f]?=aw d)(B:d.ks=aw z)(y:3<=k)(j:u.map aw++ZN (d.N.length - u.length) aD=ρ)
  (h:wE (evC ae k) (gM ae) 60 z.1 ρ S λv b=>∃n l c,v = .ref n/\vX d.x z.2.1 z.2.2 n b l c/\Q (.ref b.length) (b++[.lst (dC l .non c)])):Ok (evC ae (k+1) f u S) Q:=by
 subst j;simp only[evC,hd,B,if_pos y];obtain⟨v,b,e,n,l,c,rfl,hs,q⟩:=(oW 60).e _ _ _ h;exact⟨_,_,Gb (by unfold FU;exact e) hs,q⟩
section
variable {C:Calls} {ar:Nat->Nat} {A B:Prop} {S S1:Sto} {Q:D->Sto->Prop} {Ql:List D->Sto->Prop} {Qn:Nxt->Sto->Prop} {Qb:Bool->Prop} {Qi:Int->Prop} {Qd:D->Prop} {Qr:Rho->Prop} {Qt:Bool->Sto->Prop} {Qs:Fl->Rho->Sto->Prop} {t:Bool} {d x y:D} {i j:Int} {n m f:Nat} {s:Str} {o:BOp} {c p:COp} {ds xs ys:List D} {l h:Option Int} {tg:Tg} {ts:List Tg} {ρ ρ2:Rho} {es:List CE} {a b e:CE} {oa ob cd:Option CE} {own:List Str} {it:CI} {rest:List Cl} {ty:Ty} {w wl:WP (List D)} {wv:WP D} {sa sb:List CS} {ws:WS} {od:Option D} {g:D->D->Sto->(D->Sto->Prop)->Prop}
def MP:wE C ar (n+1) (.non) ρ S Q=(Q .non S):=rfl
def Q6:wE C ar (n+1) (.bl t) ρ S Q=(Q (.bl t) S):=rfl
def MQ:wE C ar (n+1) (.int i) ρ S Q=(Q (.int i) S):=rfl
def MR:wE C ar (n+1) (.str s) ρ S Q=(Q (.str s) S):=rfl
def MU:wE C ar (n+1) (.con m i) ρ S Q=(Q (.int i) S):=rfl
def MV:wE C ar (n+1) (.var m) ρ S Q=(v8 ρ m λd=>Q d S):=rfl
def MW:wE C ar (n+1) (.tup es) ρ S Q=(ft 60 es (wA C ar n es ρ S λds S1=>Q (.tup ds) S1)):=rfl
def MX:wE C ar (n+1) (.lst es) ρ S Q=(ft 60 es (wA C ar n es ρ S λds S1=>Q (.ref S1.length) (S1++[.lst ds]))):=rfl
def GO:wE C ar (n+1) (.dic0) ρ S Q=(Q (.ref (Zw S)) (S++[.dic [] []])):=rfl
def MY:wE C ar (n+1) (.bin o a b) ρ S Q=(wE C ar n a ρ S λx S1=>wE C ar n b ρ S1 λy k=>tM o x y k Q):=rfl
def MZ:wE C ar (n+1) (.neg a) ρ S Q=(wE C ar n a ρ S λd S1=>cP d λi=>Q (.int (-i)) S1):=rfl
def M0:wE C ar (n+1) (.cmp c a b) ρ S Q=(wE C ar n a ρ S λx S1=>wE C ar n b ρ S1 λy k=>wCm c x y k Q):=rfl
def M1:wE C ar (n+1) (.chn c p a b e) ρ S Q=(wE C ar n a ρ S λx S1=>wE C ar n b ρ S1 λy q=>wCm c x y q λr k=>wBl r λt=>wIf t (wE C ar n e ρ k λz u=>wCm p y z u Q) (Q (.bl aS) k)):=rfl
def M2:wE C ar (n+1) (.and a b) ρ S Q=(wE C ar n a ρ S λd S1=>wBl d λt=>wIf t (wE C ar n b ρ S1 Q) (Q (.bl aS) S1)):=rfl
def Q7:wE C ar (n+1) (.or a b) ρ S Q=(wE C ar n a ρ S λd S1=>wBl d λt=>wIf t (Q (.bl aN) S1) (wE C ar n b ρ S1 Q)):=rfl
def M3:wE C ar (n+1) (.not a) ρ S Q=(wE C ar n a ρ S λd S1=>wBl d λt=>Q (.bl (!t)) S1):=rfl
def M4:wE C ar (n+1) (.ite e a b) ρ S Q=(wT C ar n e ρ S λt S1=>wIf t (wE C ar n a ρ S1 Q) (wE C ar n b ρ S1 Q)):=rfl
def Q8:wE C ar (n+1) (.ix a b) ρ S Q=(aY (aj a) (wTm C ar n a) (wE C ar n a) ρ S (λds S1=>wE C ar n b ρ S1 λi q=>cP i λk=>∃d,atI ds k=aw d/\Q d q) (λd S1=>wE C ar n b ρ S1 λi q=>Ok (ixS d i q) Q)):=rfl
def GP:wE C ar (n+1) (.sl a aD aD) ρ S Q=(wE C ar n a ρ S λd S1=>qJ aD aD d S1 Q):=rfl
def GQ:wE C ar (n+1) (.sl a aD (aw b)) ρ S Q=(wE C ar n a ρ S λd S1=>wE C ar n b ρ S1 λy k=>cP y λj=>qJ aD (aw j) d k Q):=rfl
def GR:wE C ar (n+1) (.sl a (aw b) aD) ρ S Q=(wE C ar n a ρ S λd S1=>wE C ar n b ρ S1 λy k=>cP y λj=>qJ (aw j) aD d k Q):=rfl
def GS:wE C ar (n+1) (.sl a (aw b) (aw e)) ρ S Q=(wE C ar n a ρ S λd S1=>wE C ar n b ρ S1 λy u=>cP y λj=>wE C ar n e ρ u λz q=>cP z λk=>qJ (aw j) (aw k) d q Q):=rfl
def GU:wE C ar (n+1) (.call f es) ρ S Q=(wA C ar n es ρ S λds S1=>ds.length=ar f/\Ok (C f ds S1) Q):=rfl
def GV:wE C ar (n+1) (.inst ty a) ρ S Q=(wE C ar n a ρ S λd S1=>Ok (lW ty d S1) Q):=rfl
def M5:wE C ar (n+1) (.len a) ρ S Q=(aY (aj a) (wTm C ar n a) (wE C ar n a) ρ S (λds S1=>Ok (c9 aS ds S1) Q) (λd S1=>Ok (aq c9 d S1) Q)):=rfl
def M6:wE C ar (n+1) (.all a) ρ S Q=(aY (aj a) (wTm C ar n a) (wE C ar n a) ρ S (λds S1=>Ok (kE aS ds S1) Q) (λd S1=>Ok (aq kE d S1) Q)):=rfl
def M7:wE C ar (n+1) (.any a) ρ S Q=(aY (aj a) (wTm C ar n a) (wE C ar n a) ρ S (λds S1=>Ok (ny aS ds S1) Q) (λd S1=>Ok (aq ny d S1) Q)):=rfl
def C5:wE C ar (n+1) (.tupOf a) ρ S Q=(aY (aj a) (wTm C ar n a) (wE C ar n a) ρ S (λds S1=>Ok (cM aS ds S1) Q) (λd S1=>Ok (aq cM d S1) Q)):=rfl
def M8:wE C ar (n+1) (.mxL a) ρ S Q=(aY (aj a) (wTm C ar n a) (wE C ar n a) ρ S (λds S1=>Ok (nA aS ds S1) Q) (λd S1=>Ok (aq nA d S1) Q)):=rfl
def zF:wE C ar (n+1) (.listOf a) ρ S Q=(aY (aj a) (wTm C ar n a) (wE C ar n a) ρ S (λds S1=>Q (.ref S1.length) (S1++[.lst ds])) (λd S1=>Ok ((ao d S1).map λr=>(r.2,S1)) λds S1=>Q (.ref S1.length) (S1++[.lst ds]))):=rfl
def C6:wE C ar (n+1) (.listR a) ρ S Q=(wE C ar n a ρ S λd S1=>∃i:Nat,d = .int i/\i<=1000/\Q (.ref S1.length) (S1++[.lst ((Zg i).map λj=>.int (Int.ofNat j))])):=rfl
def M9:wE C ar (n+1) (.srt a) ρ S Q=(aY (aj a) (wTm C ar n a) (wE C ar n a) ρ S (λds S1=>∃es,cW aS ds=aw es/\Q (.ref S1.length) (S1++[.lst es])) (λd S1=>∃r es,ao d S1=aw r/\cW r.1 r.2=aw es/\Q (.ref S1.length) (S1++[.lst es]))):=rfl
def Na:wE C ar (n+1) (.rev a) ρ S Q=(wE C ar n a ρ S λd S1=>Ok (vC d S1) Q):=rfl
def Nb:wE C ar (n+1) (.mnN a) ρ S Q=(aY (aj a) (wTm C ar n a) (wE C ar n a) ρ S (λds S1=>Ok (nF aS ds S1) Q) (λd S1=>Ok (aq nF d S1) Q)):=rfl
def Q9:wE C ar (n+1) (.mx a b) ρ S Q=(wA C ar n [a,b] ρ S λds S1=>w2 CY ds S1 Q):=rfl
def Ra:wE C ar (n+1) (.mn a b) ρ S Q=(wA C ar n [a,b] ρ S λds S1=>w2 CZ ds S1 Q):=rfl
def GW:wE C ar (n+1) (.comp own a (⟨tg,it,cd⟩::rest)) ρ S Q=(wI C ar n it ρ S λnx S1=>tP own [] λr=>tQ ρ r λk=>wFt tg k (Ok (bq nx tg (cnd (evT C ar n) cd (gK C ar n a rest)) k LF 0 S1) λes q=>es.length<=100000/\Q (.ref q.length) (q++[.lst es]))):=rfl
def Nc:wE C ar (n+1) (.app a b) ρ S Q=(wE C ar n a ρ S λd S1=>fP d S1=aN/\wA C ar n [b] ρ S1 λq k=>Ok (sL d q k) Q):=rfl
def C7:wE C ar (n+1) (.popAt a b) ρ S Q=(wE C ar n a ρ S λd S1=>fP d S1=aN/\wA C ar n [b] ρ S1 λq k=>Ok (ia d q k) Q):=rfl
def Nd:wE C ar (n+1) (.idx a b) ρ S Q=(wE C ar n a ρ S λd S1=>isTup d=aN/\wA C ar n [b] ρ S1 λq k=>Ok (vN d q k) Q):=rfl
def GY:wE C ar (n+1) (.tupR a) ρ S Q=(wE C ar n a ρ S λd S1=>cP d λi=>(0<=i/\i<=1000)/\Q (.tup ((Zg i.toNat).map λj=>.int (Int.ofNat j))) S1):=rfl
def Ng:wE C ar (n+1) (.cnt a b) ρ S Q=(wE C ar n a ρ S λd S1=>isTup d=aN/\wA C ar n [b] ρ S1 λq k=>Ok (vJ d q k) Q):=rfl
def SW:wA C ar (n+1) [] ρ S Ql=Ql [] S:=rfl
def SX:wA C ar (n+1) (a::es) ρ S Ql=(wE C ar n a ρ S λd S1=>wA C ar n es ρ S1 λds k=>Ql (d::ds) k):=rfl
def Nh:wTm C ar (n+1) (.lst es) ρ S Ql=ft 60 es (wA C ar n es ρ S Ql):=rfl
def zG:wTm C ar (n+1) (.listOf a) ρ S Ql=(aY (aj a) (wTm C ar n a) (wE C ar n a) ρ S (λds S1=>Ql ds S1) (λd S1=>Ok ((ao d S1).map λr=>(r.2,S1)) Ql)):=rfl
def C8:wTm C ar (n+1) (.listR a) ρ S Ql=(wE C ar n a ρ S λd S1=>∃i:Nat,d = .int i/\i<=1000/\Ql ((Zg i).map λj=>.int (Int.ofNat j)) S1):=rfl
def Ni:wTm C ar (n+1) (.srt a) ρ S Ql=(aY (aj a) (wTm C ar n a) (wE C ar n a) ρ S (λds S1=>∃es,cW aS ds=aw es/\Ql es S1) (λd S1=>∃r es,ao d S1=aw r/\cW r.1 r.2=aw es/\Ql es S1)):=rfl
def GZ:wTm C ar (n+1) (.comp own a (⟨tg,it,cd⟩::rest)) ρ S Ql=(wI C ar n it ρ S λnx S1=>tP own [] λr=>tQ ρ r λk=>wFt tg k (Ok (bq nx tg (cnd (evT C ar n) cd (gK C ar n a rest)) k LF 0 S1) λes q=>es.length<=100000/\Ql es q)):=rfl
def Nj:wI C ar (n+1) (.val a) ρ S Qn=(aY (aj a) (wTm C ar n a) (wE C ar n a) ρ S (λds S1=>Qn (nxL ds) S1) (λd S1=>wa d S1 Qn)):=rfl
def Rb:wI C ar (n+1) (.en a) ρ S Qn=(wE C ar n a ρ S λd S1=>GH d S1 Qn):=rfl
def Rc:wI C ar (n+1) (.r1 a) ρ S Qn=(wE C ar n a ρ S λd S1=>cP d λj=>lim j=aN/\Qn (nxR 0 j.toNat) S1):=rfl
def Re:wI C ar (n+1) (.dn a) ρ S Qn=(wE C ar n a ρ S λd S1=>cP d λj=>lim j=aN/\Qn (nxD j (j+1).toNat) S1):=rfl
def Rf:wI C ar (n+1) (.r2 a b) ρ S Qn=(wE C ar n a ρ S λd S1=>wE C ar n b ρ S1 λe k=>cP d λi=>cP e λj=>(lim i=aN/\lim j=aN)/\Qn (nxR i (j - i).toNat) k):=rfl
def Nk:wT C ar (n+1) (.cmp c a b) ρ S Qt=(wE C ar n a ρ S λx S1=>wE C ar n b ρ S1 λy q=>wCm c x y q λd k=>wBl d λt=>Qt t k):=rfl
def Nm:wT C ar (n+1) (.chn c p a b e) ρ S Qt=(wE C ar n a ρ S λx S1=>wE C ar n b ρ S1 λy u=>wCm c x y u λr k=>wBl r λt=>wIf t (wE C ar n e ρ k λz q=>wCm p y z q λd v=>wBl d λt=>Qt t v) (wBl (.bl aS) λt=>Qt t k)):=rfl
def Nn:wT C ar (n+1) (.and a b) ρ S Qt=(wT C ar n a ρ S λt S1=>wIf t (wT C ar n b ρ S1 Qt) (Qt aS S1)):=rfl
def Rg:wT C ar (n+1) (.or a b) ρ S Qt=(wT C ar n a ρ S λt S1=>wIf t (Qt aN S1) (wT C ar n b ρ S1 Qt)):=rfl
def Np:wT C ar (n+1) (.not a) ρ S Qt=(wT C ar n a ρ S λt S1=>Qt (!t) S1):=rfl
def Rh:wT C ar (n+1) (.bl t) ρ S Qt=(wE C ar n (.bl t) ρ S λd S1=>cQ d S1 Qt):=rfl
def Nq:wT C ar (n+1) (.var m) ρ S Qt=(wE C ar n (.var m) ρ S λd S1=>cQ d S1 Qt):=rfl
def G0:wT C ar (n+1) (.call f es) ρ S Qt=(wE C ar n (.call f es) ρ S λd S1=>cQ d S1 Qt):=rfl
def G1:wT C ar (n+1) (.inst ty a) ρ S Qt=(wE C ar n (.inst ty a) ρ S λd S1=>cQ d S1 Qt):=rfl
def Nt:wT C ar (n+1) (.all a) ρ S Qt=(wE C ar n (.all a) ρ S λd S1=>cQ d S1 Qt):=rfl
def Nu:wT C ar (n+1) (.any a) ρ S Qt=(wE C ar n (.any a) ρ S λd S1=>cQ d S1 Qt):=rfl
def Nv:wT C ar (n+1) (.len a) ρ S Qt=(wE C ar n (.len a) ρ S λd S1=>cQ d S1 Qt):=rfl
def Ri:wT C ar (n+1) (.ix a b) ρ S Qt=(wE C ar n (.ix a b) ρ S λd S1=>cQ d S1 Qt):=rfl
def Nw:wT C ar (n+1) (.lst es) ρ S Qt=(wE C ar n (.lst es) ρ S λd S1=>cQ d S1 Qt):=rfl
def Nx:wT C ar (n+1) (.tup es) ρ S Qt=(wE C ar n (.tup es) ρ S λd S1=>cQ d S1 Qt):=rfl
def SY:wCl C ar n a [] ρ S Ql=(wE C ar n a ρ S λd S1=>Ql [d] S1):=rfl
def SZ:wCl C ar n a (⟨tg,it,cd⟩::rest) ρ S Ql=(wFt tg ρ (wI C ar n it ρ S λnx S1=>Ok (bq nx tg (cnd (evT C ar n) cd (gK C ar n a rest)) ρ LF 0 S1) Ql)):=rfl
def Ta:GK (wT C ar n) aD w ρ S Ql=w ρ S Ql:=rfl
def Tc:GK (wT C ar n) (aw a) w ρ S Ql=(wT C ar n a ρ S λt S1=>wIf t (w ρ S1 Ql) (Ql [] S1)):=rfl
def Ny:wS C ar (n+1) (.asg tg a) ρ S Qs=(wE C ar n a ρ S λd S1=>wBd tg d ρ λk=>Qs .nx k S1):=rfl
def G2:wS C ar (n+1) (.setI a b e) ρ S Qs=(wE C ar n a ρ S λx S1=>wE C ar n b ρ S1 λy u=>wE C ar n e ρ u λz q=>∃k,jx y z x q=aw k/\Qs .nx ρ k):=rfl
def Rj:wS C ar (n+1) (.ex a) ρ S Qs=(wE C ar n a ρ S λ_ S1=>Qs .nx ρ S1):=rfl
def Nz:wS C ar (n+1) (.ret a) ρ S Qs=(wE C ar n a ρ S λd S1=>Qs (.rt d) ρ S1):=rfl
def NA:wS C ar (n+1) (.ifs a sa sb) ρ S Qs=(wT C ar n a ρ S λt S1=>wIf t (rW (wSs C ar n sa) ρ S1 Qs) (rW (wSs C ar n sb) ρ S1 Qs)):=rfl
def NB:wS C ar (n+1) (.for_ tg it sa) ρ S Qs=(wI C ar n it ρ S λnx S1=>OkS (fC nx tg (gL C ar n sa) LF 0 ρ S1) Qs):=rfl
def NC:wS C ar (n+1) .cnt ρ S Qs=Qs .ct ρ S:=rfl
def Rk:wNx ws Qs .nx ρ S=rW ws ρ S Qs:=rfl
def Rm:wNx ws Qs (.rt d) ρ S=Qs (.rt d) ρ S:=rfl
def Rn:wNx ws Qs .bk ρ S=Qs .bk ρ S:=rfl
def Ro:wNx ws Qs .ct ρ S=Qs .ct ρ S:=rfl
def ND:wIf (aN && t) A B=wIf t A B:=rfl
def NF:wIf (aS && t) A B=B:=rfl
def NG:wIf (aN || t) A B=A:=rfl
def G3:wIf (aS || t) A B=wIf t A B:=rfl
def G4:wIf (!(aN && t)) A B=wIf (!t) A B:=rfl
def G5:wIf (!(aS && t)) A B=A:=rfl
def G6:wIf (!(aN || t)) A B=B:=rfl
def G7:wIf (!(aS || t)) A B=wIf (!t) A B:=rfl
def Rp:wIf aN A B=A:=rfl
def Rq:wIf aS A B=B:=rfl
def NH:wIf (!aN) A B=B:=rfl
def NI:wIf (!aS) A B=A:=rfl
def Rr:wBl (.bl t) Qb=Qb t:=rfl
def NJ:cP (.int i) Qi=Qi i:=rfl
def NL:v8 (aw d::ρ) 0 Qd=Qd d:=rfl
def NM:v8 (od::ρ) (n+1) Qd=v8 ρ n Qd:=rfl
def Rs:wFr (aD::ρ) 0 A=A:=rfl
def Rt:wFr (od::ρ) (n+1) A=wFr ρ n A:=rfl
def NN:tN [] ρ A=A:=rfl
def NP:tN (.name m::ts) ρ A=wFr ρ m (tN ts ρ A):=rfl
def Ru:wFt (.name m) ρ A=wFr ρ m A:=rfl
def Rv:wFt (.tup ts) ρ A=tN ts ρ A:=rfl
def NQ:tP [] ρ Qr=Qr ρ:=rfl
def NR:tP (s::own) ρ Qr=tP own (aD::ρ) Qr:=rfl
def NS:tQ [] ρ Qr=Qr ρ:=rfl
def NT:tQ (od::ρ) ρ2 Qr=tQ ρ ρ2 λr=>Qr (od::r):=rfl
def Rx:ft (n+1) [] A=A:=rfl
def Ry:ft (n+1) (a::es) A=ft n es A:=rfl
def Rz:wNm 0 d (od::ρ) Qr=Qr (aw d::ρ):=rfl
def RA:wNm (n+1) d (od::ρ) Qr=wNm n d ρ λr=>Qr (od::r):=rfl
def RB:wBs [] [] ρ Qr=Qr ρ:=rfl
def RC:wBs (.name m::ts) (d::ds) ρ Qr=wNm m d ρ λr=>wBs ts ds r Qr:=rfl
def RD:wBd (.name m) d ρ Qr=wNm m d ρ Qr:=rfl
def RE:wBd (.tup ts) d ρ Qr=wTp ts d ρ Qr:=rfl
def RF:wTp ts (.tup ds) ρ Qr=wBs ts ds ρ Qr:=rfl
def G8:wII .add i j S Q=Q (.int (i+j)) S:=rfl
def G9:wII .sub i j S Q=Q (.int (i - j)) S:=rfl
def Ha:wII .mul i j S Q=(gP i j=aN/\Q (.int (i * j)) S):=rfl
def Hb:wII .mod i j S Q=(0 < j/\Q (.int (i % j)) S):=rfl
def C9:wII .fdiv i j S Q=((0 < j/\j < 1298074214633706907132624082305024)/\Q (.int (i / j)) S):=rfl
def Hc:wII .pow i j S Q=((0<=j/\j<=1000000/\i.natAbs < 2 ^ 64)/\Q (.int (i ^ j.toNat)) S):=rfl
def Hd:wTT .add xs ys S Q=(xs.length+ys.length<=1000/\Q (.tup (xs++ys)) S):=rfl
def He:CQ o i (.int j) S Q=wII o i j S Q:=rfl
def Hf:xS o xs (.tup ys) S Q=wTT o xs ys S Q:=rfl
def Hg:xS o xs (.int j) S Q=Ok (bL o (.tup xs) (.int j) S) Q:=rfl
def NU:tM o (.int i) y S Q=CQ o i y S Q:=rfl
def NV:tM o (.tup xs) y S Q=xS o xs y S Q:=rfl
def NW:tM o (.ref n) y S Q=Ok (bL o (.ref n) y S) Q:=rfl
def NX:tM o (.str s) y S Q=Ok (bL o (.str s) y S) Q:=rfl
def NY:wCI .eq i j S Q=Q (.bl (decide (i=j))) S:=rfl
def NZ:wCm .eq x y S Q=wCx .eq x y S Q:=rfl
def N0:wCI .ne i j S Q=Q (.bl (!decide (i=j))) S:=rfl
def N2:wCm .ne x y S Q=wCx .ne x y S Q:=rfl
def N4:wCI .lt i j S Q=Q (.bl (decide (i < j))) S:=rfl
def N5:wCm .lt x y S Q=wCx .lt x y S Q:=rfl
def N6:wCI .le i j S Q=Q (.bl (decide (i<=j))) S:=rfl
def N7:wCm .le x y S Q=wCx .le x y S Q:=rfl
def N8:wCI .gt i j S Q=Q (.bl (decide (j < i))) S:=rfl
def N9:wCm .gt x y S Q=wCx .gt x y S Q:=rfl
def Oa:wCI .ge i j S Q=Q (.bl (decide (j<=i))) S:=rfl
def Oc:wCm .ge x y S Q=wCx .ge x y S Q:=rfl
def Od:wCm .is x y S Q=Ok (ak .is x y S) Q:=rfl
def zH:wCm .isnot x y S Q=Ok (ak .isnot x y S) Q:=rfl
def Da:wCm .isin x y S Q=Ok (ak .isin x y S) Q:=rfl
def zI:wCm .notin x y S Q=Ok (ak .notin x y S) Q:=rfl
def RG:wCx c (.int i) y S Q=Mz c i y S Q:=rfl
def xW:wCx c (.tup xs) y S Q=zE c xs y S Q:=rfl
def xX:wCx c .non y S Q=Ok (ak c .non y S) Q:=rfl
def tR:wCx c (.bl t) y S Q=Ok (ak c (.bl t) y S) Q:=rfl
def RH:wCx c (.str s) y S Q=Ok (ak c (.str s) y S) Q:=rfl
def RI:wCx c (.ref n) y S Q=Ok (ak c (.ref n) y S) Q:=rfl
def Oe:Mz c i (.int j) S Q=wCI c i j S Q:=rfl
def Og:zE .eq xs (.tup []) S Q=Q (.bl xs.isEmpty) S:=rfl
def Oh:zE .ne xs (.tup []) S Q=Q (.bl (!xs.isEmpty)) S:=rfl
def Hh:zE .eq xs (.tup (y::ys)) S Q=Ok (ak .eq (.tup xs) (.tup (y::ys)) S) Q:=rfl
def Hi:zE .ne xs (.tup (y::ys)) S Q=Ok (ak .ne (.tup xs) (.tup (y::ys)) S) Q:=rfl
def Oi:qJ l h (.tup ds) S Q=Q (.tup (jm ds l h)) S:=rfl
def Oj:qJ l h (.ref n) S Q=Ok (slS l h (.ref n) S) Q:=rfl
def Ol:wa (.tup ds) S Qn=Qn (nxL ds) S:=rfl
def Om:wa (.ref n) S Qn=((aQ S n).isSome=aN/\Qn (nxS n) S):=rfl
def Oo:GH (.tup ds) S Qn=Qn (Fu ds) S:=rfl
def Hj:cQ (.bl t) S Qt=Qt t S:=rfl
def Hk:cQ (.tup ds) S Qt=Qt (!ds.isEmpty) S:=rfl
def Hl:cQ (.int i) S Qt=Qt (i != 0) S:=rfl
def Hm:cQ (.ref n) S Qt=Ok (lQ (.ref n) S) Qt:=rfl
def Td:w2 g [x,y] S Q=g x y S Q:=rfl
def Op:CY (.int i) (.int j) S Q=Q (.int (if j > i then j else i)) S:=rfl
def Oq:CZ (.int i) (.int j) S Q=Q (.int (if j < i then j else i)) S:=rfl
def Ho:aY (aj (.lst es)) wl wv ρ S Ql Q=wl ρ S Ql:=rfl
def wg:aY (aj (.listOf a)) wl wv ρ S Ql Q=wl ρ S Ql:=rfl
def zJ:aY (aj (.listR a)) wl wv ρ S Ql Q=wl ρ S Ql:=rfl
def Hq:aY (aj (.srt a)) wl wv ρ S Ql Q=wl ρ S Ql:=rfl
def Db:aY (aj (.comp own a rest)) wl wv ρ S Ql Q=wl ρ S Ql:=rfl
def Hr:aY (aj (.non)) wl wv ρ S Ql Q=wv ρ S Q:=rfl
def Ot:aY (aj (.bl t)) wl wv ρ S Ql Q=wv ρ S Q:=rfl
def Hs:aY (aj (.int i)) wl wv ρ S Ql Q=wv ρ S Q:=rfl
def Ht:aY (aj (.str s)) wl wv ρ S Ql Q=wv ρ S Q:=rfl
def Hu:aY (aj (.var m)) wl wv ρ S Ql Q=wv ρ S Q:=rfl
def Hv:aY (aj (.con m i)) wl wv ρ S Ql Q=wv ρ S Q:=rfl
def Hw:aY (aj (.tup es)) wl wv ρ S Ql Q=wv ρ S Q:=rfl
def Dc:aY (aj (.dic0)) wl wv ρ S Ql Q=wv ρ S Q:=rfl
def Hx:aY (aj (.bin o a b)) wl wv ρ S Ql Q=wv ρ S Q:=rfl
def Hy:aY (aj (.neg a)) wl wv ρ S Ql Q=wv ρ S Q:=rfl
def Hz:aY (aj (.cmp c a b)) wl wv ρ S Ql Q=wv ρ S Q:=rfl
def HA:aY (aj (.chn c p a b e)) wl wv ρ S Ql Q=wv ρ S Q:=rfl
def HB:aY (aj (.and a b)) wl wv ρ S Ql Q=wv ρ S Q:=rfl
def Ou:aY (aj (.or a b)) wl wv ρ S Ql Q=wv ρ S Q:=rfl
def HC:aY (aj (.not a)) wl wv ρ S Ql Q=wv ρ S Q:=rfl
def HD:aY (aj (.ite e a b)) wl wv ρ S Ql Q=wv ρ S Q:=rfl
def Ov:aY (aj (.ix a b)) wl wv ρ S Ql Q=wv ρ S Q:=rfl
def Ow:aY (aj (.sl a oa ob)) wl wv ρ S Ql Q=wv ρ S Q:=rfl
def Dd:aY (aj (.call f es)) wl wv ρ S Ql Q=wv ρ S Q:=rfl
def De:aY (aj (.inst ty a)) wl wv ρ S Ql Q=wv ρ S Q:=rfl
def HE:aY (aj (.len a)) wl wv ρ S Ql Q=wv ρ S Q:=rfl
def HF:aY (aj (.all a)) wl wv ρ S Ql Q=wv ρ S Q:=rfl
def HG:aY (aj (.any a)) wl wv ρ S Ql Q=wv ρ S Q:=rfl
def zK:aY (aj (.tupOf a)) wl wv ρ S Ql Q=wv ρ S Q:=rfl
def HH:aY (aj (.mxL a)) wl wv ρ S Ql Q=wv ρ S Q:=rfl
def HI:aY (aj (.rev a)) wl wv ρ S Ql Q=wv ρ S Q:=rfl
def HJ:aY (aj (.mnN a)) wl wv ρ S Ql Q=wv ρ S Q:=rfl
def Ox:aY (aj (.mx a b)) wl wv ρ S Ql Q=wv ρ S Q:=rfl
def Oy:aY (aj (.mn a b)) wl wv ρ S Ql Q=wv ρ S Q:=rfl
def HK:aY (aj (.app a b)) wl wv ρ S Ql Q=wv ρ S Q:=rfl
def zL:aY (aj (.popAt a b)) wl wv ρ S Ql Q=wv ρ S Q:=rfl
def HL:aY (aj (.idx a b)) wl wv ρ S Ql Q=wv ρ S Q:=rfl
def Df:aY (aj (.tupR a)) wl wv ρ S Ql Q=wv ρ S Q:=rfl
def HM:aY (aj (.cnt a b)) wl wv ρ S Ql Q=wv ρ S Q:=rfl
def aa{u:Type}{z:Option (u × Sto)}{r:u}{k:Sto}{K:u->Sto->Prop}(e:z=aw (r,k))(q:K r k):Ok z K:=⟨r,k,e,q⟩
def eN(k:t=aN->A)(q:t=aS->B):wIf t A B:=by
 cases t with
 |true=>exact k rfl
 |false=>exact q rfl
end
end Ev
local macro_rules|`(tactic|k_go)=>do
 let f s:Lean.MacroM (Lean.TSyntax ``Lean.Parser.Tactic.simpLemma):=`(Lean.Parser.Tactic.simpLemma|↓$(Lean.mkIdent (`Ev++s.toName)):ident)
 let a ← ("MP Q6 MQ MR MU MV MW MX GO MY MZ M0 M1 M2 Q7 M3 M4 Q8 GP GQ GR GS GU GV M5 M6 M7 C5 M8 zF C6 M9 Na Nb Q9 Ra GW Nc C7 Ng Nd GY SW SX Nh zG C8 Ni GZ Nj Rb Rc Rf Re Nk Nm Nn Rg Np Rh Nq G0 G1 Nt Nu Nv Ri Nw Nx SY SZ Ta Tc Ny G2 Rj Nz NA NB NC Rk Rm Rn Ro ND NF NG G3 G4 G5 G6 G7 Rp Rq NH NI Rr NJ NL NM Rs Rt NN NP Ru Rv NQ NR NS NT Rx Ry Rz RA RB RC RD RE RF G8 G9 Ha Hb C9 Hc Hd He Hf Hg NU NV NW NX NY NZ N0 N2 N4 N5 N6 N7 N8 N9 Oa Oc Od zH Da zI RG xW xX tR RH RI Oe Og Oh Hh Hi Oi Oj Ol Om Oo Hj Hk Hl Hm Td Op Oq Ho wg zJ Hq Db Hr Ot Hs Ht Hu Hv Hw Dc Hx Hy Hz HA HB Ou HC HD Ov Ow Dd De HE HF HG zK HH HI HJ Ox Oy HK zL HM HL Df L9 Ma".splitOn).toArray.mapM f
 `(tactic|dsimp only[$a,*])
local macro_rules |`(tactic|k_is)=>`(tactic|((with_reducible first |refine Ev.MN ?_ |refine Ev.ML ?_ |refine Ev.wcl_ok ?_ |skip);(try dsimp only[List.set_cons_zero,List.set_cons_succ]);(try k_go);(repeat ((with_reducible first |refine Ev.C4 ?_ |refine Ev.GN ?_);(try k_go)))))
namespace Lw
open PySem Ev
variable {p:Nat} {S:Sto} {k:Nat} {Q:D->Sto->Prop}
def Dg(h:TD p S t d)(q:Q (.bl (Dw.isW t)) S):Ok (evC ae (k+1) 0 [d] S) Q:=by
 refine ax (d:=ic) (ρ:=[aw d]) rfl rfl ?_;dsimp only[ic,mw];k_is;refine aa (qD h) ?_;k_is;cases t <;> first |exact q |(k_is;rw[qD h,aI];exact q)
def oX{a b:Int}(h:TD p S t d)(q:Q (.bl (Dw.hZ t a b)) S):Ok (evC ae (k+2) 1 [d,.int a,.int b] S) Q:=by
 refine ax (d:=fU) (ρ:=[aw d,aw (.int a),aw (.int b)]) rfl rfl ?_;dsimp only[fU,j8];k_is;refine⟨rfl,Dg h ?_⟩;k_is;cases t with
 |int i=>
  obtain rfl:=h.int;dsimp only[Dw.isW];k_is;dsimp only[Dw.hZ] at q;cases c:decide (a<=i) with
  |true=>rw[c] at q;exact q
  |false=>rw[c] at q;exact q
 |_=>exact q
def zM(h:TD p S t d)(q:Q (.bl (Dw.hZ t 0 9999)) S):Ok (evC ae (k+3) 2 [d] S) Q:=by
 refine ax (d:=fV) (ρ:=[aw d]) rfl rfl ?_;dsimp only[fV,j9];k_is;exact⟨rfl,oX h q⟩
def Dh{a b:Int}(h:TD p S t d)(q:Q (.bl (Dw.isT t a b)) S):Ok (evC ae (k+1) 3 [d,.int a,.int b] S) Q:=by
 refine ax (d:=ie) (ρ:=[aw d,aw (.int a),aw (.int b)]) rfl rfl ?_;dsimp only[ie,my];k_is;refine aa (qD h) ?_;k_is;cases t with
 |tup T=>
  obtain⟨j,rfl,hs⟩:=h.tup;rw[show fO Ty.tuple (tyT (Dw.D.tup T))=aN from rfl];k_is;refine aa (Mn hs) ?_;k_is;dsimp only[Dw.isT] at q;cases c:decide (a<=(T.length:Int)) with
  |true=>rw[c] at q;exact q
  |false=>rw[c] at q;exact q
 |_=>exact q
def aF{f:Int}(h:Pot p S)(b:0 < f)(j:f < 1298074214633706907132624082305024)(q:∀ (r:Int) c,0<=r->r < f->Dr p S c->Q (.int r) c):Ok (evC ae (k+1) 55 [.ref p,.int f] S) Q:=by
 obtain⟨n,e⟩:=h;have lt:p < S.length:=(Zb.mp e).1;refine ax (d:=im) (ρ:=[aw (.ref p),aw (.int f),aD]) rfl rfl ?_;dsimp only[im,mF];k_is;have ix:ixS (.ref p) (.int 0) S=aw (.int n,S):=by simp only[ixS,ao,aQ,e];rfl
 refine aa ix ?_;k_is;refine⟨b,?_⟩;k_is;refine aa ix ?_;k_is;refine⟨⟨b,j⟩,?_⟩;k_is;refine⟨S.set p (.lst [.int (n / f)]),by simp only[jx,e];rfl,?_⟩;exact q _ _ (Wp _ (by omega)) (X7 _ b) ⟨Mr,_,gj lt⟩
def HN{c:Nat}{ns:List Int}(h:S[0]?=aw (.frz (ns.map D.int)))(q:∀i:Int,Q (.int i) S):Ok (evC ae (k+1) 53 [.ref 0,.int c] S) Q:=by
 refine ax (d:=dX) (ρ:=[aw (.ref 0),aw (.int c)]) rfl rfl ?_;dsimp only[dX,hU];k_is;have ln:aq c9 (.ref 0) S=aw (.int ns.length,S):=by simp only[aq,ao,aQ,h,ZK,c9,Za]
 refine aa ln ?_;k_is;refine eN (λj=>?_) λj=>?_
 ·k_is;have v:=of_decide_eq_true j;obtain⟨d,u,b⟩:=Mu (ds:=ns.map D.int) (i:=c) (by omega) (by rw[Za];omega);have ix:ixS (.ref 0) (.int c) S=aw (d,S):=by simp only[ixS,ao,aQ,h,ZK,u]
  refine aa ix ?_;rw[Zl] at b;cases l:ns[(c:Int).toNat]? with
  |none=>rw[l] at b;cases b
  |some i=>rw[l] at b;cases b;exact q i
 ·k_is;exact q 0
def Oz{c:Int}(q:∀n:Int,Q (.ref S.length) (S++[.lst [.int n]])):Ok (evC ae (k+1) 54 [.int c] S) Q:=by
 refine ax (d:=jI) (ρ:=[aw (.int c),aD,aD,aD]) rfl rfl ?_;dsimp only[jI,oT];k_is;refine⟨⟨by decide,by decide,by decide⟩,?_⟩;k_is;refine eN (λ_=>?_) λ_=>?_
 ·k_is;refine⟨⟨by decide,by decide,by decide⟩,?_⟩;k_is;exact q _
 ·k_is;refine⟨by decide,?_⟩;refine mL (by decide) (λi l j=>j=S/\∃n:Int,∃u v,l=[aw (.int c),aw (.int n),u,v]) (λi l j hi ⟨b,n,u,v,y⟩=>?_) (λl j ⟨b,n,u,v,y⟩=>?_) ⟨rfl,0,aD,aD,rfl⟩
  ·subst b y;refine⟨_,rfl,?_⟩;k_is;refine⟨by decide,?_⟩;k_is;refine⟨qG (by decide) (by decide),?_⟩;k_is;refine⟨xQ (by decide) (by decide),by decide,?_⟩;k_is;have B:=Wp ((c % 2147483629+7919 * (0+(i:Int))+1) * 48271) (show(2147483647:Int) ≠ 0 by decide);have z:=X7 ((c % 2147483629+7919 * (0+(i:Int))+1) * 48271) (show(0:Int) < 2147483647 by decide);refine⟨qG (by omega) (by omega),?_⟩;k_is;refine⟨qG (by decide) (by decide),?_⟩;k_is;refine⟨by decide,?_⟩;k_is;refine⟨xQ (by decide) (by decide),?_⟩;k_is;exact⟨rfl,_,_,_,rfl⟩
  ·subst b y;k_is;exact q n
end Lw
namespace Sn
open Ev
structure Sky where
 r:Int
 s:Int
 M:List (List Int)
 H:List (Int × Int)
 ah:Option (Int × Int)
 G:List (List Int)
 F:List Int
abbrev gi(G:List (List Int))(i:Int)(k:Nat):Int:=((G[i.toNat]?).getD []).getD k 0
abbrev fns:List (Int × Int)->Int->Int
 |[],m=>m
 |p::l,m=>if p.1<=m/\m < p.2 then p.2 else fns l m
abbrev opm:List (Int × Int)->Int->Int
 |[],m=>m
 |p::l,m=>opm l (if p.1<=m/\m < p.2 then p.2 else m)
abbrev Ris:Int->List (Int × Int)->Prop
 |_,[]=>True
 |lo,p::l=>lo < p.1/\p.1 < p.2/\Ris p.2 l
def i9:∀ {l:List (Int × Int)} {lo m:Int},Ris lo l->m<=lo->opm l m=m
 |[],_,_,_,_=>rfl
 |p::l,lo,m,h,hm=>by
  rw[Ris] at h;rw[opm,if_neg (by lia)];exact i9 h.2.2 (by lia)
def xY:∀ {l:List (Int × Int)} {lo m:Int},Ris lo l->opm l m=fns l m
 |[],_,_,_=>rfl
 |p::l,lo,m,h=>by
  rw[Ris] at h;rw[opm,fns];split
  ·exact i9 h.2.2 (ZF _)
  ·exact xY h.2.2
section
variable (K:Sky)
abbrev jn(g:Int):Int:=gi K.G g 1
abbrev gp(a b:Int):Int:=Dw.mg2 K.M a.toNat b.toNat
abbrev zN(ah:Option (Int × Int))(k:Int):Int:=match ah with
 |none=>0
 |some p=>p.2+gp K p.1 k
abbrev front(ah:Option (Int × Int))(g:Int):Int:=match ah with
 |none=>gi K.G g 2
 |some p=>if p.2+gp K p.1 (gi K.G g 0) > gi K.G g 2 then p.2+gp K p.1 (gi K.G g 0) else gi K.G g 2
abbrev js:List Int:=cN (K.G.map λg=>g.getD 1 0)
abbrev late(b:Nat)(m:Int):Bool:=match (js K)[(K.r+b).toNat]? with
 |some j=>decide (j < m - K.s)
 |none=>aS
abbrev step(ah:Option (Int × Int))(g:Int)(b:Nat):Option Int:=if (decide (gi K.G g 3 < opm K.H (front K ah g)) || late K b (opm K.H (front K ah g)))=aN then aD else aw (opm K.H (front K ah g))
abbrev aA(t:Int)(p:Int × Int):Bool:=decide (jn K p.1<=t) && decide (t < p.2 - K.s)
abbrev wts(L:List (Int × Int))(t:Int):Nat:=(L.filter (aA K t)).length
abbrev dF(L:List (Int × Int))(g m:Int):List Int:=((jn K g::L.map λp=>jn K p.1).filter λt=>decide (jn K g<=t) && decide (t < m - K.s))
abbrev ip(L:List (Int × Int))(g m:Int):Int:=Bx 0 ((dF K L g m).map λt=>1+(wts K L t:Int))
abbrev ir(L:List (Int × Int))(g m:Int):List Int:=jn K g::(js K).filter λt=>decide (jn K g < t) && aA K t (g,m)
abbrev tS(L:List (Int × Int))(g m:Int):Int:=iO ((ir K L g m).map λt=>1+(wts K L t:Int))
abbrev tU(L:List (Int × Int))(g m:Int):Bool:=decide (0 < gi K.G g 6) && (aA K (jn K g) (g,m) && decide (gi K.G g 6 < tS K L g m))
abbrev bP(L:List (Int × Int))(g m:Int):Bool:=decide (0 < gi K.G g 6) && decide (gi K.G g 6 < ip K L g m)
abbrev rn:List Int->Option (Int × Int)->List (Int × Int)->Nat ⊕ List (Int × Int)
 |[],_,L=>.inr L
 |g::os,ah,L=>match step K ah g L.length with
  |none=>.inl L.length
  |some m=>if bP K L g m=aN then .inl L.length else rn os (aw (gi K.G g 0,m)) (L++[(g,m)])
end
variable {K:Sky}
def xZ(h:ns ≠ []):iO ns ∈ ns:=by
 cases ns with
 |nil=>exact absurd rfl h
 |cons n ns=>exact(iP ns n).1
def OA{x:Int}(h:x ∈ ns):x<=iO ns:=by
 cases ns with
 |nil=>simp at h
 |cons n ns=>exact(iP ns n).2 x h
def wj(d:A ≠ [])(h:∀x ∈ A,∃y ∈ B,x<=y):iO A<=iO B:=by
 obtain⟨y,c,b⟩:=h _ (xZ d);exact YT b (OA c)
def ja{c:Int}(h:ns ≠ []):Bx c ns=iO ns:=by
 cases ns with
 |nil=>exact absurd rfl h
 |cons n ns=>rfl
def kO{b:Type}{p q:b->Bool}:∀ {l:List b},(∀x ∈ l,p x=aN->q x=aN)->(l.filter p).length<=(l.filter q).length
 |[],_=>Zj _
 |a::l,h=>by
  have I:=kO (l:=l) λx d=>h x (Ze _ d);have j:=h a Zi;rw[Z4,Z4];split
  ·rename_i c;rw[if_pos (j c),Zo,Zo]
   lia
  ·split
   ·rw[Zo];lia
   ·exact I
def Di{j t:Int}(l:j<=t):∀ (L:List (Int × Int)),∃u,(u=j\/∃p ∈ L,u=jn K p.1)/\j<=u/\u<=t/\∀p ∈ L,aA K t p=aN->jn K p.1<=u
 |[]=>⟨j,.inl rfl,ZF _,l,λp v=>by simp at v⟩
 |p::L=>by
  obtain⟨u,c,z,y,h4⟩:=Di l L;by_cases k:aA K t p=aN/\u < jn K p.1
  ·refine⟨jn K p.1,.inr ⟨p,Zi,rfl⟩,by lia,?_,λq hq b=>?_⟩
   ·have:=k.1;simp only[aA,bAE,decide_eq_true_eq] at this;exact this.1
   ·rcases Zn.mp hq with rfl |hq
    ·exact ZF _
    ·have:=h4 q hq b;lia
  ·refine⟨u,?_,z,y,λq hq b=>?_⟩
   ·rcases c with c |⟨q,hq,c⟩
    ·exact .inl c
    ·exact .inr ⟨q,Ze _ hq,c⟩
   ·rcases Zn.mp hq with rfl |hq
    ·by_cases d:u < jn K q.1
     ·exact absurd ⟨b,d⟩ k
     ·lia
    ·exact h4 q hq b
def HP{L:List (Int × Int)}{g m:Int}(h:jn K g < m - K.s)(v:∀p ∈ L,jn K p.1 ∈ js K):tS K L g m=ip K L g m:=by
 have k:jn K g ∈ dF K L g m:=by
  unfold dF;rw[ZI];exact⟨Zi,by simp[h]⟩
 have l:(dF K L g m).map (λt=>1+(wts K L t:Int)) ≠ []:=λz=>by
  rw[List.map_eq_nil_iff] at z;rw[z] at k;simp at k
 unfold ip tS;rw[ja l];refine Int.le_antisymm (wj (by simp[ir]) λx d=>?_) (wj l λx d=>?_)
 ·obtain⟨t,ht,rfl⟩:=Zy.mp d
  have c:jn K g<=t/\t < m - K.s:=by
   rcases Zn.mp ht with rfl |ht
   ·exact⟨ZF _,h⟩
   ·have:=(ZI.mp ht).2;simp only[aA,bAE,decide_eq_true_eq] at this;exact⟨this.2.1,this.2.2⟩
  obtain⟨u,h1,q,y,h4⟩:=Di (K:=K) c.1 L;refine⟨1+(wts K L u:Int),Zy.mpr ⟨u,?_,rfl⟩,?_⟩
  ·unfold dF;refine ZI.mpr ⟨?_,by simp only[bAE,decide_eq_true_eq];lia⟩;rcases h1 with rfl |⟨p,b,rfl⟩
   ·exact Zi
   ·exact Ze _ (Zy.mpr ⟨p,b,rfl⟩)
  ·have:wts K L t<=wts K L u:=kO λp b j=>by
    have a:=h4 p b j;simp only[aA,bAE,decide_eq_true_eq] at j ⊢
    lia
   lia
 ·obtain⟨t,ht,rfl⟩:=Zy.mp d;refine⟨1+(wts K L t:Int),Zy.mpr ⟨t,?_,rfl⟩,ZF _⟩;unfold dF at ht;obtain⟨h1,q⟩:=ZI.mp ht;simp only[bAE,decide_eq_true_eq] at q;unfold ir;by_cases e:t=jn K g
  ·rw[e];exact Zi
  ·refine Ze _ (ZI.mpr ⟨?_,by simp only[aA,bAE,decide_eq_true_eq];lia⟩);rcases Zn.mp h1 with rfl |h1
   ·exact absurd rfl e
   ·obtain⟨p,b,rfl⟩:=Zy.mp h1;exact v p b
def zO{g m:Int}(h:¬ jn K g < m - K.s):ip K L g m=0:=by
 have:dF K L g m=[]:=by
  unfold dF;rw[Xa];intro t _;simp only[bAE,decide_eq_true_eq]
  lia
 unfold ip;rw[this];rfl
def HQ{g m:Int}(b:∀p ∈ L,jn K p.1 ∈ js K):tU K L g m=bP K L g m:=by
 unfold tU bP;by_cases h:jn K g < m - K.s
 ·rw[HP h b];have:aA K (jn K g) (g,m)=aN:=by simp only[aA,bAE,decide_eq_true_eq];exact⟨ZF _,h⟩
  rw[this,YZ]
 ·rw[zO h];have:aA K (jn K g) (g,m)=aS:=by simp[aA,h]
  rw[this,XN];by_cases c:0 < gi K.G g 6
  ·have e:decide (gi K.G g 6 < 0)=aS:=by simp;lia
   rw[e]
  ·rw[decide_eq_false c];rfl
def Dj{g:Int}(h:0<=gi K.G g 2):(if zN K ah (gi K.G g 0) > gi K.G g 2 then zN K ah (gi K.G g 0) else gi K.G g 2)=front K ah g:=by
 cases ah with
 |none=>unfold zN front;dsimp only;rw[if_neg (by lia)]
 |some p=>rfl
end Sn
namespace Lw
open PySem Ev Sn
variable {p:Nat} {S:Sto} {k:Nat} {Q:D->Sto->Prop}
def RJ{j:List D}{T:Tg}{b:XS}{c:Rho}{Q:Fl->Rho->Sto->Prop}(hl:j.length<=100000)(I:Nat->Rho->Sto->Prop)
  (step:∀ (i:Nat) d c v,j[i]?=aw d->I i c v->∃u,aC T d c=aw u/\OkS (b u v) λC l y=>match C with |.nx=>I (i+1) l y |.ct=>I (i+1) l y |.bk=>Q .nx l y |.rt d=>Q (.rt d) l y)
  (q:∀c v,I j.length c v->Q .nx c v) (L:I 0 c S):OkS (fC (nxL j) T b LF 0 c S) Q:=by
 refine kM j.length I (by unfold LF;lia) (λi c v hi B=>?_) (λc v B=>⟨?_,q c v B⟩) L
 ·obtain⟨u,J,z⟩:=step i j[i] c v (gEG hi) B;exact⟨j[i],u,by show aw j[i]?=_;rw[gEG hi],J,z⟩
 ·show aw j[j.length]?=_;rw[Zr (Zj _)]
def OB{j:List D}{T:Tg}{b:XS}{c:Rho}{Q:Fl->Rho->Sto->Prop}(hl:j.length<=100000)(I:Nat->Rho->Sto->Prop)
  (step:∀ (i:Nat) d c v,j[i]?=aw d->I i c v->∃u,aC T (.tup [.int i,d]) c=aw u/\OkS (b u v) λC l y=>match C with |.nx=>I (i+1) l y |.ct=>I (i+1) l y |.bk=>Q .nx l y |.rt d=>Q (.rt d) l y)
  (q:∀c v,I j.length c v->Q .nx c v) (L:I 0 c S):OkS (fC (Fu j) T b LF 0 c S) Q:=by
 refine kM j.length I (by unfold LF;lia) (λi c v hi B=>?_) (λc v B=>⟨?_,q c v B⟩) L
 ·obtain⟨u,J,z⟩:=step i j[i] c v (gEG hi) B;refine⟨.tup [.int i,j[i]],u,?_,J,z⟩;show enm j i=_;unfold enm;rw[if_pos (by lia),gEG hi];rfl
 ·show enm j j.length=_;unfold enm;rw[if_pos (Zj _),Zr (Zj _)];rfl
def bI{B:Type}{nx:Nxt}{T:Tg}{c:XA}{J:Rho}{Q:List D->Sto->Prop}(l:List B)(E:B->D)(f:B->List D)(hl:l.length<=1000)(X:∀a ∈ l,(f a).length<=1)
  (y:∀i d,Sm S d->nx i d=aw ((l[i]?).map E))
  (step:∀ (i:Nat) a d,l[i]?=aw a->Sm S d->∃j,aC T (E a) J=aw j/\Ok (c j d) λu C=>u=f a/\Sm d C) (q:∀d,Sm S d->Q (l.flatMap f) d) :
  Ok (bq nx T c J LF 0 S) λu S2=>u.length<=100000/\Q u S2:=by
 refine(gh l.length (λi v d=>Sm S d/\v=(l.take i).flatMap f) (by unfold LF;lia) (λi v d hi ⟨sm,z⟩=>?_) (λv d ⟨sm,z⟩=>?_) ⟨Sm.refl S,by simp⟩).mono λu d ⟨sm,z⟩=>?_
 ·obtain⟨j,O,u,C,L,Y,I⟩:=step i l[i] d (gEG hi) sm;refine⟨E l[i],j,by rw[y i d sm,gEG hi];rfl,O,u,C,L,sm.trans I,?_⟩;rw[z,Y,Z8 hi,XW];simp
 ·rw[y _ d sm,Zr (Zj _)];rfl
 ·rw[YB] at z;subst z;refine⟨?_,q d sm⟩
  have:∀m:List B,(∀a ∈ m,(f a).length<=1)->(m.flatMap f).length<=m.length:=λm=>by
   induction m with
   |nil=>intro _;simp
   |cons a m U=>
    intro h;rw[Xb,Zf,Zo];have:=h a Zi;have:=U λb hb=>h b (Ze _ hb)
    lia
  have:=this l X
  lia
def cu{c:Type}{l:List c}{E:c->D}:∀i b,Sm S b->nxL (l.map E) i b=aw ((l[i]?).map E):=λi b _=>by
 show aw (l.map E)[i]?=_;rw[Zl]
def jL{c:Type}{n:Nat}{l:List c}{E:c->D}(h:S[n]?=aw (.lst (l.map E))):∀i b,Sm S b->nxS n i b=aw ((l[i]?).map E):=λi b sm=>by
 show(aQ b n).map (λd=>d[i]?)=_;rw[aP (sm _ _ h),ZK,Zl]
def bQ{b:Type}(l:List b)(f:b->D):(l.flatMap λa=>[f a])=l.map f:=by
 induction l with
 |nil=>rfl
 |cons a l I=>rw[Xb,I];rfl
def b9{b:Type}(l:List b)(c:b->Bool)(f:b->D):(l.flatMap λa=>if c a=aN then [f a] else [])=(l.filter c).map f:=by
 induction l with
 |nil=>rfl
 |cons a l I=>
  rw[Xb,I,Z4];split <;> rfl
abbrev ag(r:List Int):D:=.tup (r.map D.int)
abbrev ahE:Option (Int × Int)->D
 |none=>.non
 |some q=>.tup [.int q.1,.int q.2]
abbrev meE(K:Sky):D:=.tup [.int K.r,.int K.s,.tup (K.M.map ag),.tup (K.H.map au)]
abbrev skE(K:Sky):D:=.tup [meE K,ahE K.ah,.tup (K.G.map ag),.tup (K.F.map D.int)]
structure Vd(K:Sky):Prop where
 r0:0<=K.r
 r8:K.r<=8
 s0:0<=K.s
 s60:K.s<=60
 m0:1<=K.M.length
 m4:K.M.length<=4
 row:∀r ∈ K.M,r.length=K.M.length
 ris:Ris (-1) K.H
 h4:K.H.length<=4
 ah0:∀q,K.ah=aw q->0<=q.1/\q.1 < K.M.length
 g7:K.G.length<=7
 gl:∀g ∈ K.G,g.length=7/\0<=g.getD 0 0/\g.getD 0 0 < K.M.length/\0<=g.getD 2 0
variable {K:Sky}
def sk0:ixS (skE K) (.int 0) S=aw (meE K,S):=rfl
def sk1:ixS (skE K) (.int 1) S=aw (ahE K.ah,S):=rfl
def sk2:ixS (skE K) (.int 2) S=aw (.tup (K.G.map ag),S):=rfl
def sk3:ixS (skE K) (.int 3) S=aw (.tup (K.F.map D.int),S):=rfl
def me0:ixS (meE K) (.int 0) S=aw (.int K.r,S):=rfl
def me1:ixS (meE K) (.int 1) S=aw (.int K.s,S):=rfl
def me2:ixS (meE K) (.int 2) S=aw (.tup (K.M.map ag),S):=rfl
def me3:ixS (meE K) (.int 3) S=aw (.tup (K.H.map au),S):=rfl
def gl7(V:Vd K){g:Int}(u:0<=g)(v:g < K.G.length):∃a b c d e f h,K.G[g.toNat]?=aw [a,b,c,d,e,f,h]/\gi K.G g 0=a/\gi K.G g 1=b/\gi K.G g 2=c/\gi K.G g 3=d/\gi K.G g 6=h/\0<=a/\a < K.M.length/\0<=c:=by
 have hi:g.toNat < K.G.length:=by lia
 obtain⟨L,l,q,C⟩:=V.gl K.G[g.toNat] (ZM hi)
 match j:K.G[g.toNat],L with
 |[a,b,c,d,e,f,h],_=>
  have eq:K.G[g.toNat]?=aw [a,b,c,d,e,f,h]:=by rw[gEG hi,j]
  rw[j] at l q C;refine⟨a,b,c,d,e,f,h,eq,?_,?_,?_,?_,?_,l,q,C⟩ <;> (unfold gi;rw[eq];rfl)
def ix_at{i:Int}(c:0<=i)(h:b[i.toNat]?=aw d):ixS (.tup b) (.int i) S=aw (d,S):=by
 obtain⟨n,rfl⟩:∃n:Nat,i=(n:Int):=⟨i.toNat,by lia⟩;exact AL h
def mP{g:Int}(b:0<=g)(h:K.G[g.toNat]?=aw r):ixS (.tup (K.G.map ag)) (.int g) S=aw (ag r,S):=ix_at b (by rw[Zl,h];rfl)
def qP(V:Vd K){a b:Int}(d:0<=a)(q:a < K.M.length)(B:0<=b)(j:b < K.M.length):∃r,ixS (.tup (K.M.map ag)) (.int a) S=aw (ag r,S)/\ixS (ag r) (.int b) S=aw (.int (gp K a b),S):=by
 have hi:a.toNat < K.M.length:=by lia
 have l:=V.row K.M[a.toNat] (ZM hi);have c:b.toNat < K.M[a.toNat].length:=by lia
 refine⟨K.M[a.toNat],ix_at d (by rw[Zl,gEG hi];rfl),ix_at B ?_⟩;rw[Zl,gEG c];have:gp K a b=K.M[a.toNat][b.toNat]:=by unfold gp Dw.mg2;rw[gEG hi,ZT,gEG c];rfl
 rw[this];rfl
end Lw
namespace Lw
open PySem Ev Sn
variable {p:Nat} {S:Sto} {k:Nat} {Q:D->Sto->Prop} {K:Sky}
def Dk{t u:Bool}{A B:Prop}(b:t=aN->u=aN->A)(hb:(t && u)=aS->B):wIf t (wIf u A B) B:=by
 cases t with
 |false=>exact hb rfl
 |true=>cases u with
  |true=>exact b rfl rfl
  |false=>exact hb rfl
def x5{b:Type}{l:List b}{i:Nat}{a:b}(h:l[i]?=aw a):l.drop i=a::l.drop (i+1):=by
 obtain⟨hi,e⟩:=Zb.mp h;rw[List.drop_eq_getElem_cons hi,e]
def wk{b:Type}{l:List b}{E:b->D}{i:Nat}{d:D}(h:(l.map E)[i]?=aw d):∃a,l[i]?=aw a/\d=E a:=by
 rw[Zl] at h;cases e:l[i]? with
 |none=>rw[e] at h;cases h
 |some a=>rw[e] at h;cases h;exact⟨a,rfl,rfl⟩
def OC{m:Int}(hl:K.H.length<=4)(q:Q (.int (fns K.H m)) S):Ok (evC ae (k+1) 15 [meE K,.int m] S) Q:=by
 refine ax (d:=cC) (ρ:=[aw (meE K),aw (.int m),aD,aD]) rfl rfl ?_;dsimp only[cC,eI];k_is;refine aa me3 ?_;k_is;refine RJ (by rw[Za];lia) (λi l j=>j=S/\fns K.H m=fns (K.H.drop i) m/\∃u v,l=[aw (meE K),aw (.int m),u,v]) (λi d l j hd ⟨c,b,u,v,y⟩=>?_) (λl j ⟨c,b,u,v,y⟩=>?_) ⟨rfl,rfl,aD,aD,rfl⟩
 ·subst c y;obtain⟨B,C,rfl⟩:=wk hd;refine⟨_,show aC (.tup [.name 2,.name 3]) (.tup [.int B.1,.int B.2]) _=_ from qF (by simp) (by simp),?_⟩;k_is;rw[x5 C,fns] at b;refine Dk (λI J=>?_) λh=>?_
  ·k_is;rw[if_pos ⟨of_decide_eq_true I,of_decide_eq_true J⟩] at b;rw[b] at q;exact q
  ·k_is;rw[if_neg (λz=>by rw[decide_eq_true z.1,decide_eq_true z.2] at h;cases h)] at b;exact⟨rfl,b,_,_,rfl⟩
 ·subst c y;k_is;rw[Za,Wj,fns] at b;rw[b] at q;exact q
abbrev aK(K:Sky)(L:List (Int × Int)):Option (Int × Int):=match L.getLast? with
 |none=>K.ah
 |some p=>aw (gi K.G p.1 0,p.2)
abbrev InG(K:Sky)(L:List (Int × Int)):Prop:=∀p ∈ L,0<=p.1/\p.1 < K.G.length
def tV(V:Vd K){n:Nat}(j:S[n]?=aw (.lst (L.map au)))(u:InG K L)(q:Q (ahE (aK K L)) S):Ok (evC ae (k+1) 24 [skE K,.ref n] S) Q:=by
 refine ax (d:=cT) (ρ:=[aw (skE K),aw (.ref n),aD,aD]) rfl rfl ?_;dsimp only[cT,fw];k_is;have tr:lQ (.ref n) S=aw (!(L.map au).isEmpty,S):=by simp only[lQ,aP j]
 refine aa tr ?_;k_is;rcases List.eq_nil_or_concat L with rfl |⟨L',z,rfl⟩
 ·k_is;exact aa sk1 q
 ·rw[List.concat_eq_append] at j u q ⊢;rw[show(!!((L'++[z]).map au).isEmpty)=aS by simp];k_is;have l:=u z (by simp);refine aa (qH (ds:=L'.map au) (e:=au z) (by rw[j,ZQ];rfl)) ?_;rw[show au z = .tup [.int z.1,.int z.2] from rfl];k_is;refine aa sk2 ?_;obtain⟨a,b,c,d,e,f,h,y,v,_⟩:=gl7 V l.1 l.2;refine aa (mP l.1 y) (aa (show ixS (ag [a,b,c,d,e,f,h]) (.int 0) S=aw (.int a,S) from rfl) ?_);k_is
  have:aK K (L'++[z])=aw (a,z.2):=by
   unfold aK;rw[YM];simp[v]
  rw[this] at q;exact q
def HR(V:Vd K){a:Option (Int × Int)}{kd:Int}(b:∀q,a=aw q->0<=q.1/\q.1 < K.M.length)(j:0<=kd)(c:kd < K.M.length)(q:Q (.int (zN K a kd)) S):Ok (evC ae (k+1) 25 [skE K,ahE a,.int kd] S) Q:=by
 refine ax (d:=jG) (ρ:=[aw (skE K),aw (ahE a),aw (.int kd)]) rfl rfl ?_;dsimp only[jG,oP];k_is;cases a with
 |none=>exact aa (show ak .is (ahE aD) .non S=aw (.bl aN,S) from rfl) (by k_is;exact q)
 |some z=>
  refine aa (show ak .is (ahE (aw z)) .non S=aw (.bl aS,S) from rfl) ?_;k_is;obtain⟨v,y⟩:=b z rfl;refine aa (show ixS (ahE (aw z)) (.int 1) S=aw (.int z.2,S) from rfl) ?_;refine aa sk0 (aa me2 (aa (show ixS (ahE (aw z)) (.int 0) S=aw (.int z.1,S) from rfl) ?_));obtain⟨r,l,u⟩:=qP (S:=S) V v y j c;refine aa l (aa u ?_);k_is;exact q
def mQ(V:Vd K){z:Int × Int}{t:Int}(j:0<=z.1)(y:z.1 < K.G.length)(q:Q (.bl (aA K t z)) S):Ok (evC ae (k+1) 26 [skE K,au z,.int t] S) Q:=by
 refine ax (d:=ik) (ρ:=[aw (skE K),aw (au z),aw (.int t),aD,aD]) rfl rfl ?_;dsimp only[ik,mD];rw[show au z = .tup [.int z.1,.int z.2] from rfl];k_is;refine aa sk2 ?_;obtain⟨a,b,c,d,e,f,h,v,_,l,_⟩:=gl7 V j y;refine aa (mP j v) (aa (show ixS (ag [a,b,c,d,e,f,h]) (.int 1) S=aw (.int b,S) from rfl) ?_);k_is;have u:aA K t z=(decide (b<=t) && decide (t < z.2 - K.s)):=by unfold aA jn;rw[l]
 rw[u] at q;cases C:decide (b<=t) with
 |false=>rw[C] at q;k_is;exact q
 |true=>
  rw[C] at q;k_is;refine aa sk0 (aa me1 ?_);k_is;exact q
def OD(V:Vd K){L:List (Int × Int)}{n:Nat}{t:Int}(c:S[n]?=aw (.lst (L.map au)))(j:InG K L)(hl:L.length<=1000)(q:∀b,Sm S b->Q (.int (wts K L t)) b):Ok (evC ae (k+2) 27 [skE K,.ref n,.int t] S) Q:=by
 refine ax (d:=cU) (ρ:=[aw (skE K),aw (.ref n),aw (.int t)]) rfl rfl ?_;dsimp only[cU,fA];k_is;refine⟨by rw[aP c];rfl,?_⟩;refine bI L au (λz=>if aA K t z=aN then [au z] else []) hl (λz _=>by split <;> simp) (jL c) (λi z b l sm=>⟨_,rfl,?_⟩) λb sm=>?_
 ·have:=j z (Zc l);k_is;refine⟨rfl,mQ V this.1 this.2 ?_⟩;k_is;cases aA K t z with
  |true=>k_is;exact⟨rfl,Sm.refl _⟩
  |false=>k_is;exact⟨rfl,Sm.refl _⟩
 ·rw[b9];refine aa (show c9 aS ((L.filter (aA K t)).map au) b=aw (.int (wts K L t),b) by unfold c9 wts;rw[Za]) ?_;k_is;exact q b sm
def cK:∀ (xs:List Int),bK (xs.map D.int)=aw xs
 |[]=>rfl
 |x::xs=>by simp only[Zz,bK,cK xs]
def Dm(h:xs.length < 64):cW aS (xs.map D.int)=aw ((cN xs).map D.int):=by
 unfold cW FP zg;rw[if_pos rfl,cK];dsimp only;rw[if_pos h]
def Dn:(js K).length=K.G.length:=by unfold js;rw[(bu _).length_eq,Za]
def tW(V:Vd K)(q:∀S',Sm S S'->S'[Zw S' - 1]?=aw (.lst ((js K).map D.int))->Zw S<=Zw S' - 1->Q (.ref (Zw S' - 1)) S'):Ok (evC ae (k+1) 28 [skE K] S) Q:=by
 refine ax (d:=cp) (ρ:=[aw (skE K)]) rfl rfl ?_;dsimp only[cp,dD];k_is;refine aa sk2 ?_;k_is;refine bI K.G ag (λg=>[.int (g.getD 1 0)]) (by have:=V.g7;lia) (λ_ _=>Zj _) cu (λi g S' u sm=>⟨_,rfl,?_⟩) λS' sm=>?_
 ·obtain⟨L,_⟩:=V.gl g (Zc u)
  match g,L with
  |[a,b,c,d,e,f,h],_=>
   k_is;exact aa (show ixS (ag [a,b,c,d,e,f,h]) (.int 1) S'=aw (.int b,S') from rfl) ⟨rfl,Sm.refl _⟩
 ·rw[bQ];refine⟨_,show cW aS (K.G.map λg=>D.int (g.getD 1 0))=aw ((js K).map D.int) from ?_,?_⟩
  ·have:=Dm (xs:=K.G.map λg=>g.getD 1 0) (by rw[Za];have:=V.g7;lia);rw[ZS] at this;exact this
  ·have e:Zw (S'++[Ob.lst ((js K).map D.int)]) - 1=Zw S':=by simp
   have sl:Zw S<=Zw S':=by
    cases l:decide (Zw S<=Zw S') with
    |true=>exact of_decide_eq_true l
    |false=>
     exfalso;have j:Zw S' < Zw S:=by have:=of_decide_eq_false l;lia
     have:=sm (Zw S') S[Zw S'] (gEG j);rw[Zr (Zj _)] at this;cases this
   have:=q (S'++[Ob.lst ((js K).map D.int)]) (sm.trans (Sm.app _ _)) (by rw[e];exact bh) (by rw[e];exact sl);rw[e] at this;exact this
def jM{n:Nat}{i:Int}(c:S[n]?=aw (.lst b))(l:0<=i)(h:b[i.toNat]?=aw d):ixS (.ref n) (.int i) S=aw (d,S):=by
 obtain⟨j,rfl⟩:∃j:Nat,i=(j:Int):=⟨i.toNat,by lia⟩;rw[ZG] at h;simp only[ixS,ao,aP c,ZK,Ev.w5 h]
def x6{n:Nat}{j:Nat}(b:S[n]?=aw (.lst d)):slS aD (aw (j:Int)) (.ref n) S=aw (.ref (Zw S),S++[.lst (d.take j)]):=by
 have:jm d aD (aw (j:Int))=d.take j:=by
  by_cases h:j<=d.length
  ·exact CN d j h
  ·unfold jm;rw[Dw.A8 _ _ (by lia),ZG,Nat.min_eq_right (by lia)];show(d.drop 0).take (d.length - 0)=d.take j;rw[List.drop_zero,YF (by lia),YF (by lia)]
 simp only[slS,aP b,this]
def x8{a b:Nat}(c:S[a]?=aw (.lst xs))(hb:S[b]?=aw (.lst y))(hl:xs.length+y.length<=100000):bL .add (.ref a) (.ref b) S=aw (.ref (Zw S),S++[.lst (xs++y)]):=by
 simp only[bL,kD,KP,c,hb];rw[if_pos hl]
def jb{n:Nat}(b:S[n]?=aw (.lst d)):aq c9 (.ref n) S=aw (.int d.length,S):=by simp only[aq,ao,aP b,ZK,c9]
def Dp(h:xs ≠ []):nA aS (xs.map D.int) S=aw (.int (iO xs),S):=by
 cases xs with
 |nil=>exact absurd rfl h
 |cons x xs=>unfold nA;rw[cK]
def HS(V:Vd K){n j:Nat}(hn:S[n]?=aw (.lst (L.map au)))(T:L[j]?=aw z)(O:InG K L)(hl:L.length<=100)(q:∀u,Sm S u->Q (.int (tS K (L.take j) z.1 z.2)) u):Ok (evC ae (k+3) 30 [skE K,.ref n,.int j,.int (jn K z.1)] S) Q:=by
 refine ax (d:=dS) (ρ:=[aw (skE K),aw (.ref n),aw (.int j),aw (.int (jn K z.1)),aD,aD]) rfl rfl ?_;dsimp only[dS,gX];have l:=O z (Zc T);k_is;refine aa (x6 hn) ?_;k_is;have I:Sm S (S++[Ob.lst ((L.map au).take j)]):=Sm.app _ _;have a1:(S++[Ob.lst ((L.map au).take j)])[Zw S]?=aw (Ob.lst ((L.take j).map au)):=by rw[bh,X1]
 generalize Zw S=N1 at *;generalize S++[Ob.lst ((L.map au).take j)]=S1 at *;refine⟨rfl,tW V λS2 B X _=>?_⟩;k_is;refine⟨by rw[aP X];rfl,?_⟩;have y:(js K).length<=7:=by rw[Dn];exact V.g7
 refine bI (js K) D.int (λt=>if (decide (jn K z.1 < t) && aA K t z)=aN then [D.int t] else []) (by lia) (λ_ _=>by split <;> simp) (jL X) (λi t u ht sm=>⟨_,rfl,?_⟩) λb s3=>?_
 ·k_is;cases c:decide (jn K z.1 < t) with
  |false=>k_is;exact⟨rfl,Sm.refl _⟩
  |true=>
   k_is;have C:=sm _ _ (B _ _ (I _ _ hn));refine aa (jM C (by lia) (show(L.map au)[((j:Nat):Int).toNat]?=aw (au z) by rw[ZG,Zl,T];rfl)) ?_;refine⟨rfl,mQ V l.1 l.2 ?_⟩;k_is;cases aA K t z with
   |true=>k_is;exact⟨rfl,Sm.refl _⟩
   |false=>k_is;exact⟨rfl,Sm.refl _⟩
 ·rw[b9];k_is;have lt3:Zw b < Zw (b++[Ob.lst (((js K).filter λt=>decide (jn K z.1 < t) && aA K t z).map D.int)]):=by simp
  have a3:(b++[Ob.lst (((js K).filter λt=>decide (jn K z.1 < t) && aA K t z).map D.int)])[Zw b]?=aw (Ob.lst (((js K).filter λt=>decide (jn K z.1 < t) && aA K t z).map D.int)):=bh;have U:Sm b (b++[Ob.lst (((js K).filter λt=>decide (jn K z.1 < t) && aA K t z).map D.int)]):=Sm.app _ _;have lf:((js K).filter λt=>decide (jn K z.1 < t) && aA K t z).length<=7:=ZX (YK _ _) y;generalize Zw b=N3 at *;generalize b++[Ob.lst (((js K).filter λt=>decide (jn K z.1 < t) && aA K t z).map D.int)]=S4 at *;have v:Sm S4 (S4++[Ob.lst [D.int (jn K z.1)]]):=Sm.app _ _;refine aa (x8 (xs:=[D.int (jn K z.1)]) bh (v _ _ a3) (by rw[Za,Zq];lia)) ?_;k_is;have Z:Sm (S4++[Ob.lst [D.int (jn K z.1)]]) (S4++[Ob.lst [D.int (jn K z.1)]]++[Ob.lst ([D.int (jn K z.1)]++((js K).filter λt=>decide (jn K z.1 < t) && aA K t z).map D.int)]):=Sm.app _ _;have Y:(S4++[Ob.lst [D.int (jn K z.1)]]++[Ob.lst ([D.int (jn K z.1)]++((js K).filter λt=>decide (jn K z.1 < t) && aA K t z).map D.int)])[Zw (S4++[Ob.lst [D.int (jn K z.1)]])]?=aw (Ob.lst ((ir K (L.take j) z.1 z.2).map D.int)):=bh;refine⟨by rw[aP Y];rfl,?_⟩;have sA:=((((I.trans B).trans s3).trans U).trans v).trans Z;have aL:=(((((B.trans s3).trans U).trans v).trans Z)) _ _ a1;refine bI (ir K (L.take j) z.1 z.2) D.int (λt=>[D.int (1+(wts K (L.take j) t:Int))]) (by show((js K).filter λt=>decide (jn K z.1 < t) && aA K t z).length+1<=1000;lia) (λ_ _=>Zj _) (jL Y) (λi t u ht sm=>⟨_,rfl,?_⟩) λJ s7=>?_
  ·k_is;refine⟨rfl,OD V (sm _ _ aL) (λw hw=>O w (Xk hw)) (by rw[Yo];lia) λS8 s8=>?_⟩;k_is;exact⟨rfl,s8⟩
  ·rw[bQ];have em:=Dp (S:=J) (xs:=(ir K (L.take j) z.1 z.2).map λt=>1+(wts K (L.take j) t:Int)) (by unfold ir;simp);rw[ZS] at em;exact aa em (by k_is;exact q J (sA.trans s7))
def HU(V:Vd K){n j:Nat}(O:S[n]?=aw (.lst (L.map au)))(v:L[j]?=aw z)(B:InG K L)(hl:L.length<=100)(q:∀u,Sm S u->Q (.bl (tU K (L.take j) z.1 z.2)) u):Ok (evC ae (k+4) 29 [skE K,.ref n,.int j] S) Q:=by
 refine ax (d:=dR) (ρ:=[aw (skE K),aw (.ref n),aw (.int j),aD,aD,aD,aD,aD,aD,aD]) rfl rfl ?_;dsimp only[dR,gW];have l:=B z (Zc v);obtain⟨a,b,c,d,e,f,h,Y,e0,U,e2,e3,Z,_⟩:=gl7 V l.1 l.2;have hi:=jM O (show(0:Int)<=(j:Int) by lia) (show(L.map au)[((j:Nat):Int).toNat]?=aw (au z) by rw[ZG,Zl,v];rfl);k_is;refine aa sk2 (aa hi (aa (show ixS (au z) (.int 0) S=aw (.int z.1,S) from rfl) (aa (mP l.1 Y) ?_)));rw[show ag [a,b,c,d,e,f,h] = .tup [.int a,.int b,.int c,.int d,.int e,.int f,.int h] from rfl];k_is;have J:jn K z.1=b:=U;have eh:tU K (L.take j) z.1 z.2=(decide (0 < h) && (aA K b z && decide (h < tS K (L.take j) z.1 z.2))):=by unfold tU;rw[Z,J]
 rw[eh] at q;cases C:decide (0 < h) with
 |false=>rw[C] at q;k_is;exact q S (Sm.refl S)
 |true=>
  rw[C] at q;k_is;refine aa hi ?_;refine⟨rfl,mQ V l.1 l.2 ?_⟩;k_is;cases I:aA K b z with
  |false=>rw[I] at q;k_is;exact q S (Sm.refl S)
  |true=>
   rw[I] at q;k_is
   have rg:=HS (k:=k) (Q:=λy X=>wCx .gt y (.int h) X λd T=>Q d T) V O v B hl λu sm=>by
    k_is;exact q u sm
   rw[J] at rg;exact⟨rfl,rg⟩
def HV(V:Vd K){j:Nat}{m:Int}(q:∀v,Sm S v->Q (.bl (late K j m)) v):Ok (evC ae (k+2) 34 [skE K,.int j,.int m] S) Q:=by
 refine ax (d:=cq) (ρ:=[aw (skE K),aw (.int j),aw (.int m),aD,aD,aD,aD,aD,aD]) rfl rfl ?_;dsimp only[cq,dE];k_is;refine aa sk0 ?_;rw[show meE K = .tup [.int K.r,.int K.s,.tup (K.M.map ag),.tup (K.H.map au)] from rfl];k_is;refine⟨rfl,tW V λu y z _=>?_⟩;k_is;refine aa (jb z) ?_;k_is;rw[Za];have r0:=V.r0;have c:late K j m=match (js K)[(K.r+j).toNat]? with |some t=>decide (t < m - K.s) |none=>aS:=rfl
 refine eN (λh=>?_) λh=>?_
 ·have b:(K.r+j).toNat < (js K).length:=by have:=of_decide_eq_true h;lia
  rw[gEG b] at c;k_is;refine aa (jM z (by lia) (show((js K).map D.int)[(K.r+(j:Int)).toNat]?=aw (.int (js K)[(K.r+(j:Int)).toNat]) by rw[Zl,gEG b];rfl)) ?_;k_is;have:=q u y;rw[c] at this;exact this
 ·have l:(js K).length<=(K.r+j).toNat:=by have:=of_decide_eq_false h;lia
  rw[Zr l] at c;have:=q u y;rw[c] at this;exact this
abbrev mR:Option Int->D
 |none=>.non
 |some m=>.int m
def oY(V:Vd K){a:Option (Int × Int)}{g:Int}{j:Nat}(L:∀q,a=aw q->0<=q.1/\q.1 < K.M.length)(I:0<=g)(O:g < K.G.length)(q:∀y,Sm S y->Q (mR (Sn.step K a g j)) y):Ok (evC ae (k+3) 33 [skE K,ahE a,.int g,.int j] S) Q:=by
 refine ax (d:=cE) (ρ:=[aw (skE K),aw (ahE a),aw (.int g),aw (.int j),aD,aD,aD,aD,aD,aD,aD,aD]) rfl rfl ?_;dsimp only[cE,eK];obtain⟨l,b,c,d,e,f,h,T,Z,e1,z,X,e6,Y,U,c0⟩:=gl7 V I O;k_is;refine aa sk2 (aa (mP I T) ?_);rw[show ag [l,b,c,d,e,f,h] = .tup [.int l,.int b,.int c,.int d,.int e,.int f,.int h] from rfl];k_is;refine aa sk0 ?_;refine⟨rfl,HR V L Y U ?_⟩;k_is;refine⟨rfl,OC V.h4 ?_⟩;k_is
 have em:fns K.H (if zN K a l > c then zN K a l else c)=opm K.H (front K a g):=by
  have:=Dj (K:=K) (ah:=a) (g:=g) (by rw[z];exact c0);rw[Z,z] at this;rw[this,xY V.ris]
 rw[em];have J:Sn.step K a g j=if (decide (d < opm K.H (front K a g)) || late K j (opm K.H (front K a g)))=aN then aD else aw (opm K.H (front K a g)):=by unfold Sn.step;rw[X]
 rw[J] at q;cases C:decide (d < opm K.H (front K a g)) with
 |true=>rw[C] at q;k_is;exact q S (Sm.refl S)
 |false=>
  rw[C] at q;k_is;refine⟨rfl,HV V λu v=>?_⟩;k_is;cases B:late K j (opm K.H (front K a g)) with
  |true=>rw[B] at q;k_is;exact q u v
  |false=>rw[B] at q;k_is;exact q u v
def Sm.setNew{f:Nat}(h:Sm S b)(c:S.length<=f):Sm S (b.set f o):=λi u e=>by
 have hi:=(Zb.mp e).1;rw[Zx (by lia)];exact h i u e
def OE{g:Int}(b:0<=g)(c:g < K.G.length):jn K g ∈ js K:=by
 have hi:g.toNat < K.G.length:=by lia
 refine(bu _).mem_iff.mpr (Zy.mpr ⟨K.G[g.toNat],ZM hi,?_⟩);unfold jn gi;rw[gEG hi];rfl
def tX(V:Vd K)(v:InG K L):∀q,aK K L=aw q->0<=q.1/\q.1 < K.M.length:=λq e=>by
 unfold aK at e;cases h:L.getLast? with
 |none=>rw[h] at e;exact V.ah0 q e
 |some z=>
  rw[h] at e;cases e;have j:=v z (Xl h);obtain⟨a,b,c,d,e,f,h,T,y,C,O,J,B,u,l,I⟩:=gl7 V j.1 j.2;show 0<=gi K.G z.1 0/\gi K.G z.1 0 < K.M.length;rw[y];exact⟨u,l⟩
def bj:aK K (L++[z])=aw (gi K.G z.1 0,z.2):=by
 unfold aK;rw[YM];rfl
def Dq:∀ (os:List Int) (a:Option (Int × Int)) (L:List (Int × Int)) (j:Nat),rn K os a L = .inl j->j < L.length+os.length
 |[],_,_,_,h=>by cases h
 |g::os,a,L,j,h=>by
  rw[rn] at h;rw[Zo];split at h
  ·cases h;lia
  ·split at h
   ·cases h;lia
   ·have:=Dq os _ _ j h;rw[Zf,Zq] at this
    lia
def jc:∀ (os:List Int) (a:Option (Int × Int)) (L R:List (Int × Int)),rn K os a L = .inr R->R.length=L.length+os.length
 |[],_,_,_,h=>by cases h;rfl
 |g::os,a,L,R,h=>by
  rw[rn] at h;rw[Zo];split at h
  ·cases h
  ·split at h
   ·cases h
   ·have:=jc os _ _ R h;rw[Zf,Zq] at this
    lia
structure Ends(K:Sky)(os:List Int)(L:List (Int × Int)):Prop where
 stuck:∀j,rn K os K.ah [] = .inl j->L.length=j
 lands:∀R,rn K os K.ah [] = .inr R->L=R
def tY(V:Vd K){os:List Int}(ho:∀g ∈ os,0<=g/\g < K.G.length)(lo:os.length<=7)
  (q:∀n L C,Sm S C->C[n]?=aw (.lst (L.map au))->Zw S<=n->Ends K os L->Q (.ref n) C):Ok (evC ae (k+5) 31 [skE K,.tup (os.map D.int)] S) Q:=by
 refine ax (d:=bX) (ρ:=[aw (skE K),aw (.tup (os.map D.int)),aD,aD,aD,aD]) rfl rfl ?_;dsimp only[bX,dh];k_is;refine OB (by rw[Za];lia) (λi ρ C=>Sm S C/\∃L u v w,ρ=[aw (skE K),aw (.tup (os.map D.int)),aw (.ref (Zw S)),u,v,w]/\C[Zw S]?=aw (.lst (L.map au))/\L.length=i/\InG K L/\rn K os K.ah []=rn K (os.drop i) (aK K L) L) (λi d ρ S1 hd ⟨Y,L,u,v,w,er,X,hi,I,b⟩=>?_) (λρ S1 ⟨Y,L,u,v,w,er,X,hi,I,b⟩=>?_) ⟨Sm.app _ _,[],aD,aD,aD,rfl,bh,rfl,λ_ h=>(by simp at h),rfl⟩
 ·subst er;obtain⟨g,hg,rfl⟩:=wk hd;have B:=ho g (Zc hg);have hil:i < os.length:=(Zb.mp hg).1;rw[x5 hg,rn,hi] at b;refine⟨_,qF (by simp) (by simp),?_⟩;k_is;refine⟨rfl,tV V X I ?_⟩;refine⟨rfl,oY V (tX V I) B.1 B.2 λc Z=>?_⟩;k_is;cases O:Sn.step K (aK K L) g i with
  |none=>
   rw[O] at b;refine aa (show ak .is (mR aD) .non c=aw (.bl aN,c) from rfl) ?_;k_is;exact q _ L c (Y.trans Z) (Z _ _ X) (Zj _) ⟨λj e=>by rw[b] at e;cases e;exact hi,λR e=>by rw[b] at e;cases e⟩
  |some m=>
   rw[O] at b;refine aa (show ak .is (mR (aw m)) .non c=aw (.bl aS,c) from rfl) ?_;rw[show mR (aw m) = .int m from rfl];k_is;have y:=Z _ _ X;refine⟨gk y,?_⟩;rw[mN y (by rw[Za];lia)];k_is;have lt2:Zw S < c.length:=(Zb.mp y).1;have l:(c.set (Zw S) (Ob.lst (L.map au++[D.tup [D.int g,D.int m]])))[Zw S]?=aw (.lst ((L++[(g,m)]).map au)):=by rw[gj lt2,ZQ];rfl
   have s3:Sm S (c.set (Zw S) (Ob.lst (L.map au++[D.tup [D.int g,D.int m]]))):=Sm.setNew (Y.trans Z) (Zj _);generalize c.set (Zw S) (Ob.lst (L.map au++[D.tup [D.int g,D.int m]]))=S3 at *
   have T:InG K (L++[(g,m)]):=λz hz=>by
    rcases ZP.mp hz with hz |hz
    ·exact I z hz
    ·rw[ZE.mp hz];exact B
   have hz3:(L++[(g,m)])[i]?=aw (g,m):=by rw[Zp (by lia),hi,Yd];rfl
   have U:(L++[(g,m)]).take i=L:=by rw[<-hi,Ws]
   refine⟨rfl,HU V l hz3 T (by rw[Zf,Zq];lia) λS4 J=>?_⟩;rw[U,HQ λz hz=>OE (I z hz).1 (I z hz).2];k_is;dsimp only at b;cases hh:bP K L g m with
   |true=>
    rw[hh,if_pos rfl] at b;k_is;refine aa (x6 (J _ _ l)) ?_;k_is;have a5:(S4++[Ob.lst (((L++[(g,m)]).map au).take i)])[Zw S4]?=aw (.lst (L.map au)):=by rw[bh,<-X1,U]
    have l4:Zw S<=Zw S4:=Y4 (Zb.mp (J _ _ l)).1;exact q _ L _ ((s3.trans J).trans (Sm.app _ _)) a5 l4 ⟨λj e=>by rw[b] at e;cases e;exact hi,λR e=>by rw[b] at e;cases e⟩
   |false=>
    rw[hh,if_neg Zh] at b;k_is;exact⟨s3.trans J,L++[(g,m)],_,_,_,rfl,J _ _ l,by rw[Zf,Zq];lia,T,by rw[bj];exact b⟩
 ·subst er;k_is;rw[Za,Wj,rn] at b;exact q _ L S1 Y X (Zj _) ⟨λj e=>(by rw[b] at e;cases e),λR e=>(by rw[b] at e;cases e;rfl)⟩
end Lw
namespace Lw
open PySem Ev
variable {p:Nat} {S:Sto} {k:Nat} {Q:D->Sto->Prop}
end Lw
namespace Lw
open PySem Ev Sn
variable {p:Nat} {S:Sto} {k:Nat} {Q:D->Sto->Prop} {K:Sky}
def jd(r:List Int):TDs p S (r.map Dw.D.int) (r.map D.int):=by
 induction r with
 |nil=>exact cI
 |cons a r I=>exact aJ bZ I
def jN:∀ (M:List (List Int)),TDs p S (Dw.Ba M) (M.map ag)
 |[]=>cI
 |r::M=>aJ (dk (jd r)) (jN M)
abbrev ahT:Option (Int × Int)->Dw.D
 |none=>.non
 |some q=>.tup [.int q.1,.int q.2]
def RK:∀ (a:Option (Int × Int)),TD p S (ahT a) (ahE a)
 |none=>Mb
 |some q=>dk (aJ bZ (aJ bZ cI))
structure Ord(K:Sky)(os:List Int):Prop where
 nd:os.Nodup
 bd:∀g ∈ os,0<=g/\g < K.G.length
 ln:os.length=K.G.length
 fx:∃r,os=K.F++r
 pm:os.Perm ((Zg K.G.length).map λi=>Int.ofNat i)
def JN{b:List D}(i:Nat)(d:D)(h:b[i]?=aw d):(λi=>(b[i]?).getD .non) i=d:=by
 show(b[i]?).getD .non=d;rw[h];rfl
def gm{i:Int}(b:0<=i)(c:i < 1000):lim i=aN:=by simp only[lim,bAE,decide_eq_true_eq];lia
def OG{n:Nat}{lo:Int}{T:Tg}{c:XA}{y:Rho}{Q:List D->Sto->Prop}(f:Nat->D)(hl:n<=1000)(step:∀ (i:Nat),i < n->∃b,aC T (.int (lo+i)) y=aw b/\Ok (c b S) λd l=>d=[f i]/\l=S)(q:Q ((Zg n).map f) S) :
  Ok (bq (nxR lo n) T c y LF 0 S) λd S2=>d.length<=100000/\Q d S2:=by
 refine v7 (by lia) (λi j v=>v=S/\j=(Zg i).map f) (λi j v hi ⟨e,u⟩=>?_) (λd v ⟨e,u⟩=>?_) ⟨rfl,rfl⟩
 ·subst e;obtain⟨b,C,d,l,z,I,B⟩:=step i hi;exact⟨b,C,d,l,z,B,by rw[u,I,Xo,ZQ];rfl⟩
 ·subst e u;exact⟨by rw[Za,ZB];lia,q⟩
abbrev mid(M:List (List Int))(n c a:Nat):List (List Int):=(Zg n).map λi=>if i < a then Dw.aZ M n c i else (M[i]?).getD []
def je{n c a i:Nat}(hi:i < n):(mid M n c a)[i]?=aw (if i < a then Dw.aZ M n c i else (M[i]?).getD []):=by
 unfold mid;rw[Zl,Z6 hi];rfl
def Ds{n c:Nat}(h:Dw.Mat n M):mid M n c 0=M:=by
 apply Ys;intro i;by_cases hi:i < n
 ·rw[je hi,if_neg (by lia)];have:i < M.length:=by rw[h.len];exact hi
  rw[gEG this];rfl
 ·rw[Zr (by unfold mid;rw[Za,ZB];lia),Zr (by rw[h.len];lia)]
def HW{n c:Nat}:mid M n c n=(Zg n).map (Dw.aZ M n c):=by
 unfold mid;refine ZZ λi hi=>?_;rw[if_pos (ZJ.mp hi)]
def HX{n c a:Nat}(d:a < n):(mid M n c a).set a (Dw.aZ M n c a)=mid M n c (a+1):=by
 apply Ys;intro i;by_cases hi:i < n
 ·rw[je hi];by_cases b:i=a
  ·subst b;rw[ZU (by unfold mid;rw[Za,ZB];lia),if_pos (by lia)]
  ·rw[Zx (Ne.symm b),je hi];by_cases h:i < a
   ·rw[if_pos h,if_pos (by lia)]
   ·rw[if_neg h,if_neg (by lia)]
 ·rw[Zr (by rw[Yc];unfold mid;rw[Za,ZB];lia),Zr (by unfold mid;rw[Za,ZB];lia)]
def RL{n c a b:Nat}(h:Dw.Mat n M)(hc:c < n)(hb:b < n):Dw.mg2 (mid M n c a) c b=Dw.mg2 M c b:=by
 unfold Dw.mg2;rw[je hc];split
 ·rw[ZT,Dw.si M hb];obtain⟨_,_,_,_,d,_⟩:=h.at hc hc;show(if Dw.mg2 M c c+Dw.mg2 M c b < Dw.mg2 M c b then Dw.mg2 M c c+Dw.mg2 M c b else Dw.mg2 M c b)=_;rw[if_neg (by lia)];rfl
 ·rfl
def RM{n c a b:Nat}(d:a < n):Dw.mg2 (mid M n c a) a b=Dw.mg2 M a b:=by
 unfold Dw.mg2;rw[je d,if_neg (ZL _)];rfl
def RowsS.at(h:RowsS p S u M){n:Nat}{L:Nat}(q:S[L]?=aw (.lst u)){i j:Int}(I:0<=i)(J:0<=j)(c:∃r x,M[i.toNat]?=aw r/\r[j.toNat]?=aw x/\x=Dw.mg2 M i.toNat j.toNat) :
  ∃a,ixS (.ref L) (.int i) S=aw (.ref a,S)/\ixS (.ref a) (.int j) S=aw (.int (Dw.mg2 M i.toNat j.toNat),S):=by
 obtain⟨r,x,b,l,ex⟩:=c;obtain⟨a,d,v,z⟩:=h.row _ r b;exact⟨a,jM q I d,jM z J (by rw[Zl,l,ex];rfl)⟩
def wm{n i j:Nat}(hl:M.length=n)(d:∀r ∈ M,r.length=n)(hi:i < n)(l:j < n):∃r x,M[i]?=aw r/\r[j]?=aw x/\x=Dw.mg2 M i j:=by
 have b:i < M.length:=by lia
 have c:j < M[i].length:=by rw[d _ (ZM b)];exact l
 refine⟨M[i],M[i][j],gEG b,gEG c,?_⟩;unfold Dw.mg2;rw[gEG b,ZT,gEG c];rfl
def Dt{n c a:Nat}(h:Dw.Mat n M):∀r ∈ mid M n c a,r.length=n:=λr b=>by
 unfold mid at b;obtain⟨i,hi,rfl⟩:=Zy.mp b;have hi:=ZJ.mp hi;split
 ·exact Dw.sh M n c i
 ·have:i < M.length:=by rw[h.len];exact hi
  rw[gEG this];exact h.row _ (ZM this)
def HY{n c a:Nat}:(mid M n c a).length=n:=by unfold mid;rw[Za,ZB]
def RowsS.set{L i a:Nat}(h:RowsS p S d M)(C:S[L]?=aw (.lst d))(hi:i < M.length)(y:a ≠ p)(Z:S[a]?=aw (.lst (r.map D.int)))(v:a ≠ L)(B:∀ (i:Nat) r b,M[i]?=aw r->d[i]?=aw (D.ref b)->b ≠ L):RowsS p (S.set L (.lst (d.set i (.ref a)))) (d.set i (.ref a)) (M.set i r):=by
 refine⟨by rw[Yc,Yc];exact h.len,λj u c=>?_⟩;by_cases l:j=i
 ·subst l;rw[ZU hi] at c;cases c;exact⟨a,by rw[ZU (by rw[h.len];exact hi)],y,by rw[Zx (Ne.symm v)];exact Z⟩
 ·rw[Zx (Ne.symm l)] at c;obtain⟨b,q,nb,z⟩:=h.row j u c;have:=B j u b c q;exact⟨b,by rw[Zx (Ne.symm l)];exact q,nb,by rw[Zx (Ne.symm this)];exact z⟩
def HZ{L n:Nat}(h:RowsS p S l M)(v:S[L]?=aw (.lst l))(y:∀r ∈ M,0 < r.length):∀ (i:Nat) r b,M[i]?=aw r->l[i]?=aw (D.ref b)->b ≠ L:=λi r b q c u=>by
 obtain⟨B,j,_,z⟩:=h.row i r q;rw[c] at j;cases j;rw[u,v] at z;cases z;rw[Zl] at c;cases d:r[i]? with
 |none=>rw[d] at c;cases c
 |some x=>rw[d] at c;cases c
end Lw
namespace Lw
open PySem Ev Sn L2
variable {p:Nat} {S:Sto} {k:Nat} {Q:D->Sto->Prop} {K:Sky}
def Kp.len{p:Nat}(h:Ev.Kp p S b)(j:p < b.length):S.length<=b.length:=by
 by_cases d:S.length<=b.length
 ·exact d
 ·exfalso;have c:b.length < S.length:=by lia
  have:=h b.length S[b.length] (by lia) (gEG c);rw[Zr (Zj _)] at this;cases this
def x9{n:Nat}{i:Int}(c:S[n]?=aw (.lst d))(j:0<=i)(l:i.toNat < d.length):jx (.ref n) (.int i) v S=aw (S.set n (.lst (d.set i.toNat v))):=by
 have b:ixN d.length i=aw i.toNat:=by
  unfold ixN;rw[if_pos (by lia),if_pos (by lia)]
 simp only[jx,c,b,ZK]
def Du{n L:Nat}(I:S[L]?=aw (.lst l))(B:RowsS p S l M)(y:Dw.Mat n M)(T:n<=4)(q:∀j,Sm S j->Q (.tup (M.map ag)) j) :
  rW (wSs (evC ae (k+1)) (gM ae) 57 (fb.drop 3)) [aw pt,u,v,aw (.ref L),w,x] S (out Q):=by
 dsimp only[fb,Xs];k_is;refine⟨by rw[aP I];rfl,?_⟩;have le:l.length=n:=by rw[B.len,y.len]
 refine mM n (λi=>(l[i]?).getD .non) (λi b j=>j=S/\b=(M.take i).map ag) (λi b j hi ⟨e,_⟩=>by subst e;rw[<-le];exact CO I _ JN) (by lia) (λi b c hi ⟨z,d⟩=>?_) (λJ c ⟨z,d⟩=>⟨by rw[d,Za,Yo];lia,?_⟩) ⟨rfl,rfl⟩
 ·subst z;have C:i < M.length:=by rw[y.len];exact hi
  obtain⟨a,O,U,Z⟩:=B.row i M[i] (gEG C);simp only[O,ZT];refine⟨_,rfl,?_⟩;k_is;refine aa (show aq cM (.ref a) c=aw (.tup (M[i].map D.int),c) by simp only[aq,ao,aP Z,ZK,cM]) ?_;refine⟨rfl,?_⟩;rw[d,Z8 C,ZQ];rfl
 ·subst z;rw[YF (by rw[y.len];exact Zj _)] at d;subst d;refine aa (show cM aS (M.map ag) c=aw (.tup (M.map ag),c) from rfl) ?_;k_is;exact q c (Sm.refl _)
def Dv(h:Pot p S)(q:∀n M B,Dr p S B->Dw.Mat n M->1<=n->n<=4->Dw.sg n n M->Q (.tup (M.map ag)) B):Ok (evC ae (k+2) 56 [.ref p] S) Q:=by
 refine ax (d:=io) (ρ:=[aw (.ref p),aD,aD,aD,aD,aD]) rfl rfl ?_;dsimp only[io,fb];k_is;refine⟨rfl,aF h (by decide) (by decide) λr0 S0 r1 r2 d0=>?_⟩;k_is;refine⟨rfl,aF d0.pot (by decide) (by decide) λf0 S1 f1 f2 d01=>?_⟩;k_is;have d1:=d0.trans d01;obtain⟨n,rfl⟩:∃n:Nat,r0=(n:Int):=⟨r0.toNat,by lia⟩
 obtain⟨far,at1,hf⟩:∃e:Int,atI [D.int 3,D.int 12,D.int 40] f0=aw (D.int e)/\0 < e/\e<=40:=by
  have:f0=0\/f0=1\/f0=2:=by lia
  rcases this with rfl |rfl |rfl
  ·exact⟨3,rfl,by decide,by decide⟩
  ·exact⟨12,rfl,by decide,by decide⟩
  ·exact⟨40,rfl,by decide,by decide⟩
 refine⟨_,at1,?_⟩;k_is;have e1:((1:Int)+n).toNat=n+1:=by lia
 have l1:lim (1+(n:Int))=aN:=gm (by lia) (by lia);refine⟨l1,?_⟩;rw[e1];refine v7 (by lia) (λi C B=>Dr p S1 B/\∃M:List (List Int),M.length=i/\RowsS p B C M/\∀r ∈ M,r.length=n+1/\∀x ∈ r,1<=x/\x<=99) (λi C J hi ⟨d2,M,lM,rM,bM⟩=>⟨_,rfl,?_⟩) (λl J ⟨d2,M,lM,rM,bM⟩=>⟨by rw[rM.len];lia,?_⟩) ⟨Dr.refl d1.pot,[],rfl,RowsS.nil,λr z=>by simp at z⟩
 ·k_is;refine⟨l1,?_⟩;rw[e1];refine v7 (by lia) (λj C B=>Dr p J B/\∃r:List Int,C=r.map D.int/\r.length=j/\∀x ∈ r,1<=x/\x<=99) (λj C S3 hj ⟨O,r,ea,lr,br⟩=>⟨_,rfl,?_⟩) (λl S3 ⟨O,r,ea,lr,br⟩=>⟨by rw[ea,Za];lia,?_⟩) ⟨Dr.refl d2.pot,[],rfl,rfl,λx hx=>by simp at hx⟩
  ·k_is;refine⟨rfl,aF O.pot hf.1 (by lia) λx S4 x1 x2 d4=>?_⟩;k_is;refine⟨O.trans d4,r++[1+x],by rw[ea,ZQ];rfl,by simp[lr],λy hy=>?_⟩;rcases ZP.mp hy with hy |hy
   ·exact br y hy
   ·simp at hy;lia
  ·subst ea;k_is;have lt:=O.pot.lt;refine⟨(d2.trans O).thenSm (Sm.app _ _),M++[r],by simp[lM],((rM.keep O.kp).keep (Sm.app _ _).kp).snoc (by lia) bh,λr' hr'=>?_⟩;rcases ZP.mp hr' with hr' |hr'
   ·exact bM r' hr'
   ·simp at hr';subst hr';exact⟨lr,br⟩
 ·have lt2:=d2.pot.lt;have O:Dr p S (J++[Ob.lst l]):=(d1.trans d2).thenSm (Sm.app _ _);have r3:RowsS p (J++[Ob.lst l]) l M:=rM.keep (Sm.app _ _).kp;have a3:(J++[Ob.lst l])[J.length]?=aw (Ob.lst l):=bh;have m3:Dw.Mat (n+1) M:=⟨lM,λr z=>(bM r z).1,λr z=>(bM r z).2⟩;have lS:S.length<=J.length:=Kp.len (d1.trans d2).kp lt2;have ne3:J.length ≠ p:=by lia
  revert a3 r3 O;generalize J++[Ob.lst l]=S3;generalize J.length=L at *;intro O r3 a3;k_is;refine⟨l1,?_⟩;rw[e1];refine mL (by lia) (λc ρ B=>Dr p S B/\∃l M u v,ρ=[aw (.ref p),aw (.int (1+(n:Int))),aw (.int far),aw (.ref L),u,v]/\B[L]?=aw (.lst l)/\RowsS p B l M/\Dw.Mat (n+1) M/\Dw.sg (n+1) c M) (λc ρ S4 hc ⟨d4,l,M,u,v,U,I,z,T,tr⟩=>?_) (λρ S4 ⟨d4,l,M,u,v,U,I,z,T,tr⟩=>?_) ⟨O,l,M,aD,aD,rfl,a3,r3,m3,λ_ _ _ _ _ h=>absurd h (Wo _)⟩
  ·subst U;refine⟨_,rfl,?_⟩;k_is;refine⟨l1,?_⟩;rw[e1];refine mL (by lia) (λa ρ B=>Dr p S B/\∃l v,ρ=[aw (.ref p),aw (.int (1+(n:Int))),aw (.int far),aw (.ref L),aw (.int (0+(c:Int))),v]/\B[L]?=aw (.lst l)/\RowsS p B l (mid M (n+1) c a)) (λa ρ X ha ⟨d5,l,v,U,I,z⟩=>?_) (λρ X ⟨d5,l,v,U,I,z⟩=>?_) ⟨d4,l,v,rfl,I,by rw[Ds T];exact z⟩
   ·subst U;refine⟨_,rfl,?_⟩;k_is;refine⟨l1,?_⟩;rw[e1];have ml:=@HY M (n+1) c a;have mr:=Dt (c:=c) (a:=a) T;have Z:∀x:Nat,((0:Int)+x).toNat=x:=λx=>by lia
    refine OG (λb=>.int (if Dw.mg2 M a c+Dw.mg2 M c b < Dw.mg2 M a b then Dw.mg2 M a c+Dw.mg2 M c b else Dw.mg2 M a b)) (by lia) (λb hb=>⟨_,rfl,?_⟩) ?_
    ·k_is;obtain⟨x1,i1,j1⟩:=RowsS.at (n:=0) z I (i:=0+(a:Int)) (j:=0+(b:Int)) (by lia) (by lia) (by rw[Z,Z];exact wm ml mr ha hb);obtain⟨x2,i2,j2⟩:=RowsS.at (n:=0) z I (i:=0+(a:Int)) (j:=0+(c:Int)) (by lia) (by lia) (by rw[Z,Z];exact wm ml mr ha hc);obtain⟨x3,i3,j3⟩:=RowsS.at (n:=0) z I (i:=0+(c:Int)) (j:=0+(b:Int)) (by lia) (by lia) (by rw[Z,Z];exact wm ml mr hc hb);rw[Z,Z,RM ha] at j1 j2;rw[Z,Z,RL T hc hb] at j3;refine aa i1 (aa j1 (aa i2 (aa j2 (aa i3 (aa j3 ?_)))));k_is;exact⟨rfl,rfl⟩
    ·have ef:((Zg (n+1)).map λb=>D.int (if Dw.mg2 M a c+Dw.mg2 M c b < Dw.mg2 M a b then Dw.mg2 M a c+Dw.mg2 M c b else Dw.mg2 M a b))=(Dw.aZ M (n+1) c a).map D.int:=by unfold Dw.aZ;rw[ZS];rfl
     rw[ef];k_is;have lt5:=d5.pot.lt;have Y:=Sm.app X [Ob.lst ((Dw.aZ M (n+1) c a).map D.int)] _ _ I;have lL:L < X.length:=(Zb.mp I).1;have le:l.length=n+1:=by rw[z.len,ml]
     refine⟨_,x9 Y (by lia) (by lia),?_⟩;k_is;rw[Z];have hr':RowsS p (X++[Ob.lst ((Dw.aZ M (n+1) c a).map D.int)]) l (mid M (n+1) c a):=z.keep (Sm.app _ _).kp;have hr2:=RowsS.set (i:=a) (a:=X.length) (r:=Dw.aZ M (n+1) c a) hr' Y (by lia) (by lia) bh (by lia) (HZ (n:=0) hr' Y λr hh=>by rw[mr r hh];lia);rw[HX ha] at hr2;have kA:Ev.Kp p S ((X++[Ob.lst ((Dw.aZ M (n+1) c a).map D.int)]).set L (.lst (l.set a (.ref X.length)))):=(d5.kp.trans (Sm.app _ _).kp).setNew lS;refine⟨⟨kA,((Dr.sm d5.pot (Sm.app _ _)).pot).setNe ne3⟩,_,_,rfl,?_,hr2⟩;rw[gj (by rw[Zf];lia)]
   ·subst U;k_is;rw[HW] at z;exact⟨d5,l,_,_,_,rfl,I,z,Dw.Bb T hc,Dw.A9 T hc tr (Dw.Fa T hc)⟩
  ·subst U;have tail:=Du (k:=k) (p:=p) (Q:=Q) (pt:=.ref p) (u:=aw (.int (1+(n:Int)))) (v:=aw (.int far)) (w:=u) (x:=v) I z T (by lia) λB sm=>q (n+1) M B (d4.thenSm sm) T (by lia) (by lia) tr;dsimp only[fb,Xs] at tail;exact tail
def tZ:∀ {H:List (Int × Int)} {lo x y:Int},Ris lo H->lo < x->(∀q ∈ H,q.2 < x)->x < y->Ris lo (H++[(x,y)])
 |[],lo,x,y,_,h1,_,h3=>⟨h1,h3,trivial⟩
 |q::H,lo,x,y,h,h1,h2,h3=>by
  rw[Ris] at h;exact⟨h.1,h.2.1,tZ h.2.2 (h2 q Zi) (λr b=>h2 r (Ze _ b)) h3⟩
def qQ:∀ {H:List (Int × Int)} {lo:Int} {q:Int × Int},Ris lo H->q ∈ H->lo < q.1/\q.1 < q.2
 |q'::H,lo,q,h,hq=>by
  rw[Ris] at h;rcases Zn.mp hq with rfl |hq
  ·exact⟨h.1,h.2.1⟩
  ·have:=qQ h.2.2 hq
   lia
def ua:∀ {H:List (Int × Int)} {lo:Int},Ris lo H->∀ (i:Nat) q b,H[i]?=aw q->H[i+1]?=aw b->q.2 < b.1
 |q0::H,lo,h,0,q,b,e1,e2=>by
  rw[Ris] at h;cases e1;rw[YA] at e2;exact(qQ h.2.2 (Zc e2)).1
 |q0::H,lo,h,i+1,q,b,e1,e2=>by
  rw[Ris] at h;rw[YA] at e1 e2;exact ua h.2.2 i q b e1 e2
structure MeOk(r s:Int)(M:List (List Int))(H:List (Int × Int)):Prop where
 r0:0<=r
 r8:r<=8
 s0:0<=s
 s60:s<=60
 mat:Dw.Mat M.length M
 m1:1<=M.length
 m4:M.length<=4
 tri:Dw.sg M.length M.length M
 ris:Ris (-1) H
 h4:H.length<=4
 hb:∀q ∈ H,q.2<=999
def wn(h:Pot p S)(q:∀r s M H l,Dr p S l->MeOk r s M H->Q (.tup [.int r,.int s,.tup (M.map ag),.tup (H.map au)]) l):Ok (evC ae (k+3) 57 [.ref p] S) Q:=by
 refine ax (d:=fq) (ρ:=[aw (.ref p),aD,aD,aD,aD]) rfl rfl ?_;dsimp only[fq,iZ];have lt:=h.lt;k_is;have d0:Dr p S (S++[Ob.lst []]):=Dr.sm h (Sm.app _ _);have a0:(S++[Ob.lst []])[Zw S]?=aw (Ob.lst (([]:List (Int × Int)).map au)):=bh;have B:Zw S ≠ p:=by lia
 generalize S++[Ob.lst []]=S0 at *;refine⟨rfl,aF d0.pot (by decide) (by decide) λZ S1 i1 i2 Y=>?_⟩;k_is
 obtain⟨fr,at1,hf⟩:∃e:Int,atI [D.int 1,D.int 5] Z=aw (D.int e)/\0 < e/\e<=5:=by
  have:Z=0\/Z=1:=by lia
  rcases this with rfl |rfl
  ·exact⟨1,rfl,by decide,by decide⟩
  ·exact⟨5,rfl,by decide,by decide⟩
 refine⟨_,at1,?_⟩;refine⟨rfl,aF Y.pot hf.1 (by lia) λn0 S2 n1 n2 d2=>?_⟩;k_is;obtain⟨n,rfl⟩:∃n:Nat,n0=(n:Int):=⟨n0.toNat,by lia⟩;refine⟨gm (by lia) (by lia),?_⟩;rw[ZG];have d02:=(d0.trans Y).trans d2;have a2:=(Y.trans d2).kp _ _ B a0;refine mL (by lia) (λi ρ l=>Dr p S l/\∃ (H:List (Int × Int)) (b:Int) (u v:Option D),ρ=[aw (.ref p),aw (.ref (Zw S)),aw (.int b),u,v]/\l[Zw S]?=aw (.lst (H.map au))/\H.length=i/\Ris (-1) H/\(∀q ∈ H,q.2 < b)/\0<=b/\b<=60 * i) (λi ρ S3 hi ⟨J,H,b,u,v,er,hn,hl,hr,O,b0,b1⟩=>?_) (λρ S3 ⟨J,H,b,u,v,er,hn,hl,hr,O,b0,b1⟩=>?_) ⟨d02,[],0,aD,aD,rfl,a2,rfl,trivial,λq hq=>by simp at hq,by decide,by decide⟩
 ·subst er;refine⟨_,rfl,?_⟩;k_is;refine⟨rfl,aF J.pot (by decide) (by decide) λx S4 x1 x2 c=>?_⟩;k_is;have z:=c.kp _ _ B hn;refine⟨gk z,?_⟩;refine⟨rfl,aF c.pot (by decide) (by decide) λy T y1 y2 j=>?_⟩;k_is;have C:=j.kp _ _ B z;rw[mN C (by rw[Za];lia)];k_is;have lt5:Zw S < T.length:=(Zb.mp C).1;have f5:(T.set (Zw S) (Ob.lst (H.map au++[D.tup [D.int (b+x),D.int (b+x+1+y)]])))[Zw S]?=aw (Ob.lst (H.map au++[D.tup [D.int (b+x),D.int (b+x+1+y)]])):=gj lt5;refine aa (qH f5) (aa (show ixS (D.tup [D.int (b+x),D.int (b+x+1+y)]) (.int 1) (T.set (Zw S) (Ob.lst (H.map au++[D.tup [D.int (b+x),D.int (b+x+1+y)]])))=aw (.int (b+x+1+y),_) from rfl) ?_);k_is;refine⟨⟨((J.kp.trans c.kp).trans j.kp).setNew (Zj _),j.pot.setNe B⟩,H++[(b+x,b+x+1+y)],_,_,_,rfl,by rw[f5,ZQ];rfl,by rw[Zf,Zq];lia,tZ hr (by lia) (λq hq=>by have:=O q hq;lia) (by lia),λq hq=>?_,by lia,by lia⟩;rcases ZP.mp hq with hq |hq
  ·have:=O q hq;lia
  ·rw[ZE.mp hq];show b+x+1+y < b+x+1+y+1;lia
 ·subst er;k_is;refine⟨rfl,aF J.pot (by decide) (by decide) λI S4 j3 k3 c=>?_⟩;k_is
  obtain⟨r,X,h3⟩:∃e:Int,atI [D.int 8,D.int 1,D.int 2,D.int 3,D.int 0] I=aw (D.int e)/\0<=e/\e<=8:=by
   have:I=0\/I=1\/I=2\/I=3\/I=4:=by lia
   rcases this with rfl |rfl |rfl |rfl |rfl
   ·exact⟨8,rfl,by decide,by decide⟩
   ·exact⟨1,rfl,by decide,by decide⟩
   ·exact⟨2,rfl,by decide,by decide⟩
   ·exact⟨3,rfl,by decide,by decide⟩
   ·exact⟨0,rfl,by decide,by decide⟩
  refine⟨_,X,?_⟩;refine⟨rfl,aF c.pot (by decide) (by decide) λL T j5 k5 j=>?_⟩;k_is
  obtain⟨s,at5,h5⟩:∃e:Int,atI [D.int 0,D.int 2,D.int 9,D.int 60] L=aw (D.int e)/\0<=e/\e<=60:=by
   have:L=0\/L=1\/L=2\/L=3:=by lia
   rcases this with rfl |rfl |rfl |rfl
   ·exact⟨0,rfl,by decide,by decide⟩
   ·exact⟨2,rfl,by decide,by decide⟩
   ·exact⟨9,rfl,by decide,by decide⟩
   ·exact⟨60,rfl,by decide,by decide⟩
  refine⟨_,at5,?_⟩;refine⟨rfl,Dv j.pot λm M U d6 hM m1 m4 tr=>?_⟩;have hn6:=((c.trans j).trans d6).kp _ _ B hn;refine aa (show aq cM (.ref (Zw S)) U=aw (.tup (H.map au),U) by simp only[aq,ao,aP hn6,ZK,cM]) ?_;k_is;obtain rfl:=hM.len;exact q r s M H U (J.trans ((c.trans j).trans d6)) ⟨h3.1,h3.2,h5.1,h5.2,hM,m1,m4,tr,hr,by lia,λq hq=>by have:=O q hq;lia⟩
end Lw
namespace Lw
open PySem Ev Sn L2
variable {p:Nat} {S S':Sto} {k:Nat} {Q:D->Sto->Prop} {K:Sky}
structure Gs(p N hi:Nat)(S:Sto)(es:List D)(G:List (List Int)):Prop where
 pN:p < N
 at_:S[N]?=aw (.lst es)
 len:es.length=G.length
 row:∀ (i:Nat) g,G[i]?=aw g->∃a,es[i]?=aw (D.ref a)/\N < a/\a < hi/\S[a]?=aw (.lst (g.map D.int))
 inj:∀ (i j a:Nat),es[i]?=aw (D.ref a)->es[j]?=aw (D.ref a)->i=j
section
variable {N hi hi':Nat} {es:List D} {G:List (List Int)}
def Gs.keep(h:Gs p N hi S es G)(kp:Ev.Kp p S S'):Gs p N hi S' es G:=by
 have pN:=h.pN;refine⟨h.pN,kp _ _ (by lia) h.at_,h.len,λi g d=>?_,h.inj⟩;obtain⟨a,e,b,c,z⟩:=h.row i g d;exact⟨a,e,b,c,kp _ _ (by lia) z⟩
def Gs.up(h:Gs p N hi S es G)(d:hi<=hi'):Gs p N hi' S es G:=by
 refine⟨h.pN,h.at_,h.len,λi g b=>?_,h.inj⟩;obtain⟨a,e,c,j,z⟩:=h.row i g b;exact⟨a,e,c,by lia,z⟩
def Gs.other(h:Gs p N hi S es G){f:Nat}(j:hi<=f)(hN:N < hi):Gs p N hi (S.set f o) es G:=by
 refine⟨h.pN,by rw[Zx (by lia)];exact h.at_,h.len,λi g b=>?_,h.inj⟩;obtain⟨a,e,c,d,z⟩:=h.row i g b;exact⟨a,e,c,d,by rw[Zx (by lia)];exact z⟩
def Gs.snoc(h:Gs p N S.length S es G):Gs p N (S.length+1) ((S++[Ob.lst (g.map D.int)]).set N (.lst (es++[D.ref S.length]))) (es++[D.ref S.length]) (G++[g]):=by
 have L:N < S.length:=(Zb.mp h.at_).1
 have O:∀ (i a:Nat),es[i]?=aw (D.ref a)->a < S.length:=λi a e=>by
  have hi:i < G.length:=by rw[<-h.len];exact(Zb.mp e).1
  obtain⟨b,l,y,v,_⟩:=h.row i G[i] (gEG hi);rw[e] at l;cases l;exact v
 refine⟨h.pN,by rw[gj (by rw[Zf];lia)],by rw[Zf,Zf,h.len];rfl,λi C c=>?_,λi j a B l=>?_⟩
 ·by_cases hi:i < G.length
  ·rw[Zv hi] at c;obtain⟨a,e,y,v,z⟩:=h.row i C c;exact⟨a,by rw[Zv (by rw[h.len];exact hi)];exact e,y,by lia,by rw[Zx (by lia),Zv v];exact z⟩
  ·have q:=(Zb.mp c).1;rw[Zf,Zq] at q;obtain rfl:i=G.length:=by lia
   rw[Zp (Zj _),Yd] at c;cases c;exact⟨S.length,by rw[Zp (by rw[h.len];lia),h.len,Yd];rfl,L,by lia,by rw[Zx (by lia),bh]⟩
 ·have d:∀ (i:Nat),(es++[D.ref S.length])[i]?=aw (D.ref a)->(i < es.length/\es[i]?=aw (D.ref a))\/(i=es.length/\a=S.length):=λi e=>by
   by_cases hi:i < es.length
   ·rw[Zv hi] at e;exact .inl ⟨hi,e⟩
   ·have q:=(Zb.mp e).1;rw[Zf,Zq] at q;obtain rfl:i=es.length:=by lia
    rw[Zp (Zj _),Yd] at e;cases e;exact .inr ⟨rfl,rfl⟩
  rcases d i B with ⟨I,u⟩ |⟨I,u⟩ <;> rcases d j l with ⟨J,Z⟩ |⟨J,Z⟩
  ·exact h.inj i j a u Z
  ·have:=O i a u;lia
  ·have:=O j a Z;lia
  ·lia
def Gs.setRow(h:Gs p N hi S es G){i a:Nat}(hi':i < G.length)(u:es[i]?=aw (D.ref a)):Gs p N hi (S.set a (.lst (g.map D.int))) es (G.set i g):=by
 obtain⟨b,v,C,I,Z⟩:=h.row i G[i] (gEG hi');rw[u] at v;cases v;have la:=(Zb.mp Z).1;refine⟨h.pN,by rw[Zx (by lia)];exact h.at_,by rw[Yc];exact h.len,λj J d=>?_,h.inj⟩;by_cases q:j=i
 ·subst q;rw[ZU hi'] at d;cases d;exact⟨a,u,C,I,gj la⟩
 ·rw[Zx (Ne.symm q)] at d;obtain⟨c,l,m1,B,y⟩:=h.row j J d;have:c ≠ a:=λz=>q (by rw[z] at l;exact h.inj j i a l u);exact⟨c,l,m1,B,by rw[Zx (Ne.symm this)];exact y⟩
end
abbrev GX(x:Int)(n:Nat)(r s:Int)(g:List Int):Prop:=∃l j c la d b q:Int,g=[l,j,c,la,d,b,q]/\0<=l/\l < n/\0<=j/\j+s<=c/\c<=la/\la<=x/\0<=d/\d<=x/\0<=b/\b<=99/\0<=q/\q<=r
def GX.up{x y:Int}{n:Nat}{r s:Int}(h:GX x n r s g)(u:x<=y):GX y n r s g:=by
 obtain⟨l,j,c,la,d,b,q,e,z⟩:=h;exact⟨l,j,c,la,d,b,q,e,by omega⟩
abbrev GB(n:Nat)(r s:Int)(g:List Int):Prop:=GX 530 n r s g
structure SkX(x:Int)(K:Sky):Prop where
 me:MeOk K.r K.s K.M K.H
 g7:K.G.length<=7
 gb:∀g ∈ K.G,GX x K.M.length K.r K.s g
 nd:K.F.Nodup
 bd:∀x ∈ K.F,0<=x/\x < K.G.length
 rg:∀ (j:Nat) g,K.G[j]?=aw g->g.getD 6 0=0\/(j:Int) ∈ K.F
 ah:∀q,K.ah=aw q->0<=q.1/\q.1 < K.M.length/\0<=q.2/\q.2<=999
@[inline]abbrev aW(K:Sky):Prop:=SkX 9999 K
def SkX.vd{x:Int}(h:SkX x K):Vd K:=by
 refine⟨h.me.r0,h.me.r8,h.me.s0,h.me.s60,h.me.m1,h.me.m4,h.me.mat.row,h.me.ris,h.me.h4,λq e=>⟨(h.ah q e).1,(h.ah q e).2.1⟩,h.g7,λg b=>?_⟩;obtain⟨v,J,c,la,u,l,y,rfl,d,j,z,h4,_⟩:=h.gb g b;have:=h.me.s0;refine⟨rfl,d,j,?_⟩;show 0<=c
 lia
def bG{b:Type}{l:List b}{E:b->D}{S:Sto}:aq c9 (.tup (l.map E)) S=aw (.int l.length,S):=by simp only[aq,ao,c9,Za]
def wo{b:Type}{l:List b}:l.all (λ_=>aN)=aN:=ZW.mpr λ_ _=>rfl
def wp{u:Type}(l:List u)(E:u->D)(hl:l.length<=1000)(j:∀i S',Sm S S'->nx i S'=aw ((l[i]?).map E))
  (step:∀ (i:Nat) a S',l[i]?=aw a->Sm S S'->∃b,aC T (E a) z=aw b/\Ok (c b S') λd v=>d=[.bl aN]/\Sm S' v) (q:∀S',Sm S S'->Q (.bl aN) S') :
  Ok (bq nx T c z LF 0 S) λd B=>d.length<=100000/\Ok (kE aS d B) Q:=by
 refine bI l E (λ_=>[.bl aN]) hl (λ_ _=>Zj _) j step λS' y=>?_;rw[bQ];refine aa (kN l (λ_=>aN) S') ?_;rw[wo];exact q S' y
def wq{i a b:Int}(c:a<=i)(d:i<=b)(q:Q (.bl aN) S):Ok (evC ae (k+2) 1 [.int i,.int a,.int b] S) Q:=oX (p:=0) bZ (by
 rw[show Dw.hZ (.int i) a b=aN by simp only[Dw.hZ,decide_eq_true c,decide_eq_true d,X2]];exact q)
def H8{i:Int}(b:0<=i)(c:i<=9999)(q:Q (.bl aN) S):Ok (evC ae (k+3) 2 [.int i] S) Q:=zM (p:=0) bZ (by
 rw[show Dw.hZ (.int i) 0 9999=aN by simp only[Dw.hZ,decide_eq_true b,decide_eq_true c,X2]];exact q)
def nJ{a b:Int}(h:TDs 0 S ts d)(c:a<=ts.length)(j:(ts.length:Int)<=b)(q:Q (.bl aN) S):Ok (evC ae (k+1) 3 [.tup d,.int a,.int b] S) Q:=Dh (dk h) (by
 rw[show Dw.isT (.tup ts) a b=aN by simp only[Dw.isT,decide_eq_true c,decide_eq_true j,X2]];exact q)
def kP:(Dw.Ba M).length=M.length:=by unfold Dw.Ba;rw[Za]
def RN{n:Nat}(hl:r.length=n)(j:n<=4)(b:∀x ∈ r,1<=x/\x<=99)(q:∀S',Sm S S'->Q (.bl aN) S'):Ok (evC ae (k+3) 10 [ag r,.int n] S) Q:=by
 refine ax (d:=ff) (ρ:=[aw (ag r),aw (.int n)]) rfl rfl ?_;dsimp only[ff,iU];rw[show ag r = .tup (r.map D.int) from rfl];k_is;refine⟨rfl,nJ (jd r) (by rw[Za];lia) (by rw[Za];lia) ?_⟩;k_is;refine wp r D.int (by lia) cu (λi x S' c sm=>⟨_,rfl,?_⟩) q;k_is;have:=b x (Zc c);exact⟨rfl,wq this.1 this.2 ⟨rfl,Sm.refl _⟩⟩
def Dx{es:List D}(h:∀e ∈ es,e = .bl aN)(S:Sto):kE aS es S=aw (.bl aN,S):=by
 have e:es.map (λ_=>D.bl aN)=es:=by
  conv=>rhs;rw[<-Wl es]
  exact ZZ λx b=>(h x b).symm
 rw[<-e];exact(kN es (λ_=>aN) S).trans (by rw[wo])
def RO(sk:aW K)(q:∀S',Sm S S'->Q (.bl aN) S'):Ok (evC ae (k+1) 11 [.tup (K.M.map ag)] S) Q:=by
 refine ax (d:=bg) (ρ:=[aw (.tup (K.M.map ag)),aD]) rfl rfl ?_;dsimp only[bg,bH];have V:=sk.vd;have m4:=sk.me.m4;k_is;refine aa bG ?_;refine⟨_,rfl,by lia,?_⟩;k_is;have y:(S++[Ob.lst ((Zg K.M.length).map λj=>D.int (Int.ofNat j))])[S.length]?=aw (.lst ((Zg K.M.length).map λj=>D.int (Int.ofNat j))):=bh;have z:∀S',Sm (S++[Ob.lst ((Zg K.M.length).map λj=>D.int (Int.ofNat j))]) S'->(aQ S' S.length).isSome=aN:=λS' sm=>by rw[aP (sm _ _ y)];rfl
 refine⟨z _ (Sm.refl _),?_⟩;refine(v5 y (by lia) (λa=>(Zg K.M.length).flatMap λb=>(Zg K.M.length).flatMap λc=>[.bl aN]) λa S1 C l=>⟨_,rfl,?_⟩).mono λes J ⟨L,sm⟩=>?_
 ·k_is;refine⟨z _ l,?_⟩;refine v5 (l _ _ y) (by lia) _ λb J hb v=>⟨_,rfl,?_⟩;k_is;refine⟨z _ (l.trans v),?_⟩;refine v5 (v _ _ (l _ _ y)) (by lia) _ λc B Z sm3=>⟨_,rfl,?_⟩;k_is;obtain⟨r1,I,Y⟩:=qP (S:=B) V (a:=a) (b:=b) (by lia) (by lia) (by lia) (by lia);obtain⟨r2,T,e4⟩:=qP (S:=B) V (a:=a) (b:=c) (by lia) (by lia) (by lia) (by lia);obtain⟨r3,U,e6⟩:=qP (S:=B) V (a:=c) (b:=b) (by lia) (by lia) (by lia) (by lia);refine aa I (aa Y (aa T (aa e4 (aa U (aa e6 ?_)))));k_is;refine⟨?_,Sm.refl _⟩;have t:=sk.me.tri a b c C hb Z;rw[decide_eq_true (show gp K a b<=gp K a c+gp K c b from t)]
 ·subst L
  have all:∀e ∈ (Zg K.M.length).flatMap λa=>(Zg K.M.length).flatMap λb=>(Zg K.M.length).flatMap λc=>[D.bl aN],e = .bl aN:=λe u=>by
   obtain⟨a,_,u⟩:=Yi.mp u;obtain⟨b,_,u⟩:=Yi.mp u;obtain⟨c,_,u⟩:=Yi.mp u;exact ZE.mp u
  refine⟨?_,aa (Dx all _) (q _ ((Sm.app S _).trans sm))⟩;have O:∀a b:Nat,((Zg K.M.length).flatMap λc=>[D.bl aN]).length<=4:=λ_ _=>by rw[bQ (Zg K.M.length) (λ_=>D.bl aN),Za,ZB];exact m4
  have X:∀a:Nat,((Zg K.M.length).flatMap λb=>(Zg K.M.length).flatMap λc=>[D.bl aN]).length<=K.M.length * 4:=λa=>Dw.xc λb _=>O a b;have f1:=Dw.xc (n:=K.M.length) (m:=K.M.length * 4) (f:=λa=>(Zg K.M.length).flatMap λb=>(Zg K.M.length).flatMap λc=>[D.bl aN]) λa _=>X a;have:K.M.length * (K.M.length * 4)<=4 * (4 * 4):=Wt m4 (Wt m4 (Zj _))
  lia
def OH(sk:aW K)(q:∀S',Sm S S'->Q (.bl aN) S'):Ok (evC ae (k+4) 9 [.tup (K.M.map ag)] S) Q:=by
 refine ax (d:=ig) (ρ:=[aw (.tup (K.M.map ag))]) rfl rfl ?_;dsimp only[ig,mz];have m1:=sk.me.m1;have m4:=sk.me.m4;k_is;refine⟨rfl,nJ (jN K.M) (by rw[kP];lia) (by rw[kP];lia) ?_⟩;k_is;refine wp K.M ag (by lia) cu (λi r S' l sm=>⟨_,rfl,?_⟩) λS' sm=>?_
 ·k_is;refine aa bG ?_;have c:=Zc l;exact⟨rfl,RN (sk.me.mat.row r c) m4 (sk.me.mat.ent r c) λj b=>⟨rfl,b⟩⟩
 ·k_is;exact⟨rfl,RO sk λj b=>q j (sm.trans b)⟩
def zP(c:0<=z.1)(j:z.1 < z.2)(l:z.2<=9999)(q:Q (.bl aN) S):Ok (evC ae (k+4) 13 [au z] S) Q:=by
 refine ax (d:=fh) (ρ:=[aw (au z)]) rfl rfl ?_;dsimp only[fh,iV];rw[show au z = .tup [.int z.1,.int z.2] from rfl];have b:ixS (.tup [D.int z.1,.int z.2]) (.int 0) S=aw (.int z.1,S):=rfl;have X:ixS (.tup [D.int z.1,.int z.2]) (.int 1) S=aw (.int z.2,S):=rfl;k_is;refine⟨rfl,nJ (aJ bZ (aJ bZ cI)) (ZF _) (ZF _) ?_⟩;k_is;refine aa b ⟨rfl,H8 c (by lia) ?_⟩;k_is;refine aa X ⟨rfl,H8 (by lia) l ?_⟩;k_is;refine aa b (aa X ?_);k_is;rw[decide_eq_true j];exact q
def Ia(sk:aW K)(q:∀S',Sm S S'->Q (.bl aN) S'):Ok (evC ae (k+5) 12 [.tup (K.H.map au)] S) Q:=by
 refine ax (d:=fX) (ρ:=[aw (.tup (K.H.map au))]) rfl rfl ?_;dsimp only[fX,kf];have h4:=sk.me.h4;k_is;refine⟨rfl,nJ (i7 K.H) (by rw[Za];lia) (by rw[Za];lia) ?_⟩;k_is;refine wp K.H au (by lia) cu (λi z S' l sm=>⟨_,rfl,?_⟩) λS' sm=>?_
 ·k_is;have a:=qQ sk.me.ris (Zc l);exact⟨rfl,zP (by lia) a.2 (by have:=sk.me.hb z (Zc l);lia) ⟨rfl,Sm.refl _⟩⟩
 ·k_is;refine aa bG ?_;k_is;refine⟨⟨by decide,gm (by lia) (by lia)⟩,?_⟩;refine Gv (by lia) (λ_=>aN) (λi b hi c=>⟨_,rfl,?_⟩) λb c=>?_
  ·k_is;have j:i+1 < K.H.length:=by lia
   have u:(1:Int)+i=((i+1:Nat):Int):=by lia
   have Z:((i+1:Nat):Int) - 1=((i:Nat):Int):=by lia
   rw[u,Z];refine aa (ix_at (d:=au K.H[i+1]) (by lia) (by rw[ZG,Zl,gEG j];rfl)) (aa (show ixS (au K.H[i+1]) (.int 0) b=aw (.int K.H[i+1].1,b) from rfl) ?_);refine aa (ix_at (d:=au K.H[i]) (by lia) (by rw[ZG,Zl,gEG (by lia)];rfl)) (aa (show ixS (au K.H[i]) (.int 1) b=aw (.int K.H[i].2,b) from rfl) ?_);k_is;rw[decide_eq_true (ua sk.me.ris i _ _ (gEG (by lia)) (gEG j))];exact⟨rfl,Sm.refl _⟩
  ·refine aa (kN _ (λ_=>aN) _) ?_;rw[wo];exact q b (sm.trans c)
def Dy(sk:aW K)(q:∀S',Sm S S'->Q (.bl aN) S'):Ok (evC ae (k+6) 8 [meE K] S) Q:=by
 refine ax (d:=fW) (ρ:=[aw (meE K),aD,aD,aD,aD]) rfl rfl ?_;dsimp only[fW,kc];rw[show meE K = .tup [.int K.r,.int K.s,.tup (K.M.map ag),.tup (K.H.map au)] from rfl];k_is;refine⟨rfl,nJ (aJ bZ (aJ bZ (aJ (dk (jN K.M)) (aJ (dk (i7 K.H)) cI)))) (ZF _) (ZF _) ?_⟩;k_is;refine⟨rfl,wq sk.me.r0 sk.me.r8 ?_⟩;k_is;refine⟨rfl,wq sk.me.s0 sk.me.s60 ?_⟩;k_is;refine⟨rfl,OH sk λl j=>?_⟩;k_is;exact⟨rfl,Ia sk λb c=>q b (j.trans c)⟩
def Dz{i:Int}(b:0<=i)(c:i < K.M.length)(q:Q (.bl aN) S):Ok (evC ae (k+3) 14 [meE K,.int i] S) Q:=by
 refine ax (d:=jF) (ρ:=[aw (meE K),aw (.int i)]) rfl rfl ?_;dsimp only[jF,oO];k_is;refine aa me2 (aa bG ?_);k_is;exact⟨rfl,wq b (by lia) q⟩
def Ib(sk:aW K)(q:Q (.bl aN) S):Ok (evC ae (k+4) 17 [meE K,ahE K.ah] S) Q:=by
 refine ax (d:=ij) (ρ:=[aw (meE K),aw (ahE K.ah)]) rfl rfl ?_;dsimp only[ij,mB];cases h:K.ah with
 |none=>k_is;exact aa (show ak .is (ahE aD) .non S=aw (.bl aN,S) from rfl) q
 |some z=>
  obtain⟨c,j,b,B⟩:=sk.ah z h;have l:ixS (.tup [D.int z.1,.int z.2]) (.int 0) S=aw (.int z.1,S):=rfl;have X:ixS (.tup [D.int z.1,.int z.2]) (.int 1) S=aw (.int z.2,S):=rfl;rw[show ahE (aw z) = .tup [.int z.1,.int z.2] from rfl];k_is;refine aa (show ak .is (.tup [D.int z.1,.int z.2]) .non S=aw (.bl aS,S) from rfl) ?_;k_is;refine⟨rfl,nJ (aJ bZ (aJ bZ cI)) (ZF _) (ZF _) ?_⟩;k_is;refine aa l ⟨rfl,Dz c j ?_⟩;k_is;exact aa X ⟨rfl,H8 b (by lia) q⟩
def DA(sk:aW K)(U:g ∈ K.G)(q:∀S',Sm S S'->Q (.bl aN) S'):Ok (evC ae (k+4) 19 [meE K,ag g] S) Q:=by
 obtain⟨v,j,c,la,b,u,y,rfl,I,Y,b0,B,T,b3,c0,Z,O,J,L,C⟩:=sk.gb g U;have s0:=sk.me.s0;refine ax (d:=fY) (ρ:=[aw (meE K),aw (ag [v,j,c,la,b,u,y]),aD,aD,aD,aD,aD,aD,aD]) rfl rfl ?_;dsimp only[fY,kh];rw[show ag [v,j,c,la,b,u,y] = .tup [.int v,.int j,.int c,.int la,.int b,.int u,.int y] from rfl];k_is;refine⟨rfl,nJ (jd [v,j,c,la,b,u,y]) (ZF _) (ZF _) ?_⟩;k_is;refine wp [j,c,la,b] D.int (by show 4<=1000;decide) (cu (l:=[j,c,la,b]) (E:=D.int)) (λi x S' X sm=>⟨_,rfl,?_⟩) λS' sm=>?_
 ·k_is;have z:=Zc X;simp only[Zn,Wi,or_false] at z;refine⟨rfl,H8 ?_ ?_ ⟨rfl,Sm.refl _⟩⟩
  ·rcases z with rfl |rfl |rfl |rfl <;> lia
  ·rcases z with rfl |rfl |rfl |rfl <;> lia
 ·k_is;refine aa me1 ?_;k_is;rw[decide_eq_true B];k_is;rw[decide_eq_true T];k_is;refine⟨rfl,Dz I Y ?_⟩;k_is;refine⟨rfl,wq O J ?_⟩;k_is;refine aa me0 ⟨rfl,wq L C (q S' sm)⟩
def zQ(sk:aW K)(q:∀S',Sm S S'->Q (.bl aN) S'):Ok (evC ae (k+5) 18 [meE K,.tup (K.G.map ag)] S) Q:=by
 refine ax (d:=dP) (ρ:=[aw (meE K),aw (.tup (K.G.map ag))]) rfl rfl ?_;dsimp only[dP,gR];have g7:=sk.g7;k_is;refine⟨rfl,nJ (jN K.G) (by rw[kP];lia) (by rw[kP];lia) ?_⟩;k_is;refine wp K.G ag (by lia) cu (λi g S' b sm=>⟨_,rfl,?_⟩) q;k_is;exact⟨rfl,DA sk (Zc b) λj c=>⟨rfl,c⟩⟩
def ub{xs:List Int}{N:Nat}(nd:xs.Nodup)(bd:∀x ∈ xs,0<=x/\x < N)(g7:N<=7)(q:∀S',Sm S S'->Q (.bl aN) S'):Ok (evC ae (k+3) 4 [.tup (xs.map D.int),.int N] S) Q:=by
 refine ax (d:=fc) (ρ:=[aw (.tup (xs.map D.int)),aw (.int N)]) rfl rfl ?_;dsimp only[fc,iS];have l:=Dw.dw N xs nd bd;k_is;refine⟨rfl,nJ (jd xs) (by rw[Za];lia) (by rw[Za];lia) ?_⟩;k_is;refine wp xs D.int (by lia) cu (λi x S' j sm=>⟨_,rfl,?_⟩) λS' sm=>?_
 ·k_is;have:=bd x (Zc j);exact⟨rfl,wq this.1 (by lia) ⟨rfl,Sm.refl _⟩⟩
 ·k_is;refine wp xs D.int (by lia) cu (λi x c j b=>⟨_,rfl,?_⟩) λc b=>q c (sm.trans b);k_is;refine⟨rfl,aa (CL xs x c) ?_⟩;k_is;rw[show((xs.count x:Nat):Int)=1 by rw[List.Nodup.count nd,if_pos (Zc j)];rfl];exact⟨rfl,Sm.refl _⟩
def Ic(sk:aW K)(q:∀S',Sm S S'->Q (.bl aN) S'):Ok (evC ae (k+4) 20 [.tup (K.G.map ag),.tup (K.F.map D.int)] S) Q:=by
 refine ax (d:=fZ) (ρ:=[aw (.tup (K.G.map ag)),aw (.tup (K.F.map D.int))]) rfl rfl ?_;dsimp only[fZ,kj];have g7:=sk.g7;k_is;refine aa bG ?_;refine⟨rfl,ub sk.nd sk.bd sk.g7 λy s1=>?_⟩;k_is;refine mM K.G.length (λi=>.tup [.int i,((K.G.map ag)[i]?).getD .non]) (λi b S'=>Sm y S'/\b.length=i/\∀e ∈ b,e = .bl aN) (λi b S' hi _=>?_) (by lia) (λi b S' hi C=>?_) (λes S' I=>by obtain⟨j,la,B⟩:=I;exact⟨by lia,aa (Dx B _) (q S' (s1.trans j))⟩) ⟨Sm.refl _,rfl,λe L=>by cases L⟩
 ·show enm (K.G.map ag) i=_;unfold enm;rw[if_pos (by rw[Za];exact hi)];split
  ·rename_i J;rw[gEG (by rw[Za];exact J)];rfl
  ·rw[Zr (by rw[Za];lia)];rfl
 ·obtain⟨j,la,B⟩:=C;obtain⟨U,Z,Y,l,T,O,u,X,_⟩:=sk.gb K.G[i] (ZM hi);have rg:=sk.rg i _ (gEG hi);have ez:((K.G.map ag)[i]?).getD .non = .tup [.int U,.int Z,.int Y,.int l,.int T,.int O,.int u]:=by rw[Zl,gEG hi,X];rfl
  rw[X] at rg;have rg:u=0\/(i:Int) ∈ K.F:=rg;rw[ez];have v:∀S',Sm y S'->Sm y S'/\(b++[D.bl aN]).length=i+1/\∀e ∈ b++[D.bl aN],e = .bl aN:=λS' j=>⟨j,by rw[Zf,Zq];lia,λe L=>(ZP.mp L).elim (B e) λz=>ZE.mp z⟩;refine⟨_,qF (by simp) (by simp),?_⟩;k_is;refine aa (show ixS (.tup [D.int U,.int Z,.int Y,.int l,.int T,.int O,.int u]) (.int 6) S'=aw (.int u,S') from rfl) ?_;k_is;cases c:decide (u=0) with
  |true=>k_is;exact v S' j
  |false=>
   k_is;refine aa (show ak .isin (.int (i:Int)) (.tup (K.F.map D.int)) S'=aw (.bl (aS != decide ((i:Int) ∈ K.F)),S') from i6 aS K.F i S') ?_;rw[decide_eq_true (rg.resolve_left (of_decide_eq_false c))];exact v S' j
def RP(sk:aW K)(q:∀S',Sm S S'->Q (.bl aN) S'):Ok (evC ae (k+7) 16 [skE K] S) Q:=by
 refine ax (d:=mG) (ρ:=[aw (skE K),aD,aD,aD,aD]) rfl rfl ?_;dsimp only[mG,tH];rw[show skE K = .tup [meE K,ahE K.ah,.tup (K.G.map ag),.tup (K.F.map D.int)] from rfl];k_is;refine⟨rfl,nJ (ts:=[.tup [.int K.r,.int K.s,.tup (Dw.Ba K.M),.tup (K.H.map Dw.xf)],ahT K.ah,.tup (Dw.Ba K.G),.tup (K.F.map Dw.D.int)]) (aJ (dk (aJ bZ (aJ bZ (aJ (dk (jN K.M)) (aJ (dk (i7 K.H)) cI))))) (aJ (RK K.ah) (aJ (dk (jN K.G)) (aJ (dk (jd K.F)) cI)))) (ZF _) (ZF _) ?_⟩;k_is;refine⟨rfl,Dy sk λu l=>?_⟩;k_is;refine⟨rfl,Ib sk ?_⟩;k_is;refine⟨rfl,zQ sk λv j=>?_⟩;k_is;exact⟨rfl,Ic sk λb c=>q b ((l.trans j).trans c)⟩
def gr(sk:aW K)(q:∀S',Sm S S'->Q .non S'):Ok (evC ae (k+8) 22 [skE K] S) Q:=by
 refine ax (d:=f8) (ρ:=[aw (skE K)]) rfl rfl ?_;dsimp only[f8,km];k_is;refine⟨rfl,RP sk λS' sm=>?_⟩;k_is;exact q S' sm
end Lw
namespace Sn
open Ev PySem
abbrev cst(K:Sky)(g m:Int):Int:=gi K.G g 5 * (if m - gi K.G g 4 > 0 then m - gi K.G g 4 else 0)
inductive Am where
 |la |co |mo
abbrev jnd(K:Sky)(l:Am)(g m x:Int):Int:=match l with
 |.la=>if x > m then x else m
 |.co=>cst K g m+x
 |.mo=>if x > cst K g m then x else cst K g m
abbrev oZ(b:List (Int × List Int)):Option (Int × List Int):=b[argBest (cy b) (b.length - 1)]?
abbrev rst(left:List Int)(g:Int):List Int:=left.filter λx=>!decide (x=g)
abbrev bb(K:Sky)(l:Am):Nat->Option (Int × Int)->List Int->Option (Int × List Int)
 |0,_,_=>aw (0,[])
 | n+1,ah,left=>oZ (left.filterMap λg=>match step K ah g (K.G.length - (n+1)) with
  |none=>aD
  | some m=>(bb K l n (aw (gi K.G g 0,m)) (rst left g)).map λz=>(jnd K l g m z.1,g::z.2))
abbrev bw(K:Sky)(l:Am)(n:Nat)(ah:Option (Int × Int))(left:List Int)(g:Int):Option (Int × List Int):=match step K ah g (K.G.length - (n+1)) with
 |none=>aD
 |some m=>(bb K l n (aw (gi K.G g 0,m)) (rst left g)).map λz=>(jnd K l g m z.1,g::z.2)
def kQ{K:Sky}{l:Am}{n:Nat}{ah:Option (Int × Int)}{left:List Int}:bb K l (n+1) ah left=oZ (left.filterMap (bw K l n ah left)):=rfl
def o0{ws:List (Int × List Int)}{z:Int × List Int}(h:oZ ws=aw z):z ∈ ws:=Zc h
def wu{K:Sky}{l:Am}:∀ (n:Nat) (ah:Option (Int × Int)) (left:List Int) (z:Int × List Int),bb K l n ah left=aw z->z.2.length=n
 |0,_,_,z,h=>by cases h;rfl
 |n+1,ah,left,z,h=>by
  rw[kQ] at h;obtain⟨g,_,e⟩:=YD.mp (o0 h);unfold bw at e;split at e
  ·cases e
  ·obtain⟨y,b,rfl⟩:=ZD.mp e;rw[Zo,wu n _ _ y b]
end Sn
namespace Lw
open PySem Ev Sn L2
variable {p:Nat} {S S':Sto} {k:Nat} {Q:D->Sto->Prop} {K:Sky}
abbrev iu(l:Am):D:=.str (match l with |.la => "last" |.co => "cost" |.mo => "most")
abbrev bC:Option (Int × List Int)->D
 |none=>.non
 |some z=>.tup [.int z.1,.tup (z.2.map D.int)]
abbrev RQ:Option (Int × Int)->NK
 |none=>.non
 |some z=>.tup [.inl z.1,.inl z.2]
abbrev gN(ah:Option (Int × Int))(left:List Int):List NK:=[RQ ah,.tup (left.map Sum.inl)]
def mS:∀ (xs:List Int),eC (xs.map D.int)=aw (xs.map Sum.inl)
 |[]=>rfl
 |x::xs=>by rw[Zz,eC,mS xs];rfl
def eV{ah:Option (Int × Int)}{left:List Int}:nu (.tup [ahE ah,.tup (left.map D.int)])=aw (gN ah left):=by
 have e:Be (.tup (left.map D.int))=aw (.tup (left.map Sum.inl)):=by show(eC _).map _=_;rw[mS];rfl
 have b:Be (ahE ah)=aw (RQ ah):=by cases ah <;> rfl
 show oh _=_;simp only[oh,e,b,gN]
def yb:∀ {xs Y:List Int},xs.map (Sum.inl:Int->Key)=Y.map Sum.inl->xs=Y
 |[],[],_=>rfl
 |[],_::_,e=>by cases e
 |_::_,[],e=>by cases e
 |x::xs,y::Y,e=>by
  obtain⟨a,b⟩:=Wx.inj e;cases a;rw[yb b]
def uc{a b:Option (Int × Int)}{xs ys:List Int}(h:gN a xs=gN b ys):a=b/\xs=ys:=by
 unfold gN at h;obtain⟨c,d⟩:=Wx.inj h;obtain⟨d,_⟩:=Wx.inj d;refine⟨?_,yb (NK.tup.inj d)⟩;cases a with
 |none=>cases b with
  |none=>rfl
  |some z=>cases c
 |some z=>cases b with
  |none=>cases c
  |some w=>
   obtain⟨l,Z⟩:=z;obtain⟨j,w2⟩:=w;cases c;rfl
abbrev KI(K:Sky)(l:Am)(b:List (List NK))(c:List D):Prop:=b.length=c.length/\∀ah left d,atD b c (gN ah left)=aw d->d=bC (bb K l left.length ah left)
structure Kn(K:Sky)(l:Am)(p c:Nat)(S:Sto):Prop where
 ex:∃kss ds,S[p]?=aw (.dic kss ds)/\KI K l kss ds/\kss.length<=c
abbrev cnt:Nat->Nat
 |0=>0
 |n+1=>(n+1) * cnt n+1
def ud:∀ {b:List (List NK)} {c:List D} {k:List NK} {v:D},(atD b c k).isSome=aN->atD b (fN k v b c) k=aw v
 |[],_,_,_,h=>by simp[atD] at h
 |_::_,[],_,_,h=>by simp[atD] at h
 |a::b,d::c,k,v,h=>by
  simp only[fN,atD] at h ⊢;split
  ·rfl
  ·rename_i e;rw[if_neg e] at h;exact ud h
def qR:∀ {b:List (List NK)} {j:List D} {k c:List NK} {v:D},b.length=j.length->atD (b++[k]) (j++[v]) c=match atD b j c with |some d=>aw d |none=>if k=c then aw v else aD
 |[],[],k,c,v,_=>rfl
 |[],_::_,_,_,_,h=>by simp at h
 |_::_,[],_,_,_,h=>by simp at h
 |a::b,d::j,k,c,v,h=>by
  simp only[Wk,atD];split
  ·rfl
  ·exact qR (by simpa using h)
def yc:∀ {b:List (List NK)} {l:List D} {k c:List NK} {v d:D},atD b (fN k v b l) c=aw d->(k=c/\d=v)\/(atD b l c=aw d)
 |[],_,_,_,_,_,h=>by simp[fN,atD] at h
 |_::_,[],_,_,_,_,h=>by simp[fN,atD] at h
 |a::b,e::l,k,c,v,d,h=>by
  simp only[fN,atD] at h ⊢;split at h
  ·rename_i j;subst j;cases h;split
   ·rename_i q;exact .inl ⟨q.symm,rfl⟩
   ·exact .inr (if_pos rfl)
  ·rename_i j;rw[if_neg j];exact yc h
def gl9{X:Int}(sk:SkX X K){g:Int}(l:0<=g)(q:g < K.G.length):∃a b c d e f h,K.G[g.toNat]?=aw [a,b,c,d,e,f,h]/\gi K.G g 0=a/\gi K.G g 4=e/\gi K.G g 5=f/\0<=f/\f<=99/\0<=a/\a < K.M.length:=by
 have hi:g.toNat < K.G.length:=by lia
 obtain⟨a,b,c,d,e,f,h,j,hb⟩:=sk.gb K.G[g.toNat] (ZM hi);have eq:K.G[g.toNat]?=aw [a,b,c,d,e,f,h]:=by rw[gEG hi,j]
 refine⟨a,b,c,d,e,f,h,eq,?_,?_,?_,by lia,by lia,by lia,by lia⟩ <;> (unfold gi;rw[eq];rfl)
def ue{g m a b c d e f h:Int}(l:gi K.G g 4=e)(j:gi K.G g 5=f)(u:0<=f)(v:f<=99)(q:Q (.int (cst K g m)) S):Ok (evC ae (k+1) 23 [ag [a,b,c,d,e,f,h],.int m] S) Q:=by
 refine ax (d:=dQ) (ρ:=[aw (ag [a,b,c,d,e,f,h]),aw (.int m),aD,aD,aD,aD,aD,aD,aD]) rfl rfl ?_;dsimp only[dQ,gU];unfold cst at q;rw[l,j] at q;rw[show ag [a,b,c,d,e,f,h] = .tup [.int a,.int b,.int c,.int d,.int e,.int f,.int h] from rfl];k_is;refine⟨?_,q⟩;unfold gP;rw[decide_eq_true (show -(2 ^ 64) < f by lia),decide_eq_true (show f < 2 ^ 64 by lia)];rfl
def o4(l:Am){g m x a b c d e f h:Int}(v:gi K.G g 4=e)(u:gi K.G g 5=f)(j:0<=f)(y:f<=99)(q:Q (.int (jnd K l g m x)) S):Ok (evC ae (k+2) 39 [iu l,ag [a,b,c,d,e,f,h],.int m,.int x] S) Q:=by
 refine ax (d:=mH) (ρ:=[aw (iu l),aw (ag [a,b,c,d,e,f,h]),aw (.int m),aw (.int x)]) rfl rfl ?_;dsimp only[mH,tI];unfold jnd at q;cases l with
 |la=>
  k_is;refine aa (show ak .eq (iu .la) (.str "last") S=aw (.bl aN,S) from rfl) ?_;k_is;exact q
 |co=>
  k_is;refine aa (show ak .eq (iu .co) (.str "last") S=aw (.bl aS,S) from rfl) ?_;k_is;refine aa (show ak .eq (iu .co) (.str "cost") S=aw (.bl aN,S) from rfl) ?_;k_is;refine⟨rfl,ue v u j y ?_⟩;k_is;exact q
 |mo=>
  k_is;refine aa (show ak .eq (iu .mo) (.str "last") S=aw (.bl aS,S) from rfl) ?_;k_is;refine aa (show ak .eq (iu .mo) (.str "cost") S=aw (.bl aS,S) from rfl) ?_;k_is;refine⟨rfl,ue v u j y ?_⟩;k_is;exact q
def ww{left:List Int}{g:Int}(hl:left.length<=100)(q:∀S',Sm S S'->Q (.tup ((rst left g).map D.int)) S'):Ok (evC ae (k+1) 6 [.tup (left.map D.int),.int g] S) Q:=by
 refine ax (d:=jD) (ρ:=[aw (.tup (left.map D.int)),aw (.int g)]) rfl rfl ?_;dsimp only[jD,oK];k_is;refine bI left D.int (λx=>if (!decide (x=g))=aN then [D.int x] else []) (by lia) (λa _=>by split <;> simp) cu (λi x S' l sm=>⟨_,rfl,?_⟩) λb j=>?_
 ·k_is;cases c:!decide (x=g) with
  |true=>exact⟨rfl,Sm.refl _⟩
  |false=>exact⟨rfl,Sm.refl _⟩
 ·rw[b9];exact aa (show cM aS (((rst left g)).map D.int) b=aw (.tup ((rst left g).map D.int),b) from rfl) (q b j)
structure Lf(K:Sky)(n:Nat)(ah:Option (Int × Int))(left:List Int):Prop where
 nd:left.Nodup
 bd:∀g ∈ left,0<=g/\g < K.G.length
 ln:left.length=n
 le:n<=K.G.length
 ah:∀q,ah=aw q->0<=q.1/\q.1 < K.M.length
def yd:∀ {left:List Int} {g:Int},left.Nodup->g ∈ left->(rst left g).length+1=left.length
 |[],_,_,h=>by cases h
 |a::l,g,nd,h=>by
  rw[Z1] at nd;unfold rst;by_cases e:a=g
  ·subst e;rw[List.filter_cons_of_neg (by simp)]
   rw[YV.mpr λx b=>by
    have:¬ x=a:=λz=>nd.1 (z ▸ b);simp[this]]
   rw[Zo]
  ·rw[List.filter_cons_of_pos (by simp[e]),Zo,Zo];have:=yd nd.2 ((Zn.mp h).resolve_left λz=>e z.symm);unfold rst at this
   lia
def Lf.rst{n:Nat}{ah:Option (Int × Int)}{left:List Int}{g m:Int}(h:Lf K (n+1) ah left)(b:g ∈ left)(d:0<=gi K.G g 0)(j:gi K.G g 0 < K.M.length):Lf K n (aw (gi K.G g 0,m)) (Sn.rst left g):=by
 have l:=yd h.nd b;have:=h.ln;have:=h.le;exact⟨h.nd.filter _,λx c=>h.bd x (ZI.mp c).1,by lia,by lia,λq e=>by cases e;exact⟨d,j⟩⟩
abbrev BB(K:Sky)(l:Am)(p n k:Nat):Prop:=∀ (ah:Option (Int × Int)) (left:List Int) (S:Sto) (c:Nat) (Q:D->Sto->Prop),Lf K n ah left->Kn K l p c S->c+cnt n<=99999->(∀S',Kp p S S'->Kn K l p (c+cnt n) S'->Q (bC (bb K l n ah left)) S')->Ok (evC ae k 40 [skE K,iu l,ahE ah,.tup (left.map D.int),.ref p] S) Q
def Kn.kp{l:Am}{c:Nat}(h:Kn K l p c S)(s:Sm S S'):Kn K l p c S':=let ⟨kss,ds,e,k⟩:=h.ex;⟨kss,ds,s _ _ e,k⟩
def Kn.up{l:Am}{c C:Nat}(h:Kn K l p c S)(hc:c<=C):Kn K l p C S:=let ⟨kss,ds,e,k,z⟩:=h.ex;⟨kss,ds,e,k,ZX z hc⟩
def Ie{x0:Int}(sk:SkX x0 K){l:Am}{n k:Nat}(ih:BB K l p n (k+5)){ah:Option (Int × Int)}{left:List Int}{g:Int}(L:Lf K (n+1) ah left)(U:g ∈ left){I:Nat}(X:Kn K l p I S)(O:I+cnt n<=99999)(q:∀S',Kp p S S'->Kn K l p (I+cnt n) S'->Q (bC (bw K l n ah left g)) S'):Ok (evC ae (k+6) 41 [skE K,iu l,ahE ah,.tup (left.map D.int),.int g,.ref p] S) Q:=by
 refine ax (d:=f9) (ρ:=[aw (skE K),aw (iu l),aw (ahE ah),aw (.tup (left.map D.int)),aw (.int g),aw (.ref p),aD,aD,aD]) rfl rfl ?_;dsimp only[f9,ko];have V:=sk.vd;have g7:=sk.g7;have hb:=L.bd g U;have ln:=L.ln;have le:=L.le;obtain⟨a,b,c,d,e,f,h,eg,C,e4,e5,Y,f1,a0,a1⟩:=gl9 sk hb.1 hb.2;k_is;refine aa sk2 (aa bG (aa bG ?_));k_is;rw[show((K.G.length:Int) - left.length)=((K.G.length - (n+1):Nat):Int) by lia];refine⟨rfl,oY (k:=k+2) V L.ah hb.1 hb.2 λu J=>?_⟩;unfold bw at q;cases hs:step K ah g (K.G.length - (n+1)) with
 |none=>
  rw[hs] at q;rw[show mR aD = .non from rfl];k_is;refine aa (show ak .is .non .non u=aw (.bl aN,u) from rfl) ?_;k_is;exact q u J.kp ((X.kp J).up (YS _ _))
 |some m=>
  rw[hs] at q;rw[show mR (aw m) = .int m from rfl];k_is;refine aa (show ak .is (.int m) .non u=aw (.bl aS,u) from rfl) ?_;k_is;refine aa sk2 (aa (mP hb.1 eg) ?_);k_is;refine aa (show ixS (ag [a,b,c,d,e,f,h]) (.int 0) u=aw (.int a,u) from rfl) ?_;k_is;refine⟨rfl,ww (k:=k+4) (by lia) λS2 s2=>?_⟩
  have Z:Lf K n (aw (a,m)) (Sn.rst left g):=by
   have:=L.rst (m:=m) U (by rw[C];exact a0) (by rw[C];exact a1)
   rwa [C] at this
  have y:=J.trans s2;refine⟨rfl,ih (aw (a,m)) (Sn.rst left g) S2 I _ Z (X.kp y) O λj T B=>?_⟩;rw[C] at q;cases v:bb K l n (aw (a,m)) (Sn.rst left g) with
  |none=>
   dsimp only at q;rw[v] at q;rw[show bC aD = .non from rfl];k_is;refine aa (show ak .is .non .non j=aw (.bl aN,j) from rfl) ?_;k_is;exact q j (y.kp.trans T) B
  |some z=>
   dsimp only at q;rw[v] at q;rw[show bC (aw z) = .tup [.int z.1,.tup (z.2.map D.int)] from rfl];k_is;refine aa (show ak .is (.tup [.int z.1,.tup (z.2.map D.int)]) .non j=aw (.bl aS,j) from rfl) ?_;k_is;refine aa (show ixS (.tup [.int z.1,.tup (z.2.map D.int)]) (.int 0) j=aw (.int z.1,j) from rfl) ?_;refine⟨rfl,o4 (k:=k+3) l e4 e5 Y f1 ?_⟩;k_is;refine aa (show ixS (.tup [.int z.1,.tup (z.2.map D.int)]) (.int 1) j=aw (.tup (z.2.map D.int),j) from rfl) ?_;k_is;have lz:=wu n _ _ z v;exact⟨by rw[Za,Zq];lia,q j (y.kp.trans T) B⟩
def DB{l:Am}{k:Nat}:BB K l p 0 (k+1):=λah left S c Q lf kn hc q=>by
 refine ax (d:=bO) (ρ:=[aw (skE K),aw (iu l),aw (ahE ah),aw (.tup (left.map D.int)),aw (.ref p),aD,aD]) rfl rfl ?_;dsimp only[bO,dN];have e:=Z9.mp lf.ln;subst e;k_is;exact q S (Kp.refl p S) kn
def OI{l:Am}{b:List (List NK)}{d:List D}{ah:Option (Int × Int)}{left:List Int}(c:S[p]?=aw (.dic b d)):ak .notin (.tup [ahE ah,.tup (left.map D.int)]) (.ref p) S=aw (.bl (!(atD b d (gN ah left)).isSome),S):=by
 have e:ak .notin (.tup [ahE ah,.tup (left.map D.int)]) (.ref p) S=inK aN (.tup [ahE ah,.tup (left.map D.int)]) (.ref p) S:=by
  simp only[ak,inS,ao,aQ,c,Option.map_none]
 rw[e];simp only[inK,eV,c];simp
def wx{b:List (List NK)}{c:List D}{ah:Option (Int × Int)}{left:List Int}{d:D}(j:S[p]?=aw (.dic b c))(h:atD b c (gN ah left)=aw d):ixS (.ref p) (.tup [ahE ah,.tup (left.map D.int)]) S=aw (d,S):=by
 show ixK _ _ _=_;simp only[ixK,eV,j,h,ZK]
def ye:∀ (b:List (Int × List Int)),jY (b.map λz=>bC (aw z))=aw b
 |[]=>rfl
 |z::b=>by
  have e:BW (bC (aw z))=aw z:=by
   show(bK (z.2.map D.int)).map _=_;rw[cK];rfl
  rw[Zz];simp only[jY,e,ye b]
def OJ(b:List (Int × List Int)):nF aS (b.map λz=>bC (aw z)) S=aw (bC (oZ b),S):=by
 unfold nF;rw[ye];dsimp only;rw[Za,Zm,Zl];unfold oZ;cases b[argBest (cy b) (b.length - 1)]? <;> rfl
def OK{l:Am}{ah:Option (Int × Int)}{left:List Int}{c:Nat}(J:Kn K l p c S)(hc:c < 99999):∃S',jx (.ref p) (.tup [ahE ah,.tup (left.map D.int)]) (bC (bb K l left.length ah left)) S=aw S'/\Kp p S S'/\Kn K l p (c+1) S'/\ixS (.ref p) (.tup [ahE ah,.tup (left.map D.int)]) S'=aw (bC (bb K l left.length ah left),S'):=by
 obtain⟨b,v,C,⟨q,B⟩,O⟩:=J.ex;have lt:p < S.length:=(Zb.mp C).1;have e:jx (.ref p) (.tup [ahE ah,.tup (left.map D.int)]) (bC (bb K l left.length ah left)) S=Bg (.ref p) (.tup [ahE ah,.tup (left.map D.int)]) (bC (bb K l left.length ah left)) S:=rfl;rw[e];simp only[Bg,eV,C];rw[if_pos (by lia)];have kp:∀o,Kp p S (S.set p o):=λo i u hi h=>by rw[Zx (Ne.symm hi)];exact h
 by_cases cd:(atD b v (gN ah left)).isSome=aN
 ·rw[if_pos cd];have j:(S.set p (Ob.dic b (fN (gN ah left) (bC (bb K l left.length ah left)) b v)))[p]?=aw (.dic b (fN (gN ah left) (bC (bb K l left.length ah left)) b v)):=ZU lt;refine⟨_,rfl,kp _,⟨_,_,j,⟨p0 q,λy L d h=>?_⟩,by lia⟩,wx j ?_⟩
  ·rcases yc h with ⟨h1,rfl⟩ |h1
   ·obtain⟨rfl,rfl⟩:=uc h1;rfl
   ·exact B y L d h1
  ·exact ud cd
 ·rw[if_neg cd]
  have I:atD b v (gN ah left)=aD:=by
   cases h:atD b v (gN ah left) with
   |none=>rfl
   |some d=>rw[h] at cd;exact absurd rfl cd
  have j:(S.set p (Ob.dic (b++[gN ah left]) (v++[bC (bb K l left.length ah left)])))[p]?=aw (.dic (b++[gN ah left]) (v++[bC (bb K l left.length ah left)])):=ZU lt;refine⟨_,rfl,kp _,⟨_,_,j,⟨by rw[Zf,Zf,q];rfl,λy L d h=>?_⟩,by rw[Zf,Zq];lia⟩,wx j ?_⟩
  ·rw[qR q] at h;split at h
   ·rename_i T hd;cases h;exact B y L d hd
   ·split at h
    ·rename_i z;cases h;obtain⟨rfl,rfl⟩:=uc z;rfl
    ·cases h
  ·rw[qR q,I];dsimp only;rw[if_pos rfl]
abbrev OL{b:Type}(w:b->D):Option b->List D
 |none=>[]
 |some z=>[w z]
def uf{c b:Type}(f:c->Option b)(w:b->D):∀ (l:List c),(l.flatMap λa=>OL w (f a))=(l.filterMap f).map w
 |[]=>rfl
 |a::l=>by
  rw[Xb,uf f w l,YU];cases f a <;> rfl
def DC{x0:Int}(sk:SkX x0 K){l:Am}{n k:Nat}(ih:BB K l p n (k+5)):BB K l p (n+1) (k+7):=λah left S cc Q lf kn hcc q=>by
 refine ax (d:=bO) (ρ:=[aw (skE K),aw (iu l),aw (ahE ah),aw (.tup (left.map D.int)),aw (.ref p),aD,aD]) rfl rfl ?_;dsimp only[bO,dN];have g7:=sk.g7;have ln:=lf.ln;have le:=lf.le;obtain⟨j,ds,X,ki,hcl⟩:=kn.ex;have y:cnt (n+1)=(n+1) * cnt n+1:=rfl
 have ne:(left.map D.int).isEmpty=aS:=by
  cases left with
  |nil=>simp at ln
  |cons _ _=>rfl
 k_is;rw[ne];k_is;refine aa (OI (l:=l) X) ?_;cases O:atD j ds (gN ah left) with
 |some d=>
  k_is;refine aa (wx X O) ?_;have e:=ki.2 ah left d O;rw[ln] at e;subst e;exact q S (Kp.refl p S) (kn.up (YS _ _))
 |none=>
  k_is;refine mM left.length (λi=>D.int (left.getD i 0)) (λi b S'=>Kp p S S'/\Kn K l p (cc+i * cnt n) S'/\b=(left.take i).map λg=>bC (bw K l n ah left g)) (λi b S' hi _=>?_) (by lia) (λi b S' hi C=>?_) (λes S' J=>?_) ⟨Kp.refl p S,by rw[Nat.zero_mul];exact kn,rfl⟩
  ·show aw (left.map D.int)[i]?=_;rw[Zl];split
   ·rename_i h;rw[gEG h,Zm,gEG h];rfl
   ·rename_i h;rw[Zr (by lia)];rfl
  ·obtain⟨kp,c,rfl⟩:=C;have eg:left.getD i 0=left[i]:=by rw[Zm,gEG hi];rfl
   rw[eg];refine⟨_,rfl,?_⟩;k_is;have hi2:(i+1) * cnt n<=(n+1) * cnt n:=Nat.mul_le_mul_right _ (by lia);have v:(i+1) * cnt n=i * cnt n+cnt n:=WB _ _;refine⟨rfl,Ie (k:=k) sk ih lf (ZM hi) c (by lia) λS1 k1 B=>⟨kp.trans k1,by rw[v,<-YX];exact B,?_⟩⟩;rw[Z8 hi,ZQ];rfl
  ·obtain⟨kp,c,rfl⟩:=J;rw[YB];refine⟨by rw[Za];lia,?_⟩;have T:(S'++[Ob.lst (left.map λg=>bC (bw K l n ah left g))])[S'.length]?=aw (.lst (left.map λg=>bC (bw K l n ah left g))):=bh;have U:Sm S' (S'++[Ob.lst (left.map λg=>bC (bw K l n ah left g))]):=Sm.app _ _;generalize S'++[Ob.lst (left.map λg=>bC (bw K l n ah left g))]=S1 at *;generalize S'.length=N at *;k_is;refine⟨by rw[aP T];rfl,?_⟩;refine bI left (λg=>bC (bw K l n ah left g)) (λg=>OL (λz=>bC (aw z)) (bw K l n ah left g)) (by lia) (λg _=>by cases bw K l n ah left g <;> simp[OL]) (jL T) (λi g S2 hg sm=>⟨_,rfl,?_⟩) λS2 Z=>?_
   ·k_is;cases hb:bw K l n ah left g with
    |none=>
     refine aa (show ak .isnot (bC aD) .non S2=aw (.bl aS,S2) from rfl) ?_;k_is;exact⟨rfl,Sm.refl _⟩
    |some z=>
     refine aa (show ak .isnot (bC (aw z)) .non S2=aw (.bl aN,S2) from rfl) ?_;k_is;exact⟨rfl,Sm.refl _⟩
   ·rw[uf];refine aa (OJ _) ?_;rw[<-kQ]
    have k2:Kn K l p (cc+(n+1) * cnt n) S2:=by
     have:=(c.kp U).kp Z
     rwa [ln] at this
    obtain⟨Y,e4,L,u,I⟩:=OK (ah:=ah) (left:=left) k2 (by lia);rw[ln] at e4 I;refine⟨Y,e4,?_⟩;k_is;refine aa I (q Y ((kp.trans (U.trans Z).kp).trans L) ?_);rw[y,<-YX];exact u
abbrev jO(K:Sky):List Int:=((Zg K.G.length).filter λ(j:Nat)=>!decide ((j:Int) ∈ K.F)).map λ(j:Nat)=>(j:Int)
def qS(x:Int):x ∈ jO K ↔ (0<=x/\x < K.G.length/\x ∉ K.F):=by
 unfold jO;rw[Zy];constructor
 ·rintro⟨j,d,rfl⟩;obtain⟨c,b⟩:=ZI.mp d;have:=ZJ.mp c;simp at b;exact⟨by lia,by lia,b⟩
 ·rintro⟨l,c,b⟩;refine⟨x.toNat,ZI.mpr ⟨ZJ.mpr (by lia),?_⟩,by lia⟩;have:((x.toNat:Nat):Int)=x:=by lia
  rw[this];simp[b]
def qU:(jO K).Nodup:=by
 unfold jO;refine Xc.mpr ((YR.sublist YW).imp λh z=>h (by lia))
def DD{X:Int}(h:SkX X K)(pm:l.Perm (jO K)):Ord K (K.F++l):=by
 have mo:=qS (K:=K);have no:=qU (K:=K);have B:l.Nodup:=pm.nodup_iff.mpr no
 have nd:(K.F++l).Nodup:=Y6.mpr ⟨h.nd,B,λa v b hb e=>by
  have:=((mo b).mp (pm.mem_iff.mp hb)).2.2;exact this (e ▸ v)⟩
 have bd:∀g ∈ K.F++l,0<=g/\g < K.G.length:=λg hg=>by
  rcases ZP.mp hg with hg |hg
  ·exact h.bd g hg
  ·have:=(mo g).mp (pm.mem_iff.mp hg);exact⟨this.1,this.2.1⟩
 have y:((Zg K.G.length).map λi=>Int.ofNat i).Nodup:=Xc.mpr (YR.imp λh z=>h (Int.ofNat.inj z))
 have q:(K.F++l).Perm ((Zg K.G.length).map λi=>Int.ofNat i):=(YN nd y).mpr λx=>by
  constructor
  ·intro c;have:=bd x c;exact Zy.mpr ⟨x.toNat,ZJ.mpr (by lia),by show((x.toNat:Nat):Int)=x;lia⟩
  ·intro c;obtain⟨j,d,rfl⟩:=Zy.mp c;have d:=ZJ.mp d;by_cases u:Int.ofNat j ∈ K.F
   ·exact ZV _ u
   ·refine ZA _ (pm.mem_iff.mpr ((mo _).mpr ⟨?_,?_,u⟩))
    ·show 0<=(j:Int);lia
    ·show(j:Int) < K.G.length;lia
 have:=q.length_eq;rw[Za,ZB] at this;exact⟨nd,bd,this,⟨l,rfl⟩,q⟩
def o7{X:Int}(sk:SkX X K){l:Am}{j:Nat}:∀n,BB K l p n (2 * n+5+j)
 |0=>by rw[show 2 * 0+5+j=(4+j)+1 by lia];exact DB
 |n+1=>by
  have I:=o7 sk (l:=l) (j:=j) n;rw[show 2 * (n+1)+5+j=(2 * n+j)+7 by lia];exact DC sk (by rw[show 2 * n+j+5=2 * n+5+j by lia];exact I)
def DE{n:Nat}:∀i S',Sm S S'->nxR 0 n i S'=aw (((Zg n)[i]?).map λ(j:Nat)=>D.int (0+(j:Int))):=λi S' _=>by
 show aw (if i < n then aw (D.int (0+(i:Int))) else aD)=_;split
 ·rename_i h;rw[Z6 h];rfl
 ·rename_i h;rw[Zr (by rw[ZB];lia)];rfl
abbrev ca(K:Sky):List Int:=((Zg K.G.length).filter λ(j:Nat)=>!decide ((j:Int) ∈ K.F)).map λ(j:Nat)=>(j:Int)
def Ig(V:Vd K)(q:∀S',Sm S S'->Q (.tup ((ca K).map D.int)) S'):Ok (evC ae (k+1) 21 [skE K] S) Q:=by
 refine ax (d:=f7) (ρ:=[aw (skE K)]) rfl rfl ?_;dsimp only[f7,kl];have g7:=V.g7;k_is;refine aa sk2 (aa bG ?_);k_is;refine⟨gm (by lia) (by lia),?_⟩;rw[ZG];refine bI (Zg K.G.length) (λ(j:Nat)=>D.int (0+(j:Int))) (λ(j:Nat)=>if (!decide ((j:Int) ∈ K.F))=aN then [D.int (j:Int)] else []) (by rw[ZB];lia) (λa _=>by split <;> simp) DE (λi j S' u sm=>⟨_,rfl,?_⟩) λb l=>?_
 ·k_is;refine aa sk3 ?_;rw[Wa];k_is;refine aa (show ak .notin (.int (j:Int)) (.tup (K.F.map D.int)) S'=aw (.bl (aN != decide ((j:Int) ∈ K.F)),S') from i6 aN K.F j S') ?_;rw[show(aN != decide ((j:Int) ∈ K.F)) = !decide ((j:Int) ∈ K.F) by cases decide ((j:Int) ∈ K.F) <;> rfl];k_is;cases c:!decide ((j:Int) ∈ K.F) with
  |true=>exact⟨rfl,Sm.refl _⟩
  |false=>exact⟨rfl,Sm.refl _⟩
 ·rw[b9];refine aa (show cM aS _ b=aw (.tup _,b) from rfl) ?_;have:=q b l;unfold ca at this
  rwa [ZS] at this
def DF(V:Vd K)(bd:∀g ∈ K.F,0<=g/\g < K.G.length)(z:K.F.length<=7)(B:∀j,rn K K.F K.ah [] = .inl j->∀S',Sm S S'->Q .non S')(C:∀R,rn K K.F K.ah [] = .inr R->∀n S',Sm S S'->S'[n]?=aw (.lst (R.map au))->S.length<=n->Q (.ref n) S'):Ok (evC ae (k+6) 32 [skE K] S) Q:=by
 refine ax (d:=cD) (ρ:=[aw (skE K),aD]) rfl rfl ?_;dsimp only[cD,eJ];k_is;refine aa sk3 ?_;refine⟨rfl,tY (k:=k) V bd z λn L q u y hN v=>?_⟩;k_is;refine aa (jb y) (aa sk3 (aa bG ?_));k_is;rw[Za];cases b:rn K K.F K.ah [] with
 |inl j=>
  have l:=v.stuck j b;have c:=Dq K.F _ _ j b;rw[Z3,Yx] at c;rw[decide_eq_false (show ¬ (L.length:Int)=K.F.length by lia)];k_is;exact B j b q u
 |inr R=>
  have l:=v.lands R b;have c:=jc K.F _ _ R b;rw[Z3,Yx] at c;rw[decide_eq_true (show(L.length:Int)=K.F.length by rw[l,c])];k_is;exact C R b n q u (by rw[<-l];exact y) hN
abbrev aR(K:Sky)(l:Am):Option (Int × List Int):=match rn K K.F K.ah [] with
 |.inl _=>aD
 |.inr R=>(bb K l (ca K).length (aK K R) (ca K)).map λz=>(R.foldr (λy x=>jnd K l y.1 y.2 x) z.1,K.F++z.2)
def JO:∀ (os:List Int) (a:Option (Int × Int)) (L R:List (Int × Int)),(∀g ∈ os,0<=g/\g < K.G.length)->InG K L->rn K os a L = .inr R->InG K R
 |[],_,L,R,_,hL,e=>by cases e;exact hL
 |g::os,a,L,R,ho,hL,e=>by
  rw[rn] at e;split at e
  ·cases e
  ·rename_i m _;split at e
   ·cases e
   ·exact JO os _ _ R (λx b=>ho x (Ze _ b)) (λz c=>(ZP.mp c).elim (hL z) λZ=>by rw[ZE.mp Z];exact ho g Zi) e
def OM:∀n,n < 8->cnt n<=99999:=by decide
def Ih{X:Int}(sk:SkX X K){ah:Option (Int × Int)}(c:∀q,ah=aw q->0<=q.1/\q.1 < K.M.length):Lf K (ca K).length ah (ca K):=by
 refine⟨?_,λg b=>?_,rfl,?_,c⟩
 ·unfold ca;exact Xc.mpr ((YR.filter _).imp λh z=>h (Int.ofNat.inj z))
 ·unfold ca at b;obtain⟨j,d,rfl⟩:=Zy.mp b;have:=ZJ.mp (ZI.mp d).1
  lia
 ·unfold ca;rw[Za];have:=YK (λ(j:Nat)=>!decide ((j:Int) ∈ K.F)) (Zg K.G.length);rw[ZB] at this;exact this
def Kp.new{o:Ob}(h:Ev.Kp S.length (S++[o]) S'):Sm S S':=λi u e=>by
 have hi:=(Zb.mp e).1;exact h i u (by lia) (Sm.app _ _ _ _ e)
def yf{n:Nat}{ds:List D}{T:Tg}{b:XS}{c:Rho}{Q:Fl->Rho->Sto->Prop}(hl:ds.length<=100000)(I:Nat->Rho->Sto->Prop)(B:∀i c S',I i c S'->S'[n]?=aw (.lst ds))
  (step:∀ (i:Nat) d c S',ds[i]?=aw d->I i c S'->∃l,aC T d c=aw l/\OkS (b l S') λC j v=>match C with |.nx=>I (i+1) j v |.ct=>I (i+1) j v |.bk=>Q .nx j v |.rt d=>Q (.rt d) j v)
  (q:∀c S',I ds.length c S'->Q .nx c S') (L:I 0 c S):OkS (fC (nxS n) T b LF 0 c S) Q:=by
 refine kM ds.length I (by unfold LF;lia) (λi c S' hi u=>?_) (λc S' u=>⟨?_,q c S' u⟩) L
 ·obtain⟨l,J,z⟩:=step i ds[i] c S' (gEG hi) u;refine⟨ds[i],l,?_,J,z⟩;show(aQ S' n).map (λds=>ds[i]?)=_;rw[aP (B i c S' u),ZK,gEG hi]
 ·show(aQ S' n).map (λy=>y[ds.length]?)=_;rw[aP (B _ c S' u),ZK,Zr (Zj _)]
def jf{x0:Int}(sk:SkX x0 K){l:Am}(q:∀S',Sm S S'->Q (bC (aR K l)) S'):Ok (evC ae (k+20) 38 [skE K,iu l] S) Q:=by
 refine ax (d:=fm) (ρ:=[aw (skE K),aw (iu l),aD,aD,aD,aD,aD,aD]) rfl rfl ?_;dsimp only[fm,iY];have V:=sk.vd;have g7:=sk.g7;have lF:=Dw.dw K.G.length K.F sk.nd sk.bd;k_is;unfold aR at q;refine⟨rfl,DF (k:=k+13) V sk.bd (by lia) (λj L I U=>?_) (λR L n I U hn hN=>?_)⟩
 ·rw[L] at q;k_is;refine aa (show ak .is .non .non I=aw (.bl aN,I) from rfl) ?_;k_is;exact q I U
 ·rw[L] at q;k_is;refine aa (show ak .is (.ref n) .non I=aw (.bl aS,I) from rfl) ?_;k_is;have inR:InG K R:=JO K.F _ [] R sk.bd (λz hz=>by cases hz) L;refine⟨rfl,tV (k:=k+18) V hn inR ?_⟩;refine⟨rfl,Ig (k:=k+18) V λT s2=>?_⟩;k_is;have Z:=Ih sk (tX V inR);have fle:=Z.le;have hc:=OM (ca K).length (by lia);have kn:Kn K l T.length 0 (T++[Ob.dic [] []]):=⟨[],[],bh,⟨rfl,λ_ _ _ h=>by cases h⟩,Zj _⟩;have bo:=o7 (p:=T.length) sk (l:=l) (j:=k+14 - 2 * (ca K).length) (ca K).length;rw[show 2 * (ca K).length+5+(k+14 - 2 * (ca K).length)=k+19 by lia] at bo;refine⟨rfl,bo _ _ _ 0 _ Z kn (by lia) λB Y kn3=>?_⟩;have s3:=(U.trans s2).trans (Kp.new Y);have X:=(Kp.new Y) _ _ (s2 _ _ hn);dsimp only at q;cases hb:bb K l (ca K).length (aK K R) (ca K) with
  |none=>
   rw[hb] at q;rw[show bC aD = .non from rfl];k_is;refine aa (show ak .is .non .non B=aw (.bl aN,B) from rfl) ?_;k_is;exact q B s3
  |some z=>
   rw[hb] at q;rw[show bC (aw z) = .tup [.int z.1,.tup (z.2.map D.int)] from rfl];k_is;refine aa (show ak .is (.tup [.int z.1,.tup (z.2.map D.int)]) .non B=aw (.bl aS,B) from rfl) ?_;k_is;refine aa (show vC (.ref n) B=aw (.ref B.length,B++[Ob.lst (R.map au).reverse]) by simp only[vC,aP X]) ?_;have a4:(B++[Ob.lst (R.map au).reverse])[B.length]?=aw (.lst (R.map au).reverse):=bh;have s4:=s3.trans (Sm.app B [Ob.lst (R.map au).reverse]);generalize B++[Ob.lst (R.map au).reverse]=S4 at *;generalize B.length=N at *;have lR:=jc K.F _ _ R L;rw[Z3,Yx] at lR;k_is;refine⟨by rw[aP a4];rfl,?_⟩;refine yf (ds:=(R.map au).reverse) (by rw[Ym,Za];lia) (λi O S'=>S'=S4/\∃u v,O=[aw (skE K),aw (iu l),aw (.ref n),aw (.tup [.int z.1,.tup (z.2.map D.int)]),aw (.int ((R.reverse.take i).foldl (λx y=>jnd K l y.1 y.2 x) z.1)),aw (.tup (z.2.map D.int)),u,v]) (λi O S' J=>by rw[J.1];exact a4) (λi d O S' hd J=>?_) (λO S' J=>?_) ⟨rfl,_,_,rfl⟩
   ·obtain⟨rfl,u,v,rfl⟩:=J;rw[<-List.map_reverse] at hd;obtain⟨y,hy,rfl⟩:=wk hd;have C:=inR y (List.mem_reverse.mp (Zc hy));obtain⟨a,b,c,d,e,f,h,eg,e0,e4,e5,f0,f1,a0,a1⟩:=gl9 sk C.1 C.2;refine⟨_,show aC (.tup [.name 6,.name 7]) (.tup [.int y.1,.int y.2]) _=_ from qF (by simp) (by simp),?_⟩;k_is;refine aa sk2 (aa (mP C.1 eg) ?_);refine⟨rfl,o4 (k:=k+17) l e4 e5 f0 f1 ?_⟩;k_is
    have e:(R.reverse.take (i+1)).foldl (λx y=>jnd K l y.1 y.2 x) z.1=jnd K l y.1 y.2 ((R.reverse.take i).foldl (λx y=>jnd K l y.1 y.2 x) z.1):=by
     rw[List.take_succ,hy,List.foldl_append];rfl
    rw[e];exact⟨rfl,_,_,rfl⟩
   ·obtain⟨rfl,u,v,rfl⟩:=J;rw[Ym,Za,<-Ym (as:=R),YB,List.foldl_reverse];k_is;refine aa sk3 ?_;k_is;have lz:=wu _ _ _ z hb;refine⟨by rw[Za,Za];lia,?_⟩;have:=q _ s4;dsimp only[ZK,bC] at this
    rwa [ZQ] at this
def DG(q:Q (match (o:Option (Int × List Int)) with |none=>D.non |some z=>.tup [.str "order", .int z.1,.tup (z.2.map D.int)]) S):Ok (evC ae (k+1) 37 [bC o] S) Q:=by
 refine ax (d:=vZ) (ρ:=[aw (bC o),aD,aD]) rfl rfl ?_;dsimp only[vZ,CF];cases o with
 |none=>
  rw[show bC aD = .non from rfl];k_is;refine aa (show ak .is .non .non S=aw (.bl aN,S) from rfl) ?_;k_is;exact q
 |some z=>
  rw[show bC (aw z) = .tup [.int z.1,.tup (z.2.map D.int)] from rfl];k_is;refine aa (show ak .is (.tup [.int z.1,.tup (z.2.map D.int)]) .non S=aw (.bl aS,S) from rfl) ?_;k_is;exact q
abbrev DH:Option (Int × List Int)->D
 |none=>.non
 |some z=>.tup [.str "order", .int z.1,.tup (z.2.map D.int)]
def zR(sk:aW K)(q:∀S',Sm S S'->Q (DH (aR K .la)) S'):Ok (evC ae (k+21) 35 [skE K] S) Q:=by
 refine ax (d:=fj) (ρ:=[aw (skE K)]) rfl rfl ?_;dsimp only[fj,iW];k_is;refine⟨rfl,gr (k:=k+12) sk λu j=>?_⟩;k_is;refine⟨rfl,(jf (k:=k) (l:=.la) sk λb c=>⟨rfl,DG (k:=k+19) ?_⟩)⟩;have:=q b (j.trans c);cases h:aR K .la with
 |none=>rw[h] at this;exact this
 |some z=>rw[h] at this;exact this
def zS(sk:aW K)(q:∀S',Sm S S'->Q (DH (aR K .co)) S'):Ok (evC ae (k+21) 36 [skE K] S) Q:=by
 refine ax (d:=fk) (ρ:=[aw (skE K)]) rfl rfl ?_;dsimp only[fk,iX];k_is;refine⟨rfl,gr (k:=k+12) sk λu j=>?_⟩;k_is;refine⟨rfl,(jf (k:=k) (l:=.co) sk λb c=>⟨rfl,DG (k:=k+19) ?_⟩)⟩;have:=q b (j.trans c);cases h:aR K .co with
 |none=>rw[h] at this;exact this
 |some z=>rw[h] at this;exact this
end Lw
namespace Lw
open PySem Ev Sn
variable {K:Sky}
structure KAt(K:Sky)(L:List (Int × Int))(j:Nat)(z:Int × Int):Prop where
 lo:gi K.G z.1 2<=z.2
 hi:z.2<=gi K.G z.1 3
 op:opm K.H z.2=z.2
 gap:∀a,aK K (L.take j)=aw a->a.2+gp K a.1 (gi K.G z.1 0)<=z.2
 wt:(wts K L (jn K z.1):Int)<=K.r
 rg:bP K (L.take j) z.1 z.2=aS
abbrev nK(K:Sky)(L:List (Int × Int)):Prop:=∀ (j:Nat) z,L[j]?=aw z->KAt K L j z
def qV:∀ (l:List (Int × Int)) (m:Int),m<=opm l m
 |[],_=>ZF _
 |p::l,m=>by
  rw[opm];refine YT ?_ (qV l _);split
  ·lia
  ·exact ZF _
def mU:∀ {l:List (Int × Int)} {lo x y:Int},Ris lo l->x<=y->opm l x<=opm l y
 |[],_,_,_,_,h=>h
 |p::l,lo,x,y,h,hxy=>by
  rw[Ris] at h;rw[opm,opm];by_cases b:p.1<=x/\x < p.2
  ·rw[if_pos b];refine mU h.2.2 ?_;split
   ·exact ZF _
   ·lia
  ·rw[if_neg b];refine mU h.2.2 ?_;split
   ·lia
   ·exact hxy
def ug:∀ {l:List (Int × Int)} {lo x:Int},Ris lo l->opm l (opm l x)=opm l x
 |[],_,_,_=>rfl
 |p::l,lo,x,h=>by
  rw[Ris] at h;by_cases b:p.1<=x/\x < p.2
  ·have e:opm (p::l) x=p.2:=by rw[opm,if_pos b];exact i9 h.2.2 (ZF _)
   rw[e,opm,if_neg (by lia)];exact i9 h.2.2 (ZF _)
  ·have e:opm (p::l) x=opm l x:=by rw[opm,if_neg b]
   rw[e,opm];by_cases c:x < p.1
   ·have:opm l x=x:=i9 h.2.2 (by lia);rw[this,if_neg b];exact this
   ·have:=qV l x;rw[if_neg (by lia)];exact ug h.2.2
inductive Low:List (Int × Int)->List (Int × Int)->Prop
 |nil:Low [] []
 |cons {p q:Int × Int} {P A:List (Int × Int)}:p.1=q.1->p.2<=q.2->Low P A->Low (p::P) (q::A)
def Low.len(h:Low P A):P.length=A.length:=by
 induction h with
 |nil=>rfl
 |cons _ _ _ I=>rw[Zo,Zo,I]
def Low.fst(h:Low P A):P.map (λp=>jn K p.1)=A.map λp=>jn K p.1:=by
 induction h with
 |nil=>rfl
 |cons e _ _ I=>rw[Zz,Zz,I,e]
def Low.snoc(h:Low P A)(b:p.1=q.1)(c:p.2<=q.2):Low (P++[p]) (A++[q]):=by
 induction h with
 |nil=>exact .cons b c .nil
 |cons e l _ I=>exact .cons e l I
def Low.wts{t:Int}(h:Low P A):wts K P t<=wts K A t:=by
 unfold Sn.wts
 induction h with
 |nil=>exact Zj _
 |@cons p q P A e l _ ih=>
  rw[Z4,Z4];by_cases b:aA K t p=aN
  ·have:aA K t q=aN:=by
    simp only[aA,bAE,decide_eq_true_eq] at b ⊢;rw[<-e]
    lia
   rw[if_pos b,if_pos this,Zo,Zo]
   lia
  ·rw[if_neg b];split
   ·rw[Zo];lia
   ·exact ih
def Low.last(h:Low P A):∀a,aK K P=aw a->∃b,aK K A=aw b/\a.1=b.1/\a.2<=b.2:=by
 have k:∀ {P A},Low P A->(P.getLast?=aD/\A.getLast?=aD)\/∃p q,P.getLast?=aw p/\A.getLast?=aw q/\p.1=q.1/\p.2<=q.2:=by
  intro P A h
  induction h with
  |nil=>exact .inl ⟨rfl,rfl⟩
  |@cons p q P A e l _ ih=>
   right;rcases ih with ⟨c,d⟩ |⟨v,Q,c,d,u⟩
   ·rw[List.getLast?_eq_none_iff] at c d;subst c d;exact⟨p,q,rfl,rfl,e,l⟩
   ·refine⟨v,Q,?_,?_,u⟩
    ·rw[Y1,c];rfl
    ·rw[Y1,d];rfl
 intro a j;unfold aK at j ⊢;rcases k h with ⟨c,d⟩ |⟨p,q,c,d,u,h4⟩
 ·rw[c] at j;rw[d];exact⟨a,j,rfl,ZF _⟩
 ·rw[c] at j;rw[d];cases j;exact⟨_,rfl,by rw[u],h4⟩
def yg(h:∀x ∈ A,∃y ∈ B,x<=y)(d:∀y ∈ B,0<=y):Bx 0 A<=Bx 0 B:=by
 cases A with
 |nil=>
  show 0<=Bx 0 B;cases B with
  |nil=>exact ZF _
  |cons b B=>
   rw[ja (by simp)];exact d _ (xZ (by simp))
 |cons a A=>
  obtain⟨y,c,_⟩:=h a Zi;have:B ≠ []:=λz=>by rw[z] at c;simp at c
  rw[ja (by simp),ja this];exact wj (by simp) h
def zU{g m m':Int}(h:Low P A)(l:m<=m'):ip K P g m<=ip K A g m':=by
 unfold ip;refine yg (λx j=>?_) λy d=>?_
 ·obtain⟨t,b,rfl⟩:=Zy.mp j;refine⟨1+(wts K A t:Int),Zy.mpr ⟨t,?_,rfl⟩,by have:=h.wts (K:=K) (t:=t);lia⟩;unfold dF at b ⊢;obtain⟨c,k⟩:=ZI.mp b;rw[h.fst] at c;refine ZI.mpr ⟨c,?_⟩;simp only[bAE,decide_eq_true_eq] at k ⊢
  lia
 ·obtain⟨t,_,rfl⟩:=Zy.mp d
  lia
def zV{g m c:Int}(h:Low P A)(d:m<=c)(b:bP K A g c=aS):bP K P g m=aS:=by
 have:=zU (K:=K) (g:=g) h d;unfold bP at b ⊢;cases j:decide (0 < gi K.G g 6) with
 |false=>rfl
 |true=>
  rw[j,YZ] at b;rw[YZ];have:=of_decide_eq_false b;exact decide_eq_false (by lia)
def JP:∀ {l:List Int} {k:Nat} {j t:Int},l.Pairwise (·<=·)->l[k]?=aw j->t < j->(l.filter λx=>decide (x<=t)).length<=k
 |[],_,_,_,_,h,_=>by cases h
 |a::l,0,j,t,hp,h,ht=>by
  cases h
  have:(a::l).filter (λx=>decide (x<=t))=[]:=Xa.mpr λx hx=>by
   rw[decide_eq_true_eq];rcases Zn.mp hx with rfl |hx
   ·lia
   ·have:=(Yb.mp hp).1 x hx
    lia
  rw[this];exact Zj _
 |a::l,k+1,j,t,hp,h,ht=>by
  have I:=JP (k:=k) (Yb.mp hp).2 h ht;rw[Z4];split
  ·rw[Zo];lia
  ·lia
def DI:∀ {l:List Int} {k:Nat} {j t:Int},l.Pairwise (·<=·)->l[k]?=aw j->j<=t->k+1<=(l.filter λx=>decide (x<=t)).length
 |[],_,_,_,_,h,_=>by cases h
 |a::l,0,j,t,hp,h,ht=>by
  cases h;rw[Z4,if_pos (decide_eq_true ht),Zo]
  lia
 |a::l,k+1,j,t,hp,h,ht=>by
  have I:=DI (k:=k) (Yb.mp hp).2 h ht;have:a<=j:=(Yb.mp hp).1 j (Zc h);rw[Z4,if_pos (decide_eq_true (by lia)),Zo]
  lia
abbrev cj(K:Sky)(L:List (Int × Int))(t:Int):Nat:=(L.filter λp=>decide (jn K p.1<=t)).length
def yh{os:List Int}{L:List (Int × Int)}(k:Ord K os)(d:L.map (·.1)=os):(js K).Perm (L.map λp=>jn K p.1):=by
 have c:(L.map λp=>jn K p.1)=os.map (jn K):=by rw[<-d,ZS];rfl
 have j:(((Zg K.G.length).map λi=>Int.ofNat i).map (jn K))=K.G.map λg=>g.getD 1 0:=by
  rw[ZS];apply List.ext_getElem
  ·simp
  ·intro i l b;simp only[Za] at b;simp only[List.getElem_map,X8,Function.comp_apply,jn,gi];show((K.G[i]?).getD []).getD 1 0=_;rw[gEG b];rfl
 rw[c];refine(bu _).trans ?_;rw[<-j];exact(k.pm.map (jn K)).symm
def JQ{os:List Int}{L:List (Int × Int)}{t:Int}(c:Ord K os)(b:L.map (·.1)=os):((js K).filter λx=>decide (x<=t)).length=cj K L t:=by
 rw[((yh c b).filter _).length_eq,Xp,Za];rfl
def DJ{t:Int}:cj K (A++B) t=cj K A t+cj K B t:=by unfold cj;rw[Y2,Zf]
def yi{t:Int}:wts K (A++B) t=wts K A t+wts K B t:=by unfold Sn.wts;rw[Y2,Zf]
def OO{t:Int}:wts K B t<=cj K B t:=kO λp _ h=>by
 simp only[aA,bAE] at h;exact h.1
def OP{t:Int}(h:∀p ∈ B,t < p.2 - K.s):cj K B t<=wts K B t:=kO λp c b=>by
 simp only[aA,bAE];exact⟨b,decide_eq_true (h p c)⟩
def RS(h:aW K)(a b:Int):0<=gp K a b:=by
 unfold gp Dw.mg2;cases e:K.M[a.toNat]? with
 |none=>simp
 |some r=>
  rw[ZT];cases c:r[b.toNat]? with
  |none=>simp[c]
  |some x=>
   have:=h.me.mat.ent r (Zc e) x (Zc c);simp[c]
   lia
def mV{b:Type}{A B:List b}{z:b}:(A++z::B)[A.length]?=aw z:=by rw[Zp (Zj _),Yd];rfl
def gu{b:Type}{A B:List b}:(A++B).take A.length=A:=Ws
def cS{b:Type}{A B:List b}{z:b}:A++z::B=A++[z]++B:=by rw[Yu];rfl
def RT(h:aW K):∀ (B A:List (Int × Int)) (z:Int × Int),nK K (A++z::B)->∀p ∈ B,z.2<=p.2
 |[],_,_,_=>λp hp=>by cases hp
 |y::B,A,z,kp=>by
  have e:=cS (A:=A) (B:=y::B) (z:=z);have k:=kp (A++[z]).length y (by rw[e];exact mV);rw[e] at kp;have c:=k.gap (gi K.G z.1 0,z.2) (by rw[e,gu,bj]);have:=RS h (gi K.G z.1 0) (gi K.G y.1 0);intro p hp
  have b:z.2<=y.2:=by
   have:z.2+gp K (gi K.G z.1 0) (gi K.G y.1 0)<=y.2:=c
   lia
  rcases Zn.mp hp with rfl |hp
  ·exact b
  ·exact YT b (RT h B (A++[z]) y kp p hp)
def Ii(h:aW K){os:List Int}(k:Ord K os){A B:List (Int × Int)}{z:Int × Int}{m:Int}(d:(A++z::B).map (·.1)=os)(kp:nK K (A++z::B))(I:m<=z.2):late K A.length m=aS:=by
 unfold late;have r0:=h.me.r0;cases c:(js K)[(K.r+(A.length:Int)).toNat]? with
 |none=>rfl
 |some j=>
  refine decide_eq_false λl=>?_;have C:=DI (bv _) c (ZF j);rw[show(cN (K.G.map λg=>g.getD 1 0))=js K from rfl,JQ k d,DJ] at C;have L:cj K A j<=A.length:=YK _ _;have v:=RT h B A z kp
  have y:cj K (z::B) j<=wts K (z::B) j:=OP λp hp=>by
   rcases Zn.mp hp with rfl |hp
   ·lia
   ·have:=v p hp;lia
  have J:wts K (A++z::B) j=wts K A j+wts K (z::B) j:=yi;have b:j ∈ (A++z::B).map λp=>jn K p.1:=(yh k d).mem_iff.mp (Zc c);obtain⟨q,u,rfl⟩:=Zy.mp b;obtain⟨i,hi⟩:=Z2 u;have:=(kp i q hi).wt
  lia
def DK{j:Nat}(hl:Low P A)(kz:KAt K L j z)(c:L.take j=A):front K (aK K P) z.1<=z.2:=by
 unfold front;cases k:aK K P with
 |none=>exact kz.lo
 |some a=>
  obtain⟨b,hb,d,l⟩:=hl.last a k;have:=kz.gap b (by rw[c];exact hb);have:=kz.lo;dsimp only;rw[d];split <;> lia
def uh(h:aW K){os:List Int}(c:Ord K os):∀ (B A P:List (Int × Int)),(A++B).map (·.1)=os->nK K (A++B)->Low P A->∃R,rn K (B.map (·.1)) (aK K P) P = .inr R/\Low R (A++B)
 |[],A,P,_,_,hl=>⟨P,rfl,by rw[Z0];exact hl⟩
 |z::B,A,P,hL,kp,hl=>by
  have kz:=kp A.length z mV;have fr:=DK hl kz gu
  have m1:opm K.H (front K (aK K P) z.1)<=z.2:=by
   have:=mU h.me.ris fr;rw[kz.op] at this;exact this
  have hs:Sn.step K (aK K P) z.1 P.length=aw (opm K.H (front K (aK K P) z.1)):=by
   unfold Sn.step;have:=kz.hi;rw[hl.len,Ii h c hL kp m1,decide_eq_false (show ¬ gi K.G z.1 3 < opm K.H (front K (aK K P) z.1) by lia)];rfl
  have d:bP K P z.1 (opm K.H (front K (aK K P) z.1))=aS:=zV hl m1 (by have:=kz.rg;rw[gu] at this;exact this);have e:=cS (A:=A) (B:=B) (z:=z);obtain⟨R,b,j⟩:=uh h c B (A++[z]) (P++[(z.1,opm K.H (front K (aK K P) z.1))]) (by rw[<-e];exact hL) (by rw[<-e];exact kp) (hl.snoc rfl m1);refine⟨R,?_,by rw[e];exact j⟩;rw[Zz,rn,hs];dsimp only;rw[d,if_neg Zh];rw[bj] at b;exact b
def ui:∀ (os:List Int) (P R:List (Int × Int)),rn K os (aK K P) P = .inr R->(∃T,R=P++T/\T.map (·.1)=os)/\∀ (j:Nat) z,P.length<=j->R[j]?=aw z->Sn.step K (aK K (R.take j)) z.1 j=aw z.2/\bP K (R.take j) z.1 z.2=aS
 |[],P,R,h=>by
  cases h;exact⟨⟨[],by simp,rfl⟩,λj z k b=>by rw[Zr k] at b;cases b⟩
 |g::os,P,R,h=>by
  rw[rn] at h;cases hs:Sn.step K (aK K P) g P.length with
  |none=>rw[hs] at h;cases h
  |some m=>
   rw[hs] at h;dsimp only at h;cases d:bP K P g m with
   |true=>rw[d,if_pos rfl] at h;cases h
   |false=>
    rw[d,if_neg Zh] at h;obtain⟨⟨T,e,l⟩,I⟩:=ui os (P++[(g,m)]) R (by rw[bj];exact h);refine⟨⟨(g,m)::T,by rw[e,<-cS],by rw[Zz,l]⟩,λj z k b=>?_⟩;by_cases c:j=P.length
    ·subst c;rw[e,<-cS,mV] at b;cases b;rw[e,<-cS,gu];exact⟨hs,d⟩
    ·exact I j z (by rw[Zf,Zq];lia) b
def uj(f:Int × Int->Bool):∀ (R:List (Int × Int)),∃A B,R=A++B/\(∀p ∈ A,f p=aN)/\(B=[]\/∃y c,B=y::c/\f y=aS)
 |[]=>⟨[],[],rfl,λp hp=>(by cases hp),.inl rfl⟩
 |z::R=>by
  cases b:f z with
  |false=>exact⟨[],z::R,rfl,λp hp=>(by cases hp),.inr ⟨z,R,rfl,b⟩⟩
  |true=>
   obtain⟨A,B,e,d,j⟩:=uj f R;refine⟨z::A,B,by rw[e];rfl,λp hp=>?_,j⟩;rcases Zn.mp hp with rfl |hp
   ·exact b
   ·exact d p hp
def Ij(h:aW K){g:Int}(k:0<=g)(j:g < K.G.length):jn K g+K.s<=gi K.G g 2:=by
 have hi:g.toNat < K.G.length:=by lia
 obtain⟨u,jo,fi,la,q,l,v,b,hb⟩:=h.gb K.G[g.toNat] (ZM hi);have c:jn K g=jo:=by unfold jn gi;rw[gEG hi,b];rfl
 have d:gi K.G g 2=fi:=by unfold gi;rw[gEG hi,b];rfl
 rw[c,d];lia
def qW{g m:Int}{j:Nat}(h:Sn.step K a g j=aw m):m=opm K.H (front K a g)/\m<=gi K.G g 3/\late K j m=aS:=by
 unfold Sn.step at h;split at h
 ·cases h
 ·rename_i b;cases h;rw[YH,decide_eq_true_eq] at b
  exact⟨rfl,by lia,by
   cases e:late K j (opm K.H (front K a g)) with
   |false=>rfl
   | true=>exact absurd (.inr e) b⟩
def uk(a:Option (Int × Int))(g:Int):gi K.G g 2<=front K a g/\∀q,a=aw q->q.2+gp K q.1 (gi K.G g 0)<=front K a g:=by
 unfold front;cases a with
 |none=>exact⟨ZF _,λq e=>by cases e⟩
 |some q=>
  dsimp only;refine⟨by split <;> lia,λQ e=>?_⟩;cases e;split <;> lia
def Ik(h:aW K){os:List Int}(v:Ord K os){R:List (Int × Int)}(U:rn K os K.ah [] = .inr R):R.map (·.1)=os/\nK K R:=by
 obtain⟨⟨T,e,k⟩,st⟩:=ui os [] R U;rw[XJ] at e;subst e;have s0:=h.me.s0;have r0:=h.me.r0
 have L:∀ (j:Nat) z,R[j]?=aw z->gi K.G z.1 2<=z.2:=λj z l=>by
  obtain⟨C,_⟩:=qW (st j z (Z5 _) l).1;have:=(uk (K:=K) (aK K (R.take j)) z.1).1;have:=qV K.H (front K (aK K (R.take j)) z.1)
  lia
 have bd:∀p ∈ R,0<=p.1/\p.1 < K.G.length:=λp c=>v.bd p.1 (by rw[<-k];exact Zy.mpr ⟨p,c,rfl⟩);have ln:R.length=K.G.length:=by rw[<-v.ln,<-k,Za]
 refine⟨k,λj z l=>?_⟩;obtain⟨hs,X⟩:=st j z (Z5 _) l;obtain⟨C,O,_⟩:=qW hs;have fg:=uk (K:=K) (aK K (R.take j)) z.1;have og:=qV K.H (front K (aK K (R.take j)) z.1);refine⟨L j z l,O,by rw[C];exact ug h.me.ris,λa J=>by have:=fg.2 a J;lia,?_,X⟩;generalize jn K z.1=t;obtain⟨A,B,d,I,Q⟩:=uj (λp=>decide (p.2 - K.s<=t)) R
 have wA:wts K A t=0:=by
  unfold Sn.wts;rw[Z9,Xa];intro p c;have:=of_decide_eq_true (I p c);simp only[aA,bAE,decide_eq_true_eq]
  lia
 rw[d,yi,wA,Yx];rcases Q with rfl |⟨y,B',rfl,hy⟩
 ·exact r0
 ·have Z:¬ y.2 - K.s<=t:=of_decide_eq_false hy;have Y:R[A.length]?=aw y:=by rw[d];exact mV
  obtain⟨_,_,q⟩:=qW (st A.length y (Z5 _) Y).1
  have cA:cj K A t=A.length:=by
   unfold cj
   congr 1
   refine YV.mpr λp c=>decide_eq_true ?_;have b:p ∈ R:=by rw[d];exact ZV _ c
   obtain⟨i,hi⟩:=Z2 b;have:=L i p hi;have:=Ij h (bd p b).1 (bd p b).2;have:=of_decide_eq_true (I p c)
   lia
  have cR:cj K R t=A.length+cj K (y::B') t:=by rw[d,DJ,cA]
  have le:cj K R t<=(K.r+(A.length:Int)).toNat:=by
   unfold late at q;cases u:(js K)[(K.r+(A.length:Int)).toNat]? with
   |none=>
    have:=Ye.mp u;rw[Dn] at this;have:=YK (λp:Int × Int=>decide (jn K p.1<=t)) R;have:cj K R t<=R.length:=this
    lia
   |some x=>
    rw[u] at q;have:=of_decide_eq_false q;rw[<-JQ v k];exact JP (bv _) u (by lia)
  have:=OO (K:=K) (B:=y::B') (t:=t)
  lia
end Lw
namespace Sn
open Ev PySem Lw
def o8{q:Type}{v:q->Int}{bt:Nat->Nat->Bool}{ws:List q}(h:∀i j x y,ws[i]?=aw x->ws[j]?=aw y->if bt i j=aN then v x<=v y else v y<=v x):∀m,m < ws.length->∃x,ws[argBest bt m]?=aw x/\∀j y,j<=m->ws[j]?=aw y->v x<=v y
 | 0,hm=>⟨ws[0],gEG hm,λj y k d=>by
  rw[WE.mp k,gEG hm] at d;cases d;exact ZF _⟩
 |m+1,hm=>by
  obtain⟨x,u,z⟩:=o8 h m (by lia);have d:=gEG hm;have l:=h (m+1) (argBest bt m) _ x d u;show ∃x,ws[if bt (m+1) (argBest bt m)=aN then m+1 else argBest bt m]?=aw x/\_;split at l
  ·rename_i c;rw[if_pos c];refine⟨_,d,λj y k b=>?_⟩;by_cases e:j=m+1
   ·rw[e,d] at b;cases b;exact ZF _
   ·exact YT l (z j y (by lia) b)
  ·rename_i c;rw[if_neg c];refine⟨x,u,λj y k b=>?_⟩;by_cases e:j=m+1
   ·rw[e,d] at b;cases b;exact l
   ·exact z j y (by lia) b
def DM{ws:List (Int × List Int)}{x:Int × List Int}(h:x ∈ ws):∃z,oZ ws=aw z/\z.1<=x.1:=by
 obtain⟨i,hi⟩:=Z2 h;have q:=(Zb.mp hi).1
 obtain⟨z,l,le⟩:=o8 (v:=λx:Int × List Int=>x.1) (bt:=cy ws) (ws:=ws) (λi j x y k b=>by
  have e:cy ws i j=bx x y:=by
   unfold cy;rw[Zm,Zm,k,b];rfl
  rw[e];unfold bx;by_cases c:x.1=y.1
  ·rw[c];split <;> split <;> exact ZF _
  ·rw[if_neg c];split
   ·rename_i d;exact Int.le_of_lt (of_decide_eq_true d)
   ·rename_i d;rw[decide_eq_true_eq] at d;lia) (ws.length - 1) (by lia)
 exact⟨z,l,le i x (by lia) hi⟩
variable {K:Sky} {l:Am}
def ul{g m x y:Int}(h:x<=y):jnd K l g m x<=jnd K l g m y:=by
 unfold jnd;cases l
 ·dsimp only;split <;> split <;> lia
 ·dsimp only;lia
 ·dsimp only;split <;> split <;> lia
abbrev W(K:Sky)(l:Am)(L:List (Int × Int))(x:Int):Int:=L.foldr (λy x=>jnd K l y.1 y.2 x) x
def DN{x y:Int}(h:x<=y):∀ (L:List (Int × Int)),W K l L x<=W K l L y
 |[]=>h
 |z::L=>ul (l:=l) (DN h L)
def JR{L T:List (Int × Int)}{x:Int}:W K l (L++T) x=W K l L (W K l T x):=by unfold W;rw[List.foldr_append]
def um{left:List Int}{g:Int}(c:left.Nodup)(b:g ∈ left):left.Perm (g::rst left g):=by
 have e:rst left g=left.erase g:=by
  rw[List.Nodup.erase_eq_filter c];unfold rst;refine Xd λx _=>?_;by_cases h:x=g <;> simp[h]
 rw[e];exact YL b
def DP{left:List Int}{g:Int}(b:left.Nodup):(rst left g).Nodup:=b.sublist YW
def uo:∀ (n:Nat) (left:List Int) (L:List (Int × Int)) (z:Int × List Int),(∀g ∈ left,gi K.G g 6=0)->left.Nodup->left.length=n->L.length+n=K.G.length->bb K l n (aK K L) left=aw z->z.2.Perm left/\∃T,rn K z.2 (aK K L) L = .inr (L++T)/\z.1=W K l T 0
 |0,left,L,z,_,_,ln,_,h=>by
  cases h;rw[Z9.mp ln];exact⟨List.Perm.nil,[],by rw[Z0];rfl,rfl⟩
 |n+1,left,L,z,nr,nd,ln,hn,h=>by
  rw[kQ] at h;obtain⟨g,c,e⟩:=YD.mp (o0 h);unfold bw at e;rw[show K.G.length - (n+1)=L.length by lia] at e;cases hs:step K (aK K L) g L.length with
  |none=>rw[hs] at e;cases e
  |some m=>
   rw[hs] at e;obtain⟨y,d,rfl⟩:=ZD.mp e;have b:=um nd c;have k:=b.length_eq;rw[Zo] at k;obtain⟨u,T,r1,v⟩:=uo n (rst left g) (L++[(g,m)]) y (λx j=>nr x (ZI.mp j).1) (DP nd) (by lia) (by rw[Zf,Zq];lia) (by rw[bj];exact d);refine⟨(u.cons g).trans b.symm,(g,m)::T,?_,by show jnd K l g m y.1=_;rw[v];rfl⟩;have q:bP K L g m=aS:=by unfold bP;rw[nr g c];rfl
   rw[rn,hs];dsimp only;rw[q,if_neg Zh];rw[bj] at r1;rw[r1];exact congrArg Sum.inr cS.symm
def JS:∀ (r left:List Int) (L R:List (Int × Int)),r.Perm left->left.Nodup->L.length+r.length=K.G.length->rn K r (aK K L) L = .inr R->∃T z,R=L++T/\bb K l r.length (aK K L) left=aw z/\z.1<=W K l T 0
 |[],left,L,R,pm,_,_,h=>by
  cases h;exact⟨[],(0,[]),by rw[Z0],rfl,ZF _⟩
 |g::r,left,L,R,pm,nd,hn,h=>by
  rw[Zo] at hn;rw[rn] at h;cases hs:step K (aK K L) g L.length with
  |none=>rw[hs] at h;cases h
  |some m=>
   rw[hs] at h;dsimp only at h;split at h
   ·cases h
   ·have b:g ∈ left:=pm.mem_iff.mp Zi;have d:=um nd b;obtain⟨T,y,j,c,k⟩:=JS r (rst left g) (L++[(g,m)]) R ((pm.trans d).cons_inv) (DP nd) (by rw[Zf,Zq];lia) (by rw[bj];exact h)
    obtain⟨z,q,Z⟩:=DM (ws:=left.filterMap (bw K l r.length (aK K L) left)) (x:=(jnd K l g m y.1,g::y.2)) (YD.mpr ⟨g,b,by
     unfold bw;rw[show K.G.length - (r.length+1)=L.length by lia,hs];dsimp only;rw[bj] at c;rw[c];rfl⟩)
    refine⟨(g,m)::T,z,by rw[j];exact cS.symm,by rw[Zo,kQ];exact q,YT Z (ul (l:=l) k)⟩
def wy:∀ (os r:List Int) (a:Option (Int × Int)) (L:List (Int × Int)),a=aK K L->rn K (os++r) a L=match rn K os a L with |.inl j=>.inl j |.inr R=>rn K r (aK K R) R
 |[],r,a,L,e=>by rw[e];rfl
 |g::os,r,a,L,e=>by
  rw[Wk,rn,rn];cases step K a g L.length with
  |none=>rfl
  |some m=>
   dsimp only;split
   ·rfl
   ·exact wy os r _ _ (bj (z:=(g,m))).symm
def Il{X:Int}(sk:SkX X K):∀g ∈ ca K,gi K.G g 6=0:=λg b=>by
 obtain⟨d,j,c⟩:=(qS g).mp b;have hi:g.toNat < K.G.length:=by lia
 unfold gi;rw[gEG hi];rcases sk.rg g.toNat _ (gEG hi) with h |h
 ·exact h
 ·exact absurd (by rwa [show((g.toNat:Nat):Int)=g by lia] at h) c
def uq{X:Int}(sk:SkX X K):K.F.length+(ca K).length=K.G.length:=by
 have:=(DD sk (List.Perm.refl (jO K))).ln
 rwa [Zf] at this
def fu{X:Int}(sk:SkX X K){z:Int × List Int}(h:aR K l=aw z):Ord K z.2/\∃R,rn K z.2 K.ah [] = .inr R/\z.1=W K l R 0:=by
 unfold aR at h;cases b:rn K K.F K.ah [] with
 |inl j=>rw[b] at h;cases h
 |inr R=>
  rw[b] at h;obtain⟨y,e,rfl⟩:=ZD.mp h;have L:=jc K.F _ _ R b;rw[Z3,Yx] at L;obtain⟨c,T,r1,d⟩:=uo _ _ R y (Il sk) qU rfl (by rw[L];exact uq sk) e;refine⟨DD sk c,R++T,?_,?_⟩
  ·show rn K (K.F++y.2) K.ah []=_;rw[wy _ _ _ _ (show K.ah=aK K [] from rfl),b];exact r1
  ·show W K l R y.1=_;rw[JR,d]
def qX{X:Int}(sk:SkX X K){os:List Int}(c:Ord K os){R:List (Int × Int)}(h:rn K os K.ah [] = .inr R):∃z,aR K l=aw z/\z.1<=W K l R 0:=by
 obtain⟨r,rfl⟩:=c.fx;rw[wy _ _ _ _ (show K.ah=aK K [] from rfl)] at h;unfold aR;cases d:rn K K.F K.ah [] with
 |inl j=>rw[d] at h;cases h
 |inr b=>
  rw[d] at h;have L:=jc K.F _ _ b d;rw[Z3,Yx] at L;have nd:=Y6.mp c.nd
  have pm:r.Perm (ca K):=(YN nd.2.1 qU).mpr λx=>by
   rw[qS];constructor
   ·intro k;have:=c.bd x (ZA _ k);exact⟨this.1,this.2,λC=>nd.2.2 x C x k rfl⟩
   ·rintro⟨I,J,v⟩;have:x ∈ K.F++r:=c.pm.mem_iff.mpr (Zy.mpr ⟨x.toNat,ZJ.mpr (by lia),by show((x.toNat:Nat):Int)=x;lia⟩);exact(ZP.mp this).resolve_left v
  obtain⟨T,y,q,B,u⟩:=JS r (ca K) b R pm qU (by have:=uq sk;have:=pm.length_eq;lia) h;dsimp only;rw[<-pm.length_eq,B];refine⟨_,rfl,?_⟩;show W K l b y.1<=_;rw[q,JR];exact DN u b
end Sn
namespace Sn
open Ev PySem Lw
variable {K:Sky} {l:Am}
def qY{X:Int}(sk:SkX X K)(h:(aR K l).isSome=aN):∃os R,Ord K os/\rn K os K.ah [] = .inr R:=by
 obtain⟨z,h⟩:=Yg.mp h;obtain⟨b,R,c,_⟩:=fu sk h;exact⟨z.2,R,b,c⟩
def qZ{X:Int}(sk:SkX X K){os:List Int}(b:Ord K os){R:List (Int × Int)}(h:rn K os K.ah [] = .inr R):(aR K l).isSome=aN:=by
 obtain⟨z,e,_⟩:=qX (l:=l) sk b h;rw[e];rfl
end Sn
namespace Sn
open Ev PySem Lw
variable {K K':Sky} {l:Bool}
def DQ(sk:aW K){g:Int}(d:0<=g)(c:g < K.G.length):0<=gi K.G g 0/\gi K.G g 0 < K.M.length:=by
 have hi:g.toNat < K.G.length:=by lia
 obtain⟨k,j,v,la,u,q,y,b,hb⟩:=sk.gb K.G[g.toNat] (ZM hi);unfold gi;rw[gEG hi,b];exact⟨show 0<=k by lia,show k < _ by lia⟩
abbrev rnm(f:Int->Int)(L:List (Int × Int)):List (Int × Int):=L.map λz=>(f z.1,z.2)
structure Lsr(K K':Sky)(f:Int->Int)(L:List (Int × Int)):Prop where
 g:∀z ∈ L,∀i,gi K'.G (f z.1) i=gi K.G z.1 i
 r:K'.r=K.r
 s:K'.s=K.s
 m:K'.M=K.M
 a:K'.ah=K.ah
 o:K'.H=K.H
def ur{j:Nat}:(rnm f L).take j=rnm f (L.take j):=by unfold rnm;rw[X1]
def Lsr.sub(h:Lsr K K' f L)(c:∀z ∈ A,z ∈ L):Lsr K K' f A:=⟨λz b=>h.g z (c z b),h.r,h.s,h.m,h.a,h.o⟩
def yj{t:Int}(h:Lsr K K' f L):wts K' (rnm f L) t=wts K L t:=by
 unfold wts rnm;rw[Xp,Za]
 congr 1
 refine Xd λz b=>?_;show(decide (gi K'.G (f z.1) 1<=t) && decide (t < z.2 - K'.s))=_;rw[h.g z b 1,h.s];rfl
def DR(h:Lsr K K' f L):aK K' (rnm f L)=aK K L:=by
 unfold aK rnm;rw[List.getLast?_map];cases b:L.getLast? with
 |none=>exact h.a
 |some z=>
  show aw (gi K'.G (f z.1) 0,z.2)=_;rw[h.g z (Xl b) 0]
def DS(h:Lsr K K' f (z::L)):ip K' (rnm f L) (f z.1) z.2=ip K L z.1 z.2:=by
 have c:=h.sub (A:=L) λy b=>Ze _ b
 have e:dF K' (rnm f L) (f z.1) z.2=dF K L z.1 z.2:=by
  unfold dF;have d:jn K' (f z.1)=jn K z.1:=h.g z Zi 1
  have j:(rnm f L).map (λp=>jn K' p.1)=L.map λp=>jn K p.1:=by
   unfold rnm;rw[ZS];exact ZZ λy b=>c.g y b 1
  rw[d,j,h.s]
 unfold ip;rw[e]
 congr 1
 exact ZZ λt _=>by rw[yj c]
def DT(h:Lsr K K' f L)(kp:nK K L):nK K' (rnm f L):=λj y hy=>by
 unfold rnm at hy;rw[Zl] at hy;obtain⟨z,q,rfl⟩:=ZD.mp hy;have k:=kp j z q;have b:=Zc q
 have d:Lsr K K' f (z::L.take j):=h.sub λy hy=>by
  rcases Zn.mp hy with rfl |hy
  ·exact b
  ·exact Xk hy
 refine⟨by rw[h.g z b 2];exact k.lo,by rw[h.g z b 3];exact k.hi,by rw[h.o];exact k.op,λa c=>?_,?_,?_⟩
 ·rw[ur,DR (d.sub λy hy=>Ze _ hy)] at c;have:=k.gap a c;show a.2+gp K' a.1 (gi K'.G (f z.1) 0)<=z.2;unfold gp;rw[h.m,h.g z b 0];exact this
 ·rw[yj h,show jn K' (f z.1)=jn K z.1 from h.g z b 1,h.r];exact k.wt
 ·have:=k.rg;unfold bP at this ⊢;rw[ur,DS d,h.g z b 6];exact this
def zW{g m:Int}(h:List.Sublist P A):ip K P g m<=ip K A g m:=by
 unfold ip;refine yg (λx d=>?_) λy c=>?_
 ·obtain⟨t,b,rfl⟩:=Zy.mp d;refine⟨1+(wts K A t:Int),Zy.mpr ⟨t,?_,rfl⟩,by have:wts K P t<=wts K A t:=(h.filter _).length_le;lia⟩;unfold dF at b ⊢;obtain⟨h1,j⟩:=ZI.mp b;refine ZI.mpr ⟨?_,j⟩;rcases Zn.mp h1 with e |h1
  ·rw[e];exact Zi
  ·exact Ze _ ((h.map _).subset h1)
 ·obtain⟨t,_,rfl⟩:=Zy.mp c
  lia
def zX{g m:Int}(h:List.Sublist P A)(b:bP K A g m=aS):bP K P g m=aS:=by
 have:=zW (K:=K) (g:=g) (m:=m) h;unfold bP at b ⊢;cases c:decide (0 < gi K.G g 6) with
 |false=>rfl
 |true=>
  rw[c,YZ] at b;rw[YZ];have:=of_decide_eq_false b;exact decide_eq_false (by lia)
def OQ(sk:aW K){a b c:Int}(j:0<=a)(q:a < K.M.length)(d:0<=b)(B:b < K.M.length)(C:0<=c)(k:c < K.M.length):gp K a b<=gp K a c+gp K c b:=sk.me.tri a.toNat b.toNat c.toNat (by lia) (by lia) (by lia)
def zY(sk:aW K)(C:InG K (A++x::B))(kp:nK K (A++x::B)):nK K (A++B):=λj z q=>by
 have sub:List.Sublist (A++B) (A++x::B):=(XG x B).append_left A;have wt:∀ {t:Int},wts K (A++B) t<=wts K (A++x::B) t:=λ{t}=>(sub.filter _).length_le;by_cases Y:j < A.length
 ·have d:(A++x::B)[j]?=aw z:=by rw[Zv Y] at q ⊢;exact q
  have k:=kp j z d;have e:(A++B).take j=(A++x::B).take j:=by rw[Xm (by lia),Xm (by lia)]
  exact⟨k.lo,k.hi,k.op,by rw[e];exact k.gap,by have:=k.wt;have:=wt (t:=jn K z.1);lia,by rw[e];exact k.rg⟩
 ·obtain⟨i,rfl⟩:∃i,j=A.length+i:=⟨j - A.length,by lia⟩;rw[Zp (by lia),show A.length+i - A.length=i by lia] at q;have d:(A++x::B)[A.length+(i+1)]?=aw z:=by rw[Zp (by lia),show A.length+(i+1) - A.length=i+1 by lia];exact q
  have k:=kp _ z d;have J:(A++B).take (A.length+i)=A++B.take i:=Xr _;have O:(A++x::B).take (A.length+(i+1))=A++x::B.take i:=Xr _;refine⟨k.lo,k.hi,k.op,λa c=>?_,by have:=k.wt;have:=wt (t:=jn K z.1);lia,?_⟩
  ·rw[J] at c;have I:=k.gap;rw[O] at I;cases i with
   |succ i=>
    cases B with
    |nil=>cases q
    |cons b B=>
     refine I a ?_;rw[List.take_succ_cons] at c ⊢;unfold aK at c ⊢;rw[YM,Y1] at c;rw[YM,List.getLast?_cons_cons,Y1];exact c
   |zero=>
    rw[Y5,Z0] at c;have L:=I (gi K.G x.1 0,x.2) (by rw[Y5];exact bj);have Z:=kp A.length x mV;have g2:=Z.gap a (by rw[gu];exact c);have Q:=C x (ZA _ Zi);have u:=C z (ZA _ (Ze _ (Zc q)));have nx:=DQ sk Q.1 Q.2;have T:=DQ sk u.1 u.2
    have U:0<=a.1/\a.1 < K.M.length:=by
     unfold aK at c;cases v:A.getLast? with
     |none=>rw[v] at c;have:=sk.ah a c;exact⟨this.1,this.2.1⟩
     |some y=>
      rw[v] at c;cases c;have X:=C y (ZV _ (Xl v));exact DQ sk X.1 X.2
    have:=OQ sk U.1 U.2 T.1 T.2 nx.1 nx.2;have L:x.2+gp K (gi K.G x.1 0) (gi K.G z.1 0)<=z.2:=L
    lia
  ·rw[J];refine zX ?_ (by have:=k.rg;rw[O] at this;exact this);exact(XG x _).append_left A
def gw(sk:aW K)(c:Int × Int->Bool):∀ (B A:List (Int × Int)),InG K (A++B)->nK K (A++B)->nK K (A++B.filter c)
 |[],A,_,kp=>kp
 |x::B,A,hL,kp=>by
  rw[Z4];split
  ·have:=gw sk c B (A++[x]) (by rw[<-cS];exact hL) (by rw[<-cS];exact kp)
   rwa [<-cS] at this
  ·refine gw sk c B A (λz hz=>hL z ?_) (zY sk hL kp);rcases ZP.mp hz with hz |hz
   ·exact ZV _ hz
   ·exact ZA _ (Ze _ hz)
def Im{os:List Int}{L:List (Int × Int)}(c:Ord K os)(b:L.map (·.1)=os):InG K L:=λz d=>c.bd z.1 (b ▸ Zy.mpr ⟨z,d,rfl⟩)
def yk:∀ (a b:List Int),a.Nodup->(∀x ∈ a,x ∈ b)->b.length<=a.length->a.Perm b
 |[],b,_,_,h=>by rw[Z9.mp (WE.mp h)]
 |x::a,b,c,hs,h=>by
  have j:=hs x Zi;have p:=YL j;have k:=p.length_eq;rw[Zo] at k h;have c:=Z1.mp c;exact((yk a (b.erase x) c.2 (λy d=>(Xj (λ(e:y=x)=>c.1 (e ▸ d))).mpr (hs y (Ze _ d))) (by lia)).cons x).trans p.symm
def OT{os:List Int}(nd:os.Nodup)(bd:∀g ∈ os,0<=g/\g < K.G.length)(ln:os.length=K.G.length)(fx:∃r,os=K.F++r):Ord K os:=
 ⟨nd,bd,ln,fx,yk _ _ nd (λx b=>by
  have:=bd x b;exact Zy.mpr ⟨x.toNat,ZJ.mpr (by lia),by show((x.toNat:Nat):Int)=x;lia⟩) (by rw[Za,ZB];lia)⟩
end Sn
namespace Sn
open Ev PySem Lw
abbrev gl(K:Sky)(x:Int):List Int:=(K.G[x.toNat]?).getD []
abbrev ixI(l:List Int)(x:Int):Int:=(l.idxOf x:Nat)
abbrev fxd(K:Sky)(l:List Int):List Int:=K.F.filter λx=>decide (x ∈ l)
abbrev nar(K:Sky)(l:List Int):Sky:={ K with G:=l.map (gl K),F:=(fxd K l).map (ixI l) }
structure LotK(K:Sky)(lot:List Int):Prop where
 nd:lot.Nodup
 bd:∀x ∈ lot,0<=x/\x < K.G.length
abbrev lnd(K:Sky)(l:List Int):Bool:=(aR (nar K l) .la).isSome
def ym:∀ (a b:List Int),a.Nodup->(∀x ∈ a,x ∈ b)->a.length<=b.length
 |[],b,_,_=>Z5 _
 |x::a,b,c,hs=>by
  have j:=(YL (hs x Zi)).length_eq;have c:=Z1.mp c;have:=ym a (b.erase x) c.2 λy d=>(Xj (λ(e:y=x)=>c.1 (e ▸ d))).mpr (hs y (Ze _ d));rw[Zo] at j ⊢
  lia
variable {K:Sky} {a b lot:List Int}
def LotK.len(h:LotK K lot):lot.length<=K.G.length:=by
 have:=ym lot ((Zg K.G.length).map Int.ofNat) h.nd λx c=>by
  have:=h.bd x c;exact Zy.mpr ⟨x.toNat,ZJ.mpr (by lia),by show((x.toNat:Nat):Int)=x;lia⟩
 rwa [Za,ZB] at this
def o9{x:Int}(h:x ∈ lot):lot[(ixI lot x).toNat]?=aw x:=by
 have c:=YY.mpr h;show lot[((lot.idxOf x:Nat):Int).toNat]?=_;rw[ZG,gEG c,X6 c]
def yn{x:Int}(h:x ∈ lot):0<=ixI lot x/\ixI lot x < lot.length:=by
 have:=YY.mpr h;unfold ixI
 lia
def DU{x y:Int}(d:x ∈ lot)(c:y ∈ lot)(h:ixI lot x=ixI lot y):x=y:=by
 have:=o9 d;rw[h,o9 c] at this;exact(Option.some.inj this).symm
def ix_at{i:Nat}{x:Int}(nd:lot.Nodup)(h:lot[i]?=aw x):ixI lot x=i:=by
 have c:=Zc h;have d:=o9 c;have l:=(Zb.mp h).1;have I:=(Zb.mp d).1
 have e:(ixI lot x).toNat=i:=by
  have k:=(Zb.mp d).2;have j:=(Zb.mp h).2;exact(YO nd).mp (k.trans j.symm)
 have:=yn c
 lia
def q8{d k:Type}{f:d->k}:∀ {l:List d},l.Nodup->(∀x ∈ l,∀y ∈ l,f x=f y->x=y)->(l.map f).Nodup
 |[],_,_=>Xw
 |x::l,h,i=>by
  have h:=Z1.mp h;rw[Zz];refine Z1.mpr ⟨λz=>?_,q8 h.2 λx j y c=>i x (Ze _ j) y (Ze _ c)⟩;obtain⟨y,c,e⟩:=Zy.mp z;exact h.1 (i _ (Ze _ c) _ Zi e ▸ c)
def jP{x:Int}(h:x ∈ fxd K lot):x ∈ K.F/\x ∈ lot:=by
 obtain⟨c,d⟩:=ZI.mp h;exact⟨c,of_decide_eq_true d⟩
def wz(hl:LotK K lot){x:Int}(h:x ∈ lot):K.G[x.toNat]?=aw (gl K x):=by
 have:=hl.bd x h;have hi:x.toNat < K.G.length:=by lia
 unfold gl;rw[gEG hi];rfl
def ra(sk:aW K)(hl:LotK K lot):aW (nar K lot):=by
 refine⟨sk.me,?_,λg d=>?_,q8 (sk.nd.sublist YW) λx c y l e=>DU (jP c).2 (jP l).2 e,λy l=>?_,λj g d=>?_,sk.ah⟩
 ·show(lot.map (gl K)).length<=7;have:=hl.len;have:=sk.g7;rw[Za];lia
 ·obtain⟨x,c,rfl⟩:=Zy.mp d;exact sk.gb _ (Zc (wz hl c))
 ·obtain⟨x,c,rfl⟩:=Zy.mp l;show _/\_ < ((lot.map (gl K)).length:Int);rw[Za];exact yn (jP c).2
 ·have d:(lot.map (gl K))[j]?=aw g:=d;rw[Zl] at d;obtain⟨x,c,rfl⟩:=ZD.mp d;have k:=Zc c;have:=hl.bd x k;refine(sk.rg x.toNat _ (wz hl k)).imp_right λh=>Zy.mpr ⟨x,ZI.mpr ⟨?_,decide_eq_true k⟩,ix_at hl.nd c⟩
  rwa [show((x.toNat:Nat):Int)=x by lia] at h
def DV{lot:List Int}{i:Int}{x:Int}(h:lot[i.toNat]?=aw x)(k:Nat):gi (nar K lot).G i k=(gl K x).getD k 0:=by
 unfold gi;show(((lot.map (gl K))[i.toNat]?).getD []).getD k 0=_;rw[Zl,h];rfl
def DW(sk:aW K)(U:LotK K a)(hb:LotK K b)(sub:∀x ∈ b,x ∈ a)(h:lnd K a=aN):lnd K b=aN:=by
 have I:=ra sk U;have L:=ra sk hb;obtain⟨os,R,B,hr⟩:=qY I h;obtain⟨X,kp⟩:=Ik I B hr;have hG:=Im B X;have la:((nar K a).G.length:Int)=a.length:=by show((a.map (gl K)).length:Int)=_;rw[Za]
 have lb:((nar K b).G.length:Int)=b.length:=by show((b.map (gl K)).length:Int)=_;rw[Za]
 have Y:(nar K b).G.length=b.length:=by lia
 let v:Int->Int:=λi=>a.getD i.toNat 0
 have T:∀i ∈ os,a[i.toNat]?=aw (v i):=λi hi=>by
  have:=B.bd i hi;have hl:i.toNat < a.length:=by lia
  show _=aw (a.getD i.toNat 0);rw[Zm,gEG hl];rfl
 let c:Int × Int->Bool:=λz=>decide (v z.1 ∈ b)
 let f:Int->Int:=λi=>ixI b (v i)
 have J:=gw I c R [] hG kp;rw[XJ] at J
 have inR:∀z ∈ R.filter c,z.1 ∈ os/\v z.1 ∈ b:=λz Z=>by
  obtain⟨k,l⟩:=ZI.mp Z;exact⟨X ▸ Zy.mpr ⟨z,k,rfl⟩,of_decide_eq_true l⟩
 have ls:Lsr (nar K a) (nar K b) f (R.filter c):=⟨λz Z i=>by
  obtain⟨k,l⟩:=inR z Z;rw[DV (o9 l),DV (T _ k)],rfl,rfl,rfl,rfl,rfl⟩
 have kp2:=DT ls J
 have ef:(rnm f (R.filter c)).map (·.1)=(os.filter λi=>decide (v i ∈ b)).map f:=by
  unfold rnm;rw[ZS,<-X,Xp,ZS];rfl
 have C:∀x ∈ os,∀y ∈ os,v x=v y->x=y:=λx d y u e=>by
  have k:=T x d;have l:=T y u;rw[<-e] at l;have q1:=ix_at U.nd k;have q2:=ix_at U.nd l;have:=B.bd x d;have:=B.bd y u
  lia
 have j:∀i ∈ os.filter (λi=>decide (v i ∈ b)),i ∈ os/\v i ∈ b:=λi hi=>by
  obtain⟨k,l⟩:=ZI.mp hi;exact⟨k,of_decide_eq_true l⟩
 have Q:Ord (nar K b) ((rnm f (R.filter c)).map (·.1)):=by
  rw[ef];have nf:=B.nd.sublist (YW (p:=λi=>decide (v i ∈ b)));refine OT (q8 nf λx d y u e=>?_) (λy u=>?_) ?_ ?_
  ·exact C x (j x d).1 y (j y u).1 (DU (j x d).2 (j y u).2 e)
  ·obtain⟨x,d,rfl⟩:=Zy.mp u;rw[lb];exact yn (j x d).2
  ·rw[Za,Y,<-Za (f:=v)];refine List.Perm.length_eq ((YN (q8 nf λx d y u e=>C x (j x d).1 y (j y u).1 e) hb.nd).mpr λx=>⟨λd=>?_,λd=>?_⟩)
   ·obtain⟨i,hi,rfl⟩:=Zy.mp d;exact(j i hi).2
   ·have O:=sub x d;have k:=o9 O;have l:=yn O;have hm:ixI a x ∈ os:=B.pm.mem_iff.mpr (Zy.mpr ⟨(ixI a x).toNat,ZJ.mpr (by lia),by show(((ixI a x).toNat:Nat):Int)=_;lia⟩)
    have ev:v (ixI a x)=x:=by
     have:=T _ hm;rw[k] at this;exact(Option.some.inj this).symm
    exact Zy.mpr ⟨ixI a x,ZI.mpr ⟨hm,decide_eq_true (ev.symm ▸ d)⟩,ev⟩
  ·obtain⟨r,er⟩:=B.fx;refine⟨(r.filter λi=>decide (v i ∈ b)).map f,?_⟩;rw[er,Y2,ZQ]
   congr 1
   have hv:∀x ∈ fxd K a,v (ixI a x)=x:=λx d=>by
    have k:=o9 (jP d).2;show a.getD (ixI a x).toNat 0=x;rw[Zm,k];rfl
   show(((fxd K a).map (ixI a)).filter λi=>decide (v i ∈ b)).map f=(fxd K b).map (ixI b);rw[Xp,ZS]
   have e2:(fxd K a).filter ((λi=>decide (v i ∈ b)) ∘ ixI a)=fxd K b:=by
    rw[Xd (q:=λx=>decide (x ∈ b)) λx d=>by show decide (v (ixI a x) ∈ b)=_;rw[hv x d]];unfold fxd;rw[List.filter_filter];refine Xd λx _=>?_;by_cases d:x ∈ b
    ·simp[d,sub x d]
    ·simp[d]
   rw[e2];refine ZZ λx d=>?_;show ixI b (v (ixI a x))=_;rw[hv x (ZI.mpr ⟨(jP d).1,decide_eq_true (sub x (jP d).2)⟩)]
 obtain⟨R',r1,_⟩:=uh L Q (rnm f (R.filter c)) [] [] rfl kp2 .nil;exact qZ L Q r1
end Sn
namespace Sn
open Ev PySem Lw
abbrev bn(l:List Int)(L:List (List Int)):Bool:=L.any λo=>o.all λx=>decide (x ∈ l)
abbrev pk(c:List Int->Bool):List (List Int)->List (List Int)->List (List Int)
 |[],acc=>acc
 |l::ls,acc=>pk c ls (if (!bn l acc && c l)=aN then acc++[l] else acc)
def yo:bn L (a++b)=(bn L a || bn L b):=by unfold bn;rw[List.any_append]
def rb:∀ (L b:List (List Int)),o ∈ pk c L b->o ∈ b\/(o ∈ L/\c o=aN)
 |[],b,h=>.inl h
 |l::L,b,h=>by
  unfold pk at h;rcases rb L _ h with h |⟨h,hc⟩
  ·split at h
   ·rename_i d;rw[bAE] at d;rcases ZP.mp h with h |h
    ·exact .inl h
    ·rw[ZE.mp h];exact .inr ⟨Zi,d.2⟩
   ·exact .inl h
  ·exact .inr ⟨Ze _ h,hc⟩
def yp:∀ (d b:List (List Int)),bn L b=aN->bn L (pk c d b)=aN
 |[],b,h=>h
 |l::d,b,h=>by
  unfold pk;refine yp d _ ?_;split
  ·rw[yo,h];rfl
  ·exact h
def DX:bn L [L]=aN:=by unfold bn;simp
def DY(hc:c L=aN):∀ (d b:List (List Int)),L ∈ d->bn L (pk c d b)=aN
 |l::d,b,h=>by
  unfold pk;rcases Zn.mp h with rfl |h
  ·refine yp d _ ?_;split
   ·rw[yo,DX,Bool.or_true]
   ·rename_i j;rw[hc,Ww] at j
    simpa using j
  ·exact DY hc d _ h
def ut:∀ (L b:List (List Int)),(∀l ∈ L,c l=C l)->pk c L b=pk C L b
 |[],b,_=>rfl
 |l::L,b,h=>by
  unfold pk;rw[h l Zi];exact ut L _ λx d=>h x (Ze _ d)
def zZ{P:List Int->Bool}{c:List (List Int)}(mono:∀a ∈ c,∀b ∈ c,(∀x ∈ b,x ∈ a)->P a=aN->P b=aN){L:List Int}(d:L ∈ c):(!bn L (pk (λl=>!P l) c []))=P L:=by
 cases k:P L with
 |false=>rw[DY (by rw[k];rfl) c [] d];rfl
 |true=>
  cases j:bn L (pk (λl=>!P l) c []) with
  |false=>rfl
  |true=>
   unfold bn at j;obtain⟨o,u,hs⟩:=Yz.mp j;rcases rb c [] u with h |⟨h1,h2⟩
   ·cases h
   ·rw[mono L d o h1 (λx q=>of_decide_eq_true (ZW.mp hs x q)) k] at h2;cases h2
abbrev aU:Nat->List (List Int)
 |0=>[[]]
 |n+1=>aU n++(aU n).map (·++[(n:Int)])
def dm:∀ (n:Nat) (l:List Int),l ∈ aU n->l.Nodup/\∀x ∈ l,0<=x/\x < n
 |0,l,h=>by rw[ZE.mp h];exact⟨Xw,λx hx=>by cases hx⟩
 |n+1,l,h=>by
  rcases ZP.mp h with h |h
  ·obtain⟨c,b⟩:=dm n l h;exact⟨c,λx hx=>by have:=b x hx;lia⟩
  ·obtain⟨k,j,rfl⟩:=Zy.mp h;obtain⟨c,b⟩:=dm n k j;refine⟨Y6.mpr ⟨c,by simp,λx hx y d e=>?_⟩,λx hx=>?_⟩
   ·have:=b x hx;have:=ZE.mp d
    lia
   ·rcases ZP.mp hx with hx |hx
    ·have:=b x hx;lia
    ·have:=ZE.mp hx;lia
def jQ:∀n,(aU n).length=2 ^ n
 |0=>rfl
 |n+1=>by unfold aU;rw[Zf,Za,jQ n,Nat.pow_succ];lia
def pc(c:Nat->Bool):∀n,((Zg n).filter c).map (λ(j:Nat)=>(j:Int)) ∈ aU n
 |0=>by simp[aU]
 |n+1=>by
  rw[Xo,Y2,ZQ];unfold aU;have I:=pc c n;by_cases h:c n=aN
  ·rw[Z4,if_pos h];exact ZA _ (Zy.mpr ⟨_,I,rfl⟩)
  ·rw[Z4,if_neg h];rw[List.filter_nil,Z7,Z0];exact ZV _ I
def uu(h:l ∈ aU K.G.length):LotK K l:=⟨(dm _ l h).1,(dm _ l h).2⟩
abbrev cw(n:Nat)(l:List Int):List Int:=((Zg n).filter λ(j:Nat)=>!decide ((j:Int) ∈ l)).map λ(j:Nat)=>(j:Int)
def mW{n:Nat}:cw n l ∈ aU n:=pc _ n
abbrev slots(n:Nat):List (List Int):=dC (aU n) [] (aU n)
def DZ{b c:Type}{g:b->c}{d:b}{d':c}{l:List (List Int)}{v:List b}(hN:eD (λi j=>bx (bW l i) (bW l j)) v.length):dC l d' (v.map g)=(dC l d v).map g:=by
 unfold dC;rw[Za];split
 ·rfl
 ·rw[ZS];refine ZZ λi hi=>?_;have:=(ju hN (by lia)).1 i hi;show(v.map g).getD i d'=g (v.getD i d);rw[Zm,Zm,Zl,gEG this];rfl
def pd{c:Type}{d:c}{l:List (List Int)}{vs:List c}(hN:eD (λi j=>bx (bW l i) (bW l j)) vs.length):(dC l d vs).Perm vs:=by
 unfold dC;split
 ·exact List.Perm.refl _
 ·rename_i h;have k:Pm vs.length (bV (λi j=>bx (bW l i) (bW l j)) vs.length):=p9 hN (by lia)
  have q:((bV (λi j=>bx (bW l i) (bW l j)) vs.length).toList.map λi=>vs.getD i d).Perm ((Zg vs.length).map λi=>vs.getD i d):=by
   refine List.Perm.map _ ?_;have:=k.toList
   simpa using this
  refine q.trans ?_
  have e:(Zg vs.length).map (λi=>vs.getD i d)=vs:=by
   refine Ys λj=>?_;rw[Zl];by_cases b:j < vs.length
   ·rw[Z6 b,gEG b];show aw (vs.getD j d)=_;rw[Zm,gEG b];rfl
   ·rw[Zr (by simpa using b),Zr (by simpa using b)];rfl
  rw[e]
abbrev wl(n:Nat)(i j:Nat):Bool:=bx (bW (aU n) i) (bW (aU n) j)
abbrev upB:List Nat->Bool
 |a::b::l=>decide (a<=b) && upB (b::l)
 |_=>aN
abbrev OU(n:Nat):Bool:=(vE (wl n) (aU n).length).any λp=>upB (p.toList.map λi=>((aU n).getD i []).length)
def RU:∀n,n<=7->OU n=aN:=by
 have h:(Zg 8).all OU=aN:=by decide +kernel
 exactλn b=>ZW.mp h n (ZJ.mpr (by lia))
variable {n:Nat} {l:List Int}
def OV(h:n<=7):eD (λi j=>bx (bW (aU n) i) (bW (aU n) j)) (aU n).length:=by
 have:=RU n h;unfold OU at this;obtain⟨p,e,_⟩:=(Option.any_eq_true ..).mp this;show(vE (wl n) (aU n).length).isSome=aN;rw[e];rfl
def eO(h:n<=7):l ∈ slots n ↔ l ∈ aU n:=(pd (OV h)).mem_iff
def pf(h:n<=7):(slots n).length=2 ^ n:=by unfold slots;rw[(pd (OV h)).length_eq,jQ]
end Sn
namespace Lw
open PySem Ev Sn L2
variable {p:Nat} {S S':Sto} {k:Nat} {Q:D->Sto->Prop} {K:Sky} {lot:List Int}
def OW{x:Int}(h:x ∈ lot):vN (ag lot) [.int x] S=aw (.int (ixI lot x),S):=by
 unfold ag vN;dsimp only;rw[cK];dsimp only;rw[if_pos h];rfl
def Io(sk:aW K):K.F.length<=K.G.length:=by
 have:=ym K.F ((Zg K.G.length).map Int.ofNat) sk.nd λx b=>by
  have:=sk.bd x b;exact Zy.mpr ⟨x.toNat,ZJ.mpr (by lia),by show((x.toNat:Nat):Int)=x;lia⟩
 rwa [Za,ZB] at this
def pq(sk:aW K)(hl:LotK K lot)(q:∀S',Sm S S'->Q (skE (nar K lot)) S'):Ok (evC ae (k+1) 48 [skE K,ag lot] S) Q:=by
 refine ax (d:=dW) (ρ:=[aw (skE K),aw (ag lot),aD,aD,aD,aD,aD]) rfl rfl ?_;dsimp only[dW,gZ];have L:=hl.len;have g7:=sk.g7;k_is;show wTp _ (.tup [meE K,ahE K.ah,.tup (K.G.map ag),.tup (K.F.map D.int)]) _ _;k_is;show wa (.tup (lot.map D.int)) S _;k_is;refine bI lot D.int (λx=>[ag (gl K x)]) (by lia) (λa _=>by simp) cu (λi x j u y=>⟨_,rfl,?_⟩) λj y=>?_
 ·have l:=Zc u;k_is;exact aa (mP (hl.bd x l).1 (wz hl l)) ⟨rfl,Sm.refl _⟩
 ·rw[bQ];refine aa (show cM aS _ j=aw (.tup _,j) from rfl) ?_;k_is;refine bI K.F D.int (λx=>if decide (x ∈ lot)=aN then [.int (ixI lot x)] else []) ?_ (λa _=>by split <;> simp) cu (λi x b u v=>⟨_,rfl,?_⟩) λb v=>?_
  ·exact ZX (Io sk) (by lia)
  ·k_is;refine aa (show ak .isin (.int x) (ag lot) b=aw (.bl (aS != decide (x ∈ lot)),b) from i6 aS lot x b) ?_;rw[Wu];k_is;by_cases c:x ∈ lot
   ·rw[decide_eq_true c];k_is;refine⟨rfl,?_⟩;k_is;exact aa (OW c) ⟨by rw[if_pos rfl],Sm.refl _⟩
   ·rw[decide_eq_false c];exact⟨by rw[if_neg Zh],Sm.refl _⟩
  ·rw[b9];refine aa (show cM aS _ b=aw (.tup _,b) from rfl) ?_;k_is;have:=q b (y.trans v);unfold skE nar at this;rw[ZS,ZS] at this;exact this
def uv(sk:aW K)(q:∀S',Sm S S'->Q (.bl (aR K .la).isSome) S'):Ok (evC ae (k+21) 49 [skE K] S) Q:=by
 refine ax (d:=qC) (ρ:=[aw (skE K)]) rfl rfl ?_;dsimp only[qC,xM];k_is;refine⟨rfl,jf (k:=k) (l:=.la) sk λb c=>?_⟩;have:=q b c;cases h:aR K .la with
 |none=>rw[h] at this;exact aa (show ak .isnot .non .non b=aw (.bl aS,b) from rfl) this
 |some z=>rw[h] at this;exact aa (show ak .isnot (.tup _) .non b=aw (.bl aN,b) from rfl) this
def Ip{b:Type}(f:b->Bool)(l:List b):ny aS (l.map λa=>D.bl (f a)) S=aw (.bl (l.any f),S):=by
 unfold ny;rw[if_pos ⟨rfl,by rw[YQ];exact ZW.mpr λ_ _=>rfl⟩,XF];rfl
def D0{n:Nat}(l:S[n]?=aw (.lst (ls.map ag)))(hl:ls.length<=1000)(v:∀o ∈ ls,o.length<=1000)(q:∀S',Sm S S'->Q (.bl (bn lot ls)) S'):Ok (evC ae (k+1) 52 [ag lot,.ref n] S) Q:=by
 refine ax (d:=gf) (ρ:=[aw (ag lot),aw (.ref n)]) rfl rfl ?_;dsimp only[gf,kr];k_is;refine⟨by rw[aP l];rfl,?_⟩;refine bI ls ag (λo=>[.bl (o.all λx=>decide (x ∈ lot))]) (by lia) (λa _=>by simp) (jL l) (λi o c y u=>⟨_,rfl,?_⟩) λc u=>?_
 ·k_is;show wa (.tup (o.map D.int)) c _;k_is;have:=v o (Zc y);refine bI o D.int (λx=>[.bl (decide (x ∈ lot))]) (by lia) (λa _=>by simp) cu (λi x b z j=>⟨_,rfl,?_⟩) λb j=>?_
  ·k_is;refine aa (show ak .isin (.int x) (ag lot) b=aw (.bl (aS != decide (x ∈ lot)),b) from i6 aS lot x b) ?_;rw[Wu];exact⟨rfl,Sm.refl _⟩
  ·rw[bQ];exact aa (Ev.kN o (λx=>decide (x ∈ lot)) b) ⟨rfl,j⟩
 ·rw[bQ];refine aa (Ip (λo:List Int=>o.all λx=>decide (x ∈ lot)) ls) ?_;k_is;exact q c u
def z4(V:Vd K)(q:∀S',Sm S S'->Q (ag (cw K.G.length lot)) S'):Ok (evC ae (k+1) 51 [skE K,ag lot] S) Q:=by
 refine ax (d:=jH) (ρ:=[aw (skE K),aw (ag lot)]) rfl rfl ?_;dsimp only[jH,oQ];have g7:=V.g7;k_is;refine aa sk2 (aa bG ?_);k_is;refine⟨gm (by lia) (by lia),?_⟩;rw[ZG];refine bI (Zg K.G.length) (λ(j:Nat)=>D.int (0+(j:Int))) (λ(j:Nat)=>if (!decide ((j:Int) ∈ lot))=aN then [D.int (j:Int)] else []) (by rw[ZB];lia) (λa _=>by split <;> simp) DE (λi j S' u sm=>⟨_,rfl,?_⟩) λb l=>?_
 ·k_is;rw[Wa];refine aa (show ak .notin (.int (j:Int)) (ag lot) S'=aw (.bl (aN != decide ((j:Int) ∈ lot)),S') from i6 aN lot j S') ?_;rw[show(aN != decide ((j:Int) ∈ lot)) = !decide ((j:Int) ∈ lot) by cases decide ((j:Int) ∈ lot) <;> rfl];k_is;cases c:!decide ((j:Int) ∈ lot) with
  |true=>exact⟨rfl,Sm.refl _⟩
  |false=>exact⟨rfl,Sm.refl _⟩
 ·rw[b9];refine aa (show cM aS _ b=aw (.tup _,b) from rfl) ?_;have:=q b l;unfold ag cw at this
  rwa [ZS] at this
abbrev gB(nm:Str):List CS:=[.asg (.name 1) (.bin .add (.var 1) (.comp [nm] (.bin .add (.var 3) (.tup [.var 2])) [⟨.name 3,.val (.var 1),aD⟩]))]
def Iq{nm:Str}{U:Option D}{m i:Nat}{Qf:Fl->Rho->Sto->Prop}(c:S[m]?=aw (.lst ((aU i).map ag)))(hi:i < 7)(q:∀u S',Sm S S'->S'[u]?=aw (.lst ((aU (i+1)).map ag))->Qf .nx [U,aw (.ref u),aw (.int i)] S') :
  OkS (gL (evC ae k) (gM ae) 57 (gB nm) [U,aw (.ref m),aw (.int i)] S) Qf:=by
 have l1:=jQ i;have L:(aU i).length<=64:=by rw[l1];exact XU (by decide) (show i<=6 by lia)
 dsimp only[gB];k_is;refine⟨by rw[aP c];rfl,?_⟩;refine bI (aU i) ag (λl=>[ag (l++[(i:Int)])]) (by lia) (λa _=>by simp) (jL c) (λj l b v d=>⟨_,rfl,?_⟩) λb d=>?_
 ·have hb:=ym l ((Zg i).map Int.ofNat) (dm i l (Zc v)).1 λx z=>by
   have:=(dm i l (Zc v)).2 x z;exact Zy.mpr ⟨x.toNat,ZJ.mpr (by lia),by show((x.toNat:Nat):Int)=x;lia⟩
  rw[Za,ZB] at hb;k_is;show tM .add (.tup (l.map D.int)) (.tup [.int i]) _ _;k_is;exact⟨by rw[Za];show l.length+1<=1000;lia,by unfold ag;rw[ZQ];rfl,Sm.refl _⟩
 ·rw[bQ];k_is;have y:Sm b (b++[.lst ((aU i).map λl=>ag (l++[(i:Int)]))]):=Sm.app _ _;refine aa (x8 (y _ _ (d _ _ c)) (ZO) (by rw[Za,Za];lia)) ?_;k_is;refine q _ _ ((d.trans y).trans (Sm.app _ _)) ?_;rw[ZO];show _=aw (Ob.lst ((aU i++(aU i).map (·++[(i:Int)])).map ag));rw[ZQ,ZS];rfl
def Ir{N n:Nat}(hN:N<=7)(z:S[n]?=aw (.lst ((Zg N).map λj=>.int (Int.ofNat j))))(q:∀m S',Sm S S'->S'[m]?=aw (.lst ((aU N).map ag))->Q (.ref m) S'):Ok (evC ae (k+1) 7 [.ref n] S) Q:=by
 refine ax (d:=jE) (ρ:=[aw (.ref n),aD,aD]) rfl rfl ?_;dsimp only[jE,oM];k_is;have s0:Sm S (S++[.lst [.tup []]]):=Sm.app _ _;refine⟨by rw[aP (s0 _ _ z)];rfl,?_⟩;refine yf (by rw[Za,ZB];lia) (λi l b=>Sm S b/\∃m u,l=[aw (.ref n),aw (.ref m),u]/\b[m]?=aw (.lst ((aU i).map ag))) (λi l b h=>h.1 _ _ z) (λi d l b hd ⟨v,m,u,e,c⟩=>?_) (λl b ⟨v,m,u,e,c⟩=>?_) ⟨s0,S.length,aD,rfl,ZO⟩
 ·subst e;rw[Zl] at hd;obtain⟨j,C,rfl⟩:=ZD.mp hd;obtain⟨hi,y⟩:=Zb.mp C;rw[X8] at y;subst y;rw[ZB] at hi;refine⟨_,rfl,Iq (nm := "lot") c (by lia) λB L I J=>⟨v.trans I,B,_,rfl,J⟩⟩
 ·subst e;rw[Za,ZB] at c;k_is;exact q m b v c
abbrev Iu(S:Sto):Prop:=S[1]?=aw (.tbl "all_lots" kz.2.1 kz.2.2)
def mX:∀ (L:List (List Int)),oI (L.map ag)=aw L
 |[]=>rfl
 |l::L=>by
  have e:Ju (ag l)=aw l:=cK l;simp only[Zz,oI,e,mX L]
def mY(V:Vd K)(v:K.G.length<=7)(u:Iu S)(q:∀m S',Sm S S'->S'[m]?=aw (.lst ((slots K.G.length).map ag))->Q (.ref m) S'):Ok (evC ae (k+4) 50 [skE K] S) Q:=by
 refine MO (d:=fo) (z:=kz) (ρ:=[aw (skE K)]) rfl rfl (by lia) rfl ?_;dsimp only[kz]
 k_go
 refine aa sk2 (aa bG ?_);refine⟨K.G.length,rfl,by lia,rfl,?_⟩;have s0:Sm S (S++[.lst ((Zg K.G.length).map λj=>.int (Int.ofNat j))]):=Sm.app _ _;refine Ir (k:=k+2) (by lia) ZO λm y c l=>?_;have b:=OV v;refine⟨m,aU K.G.length,(aU K.G.length).map ag,rfl,⟨(s0.trans c) _ _ u,l,mX _,by rw[Za];exact b⟩,?_⟩;refine q _ _ ((s0.trans c).trans (Sm.app _ _)) ?_;rw[ZO,DZ (d:=[]) b];rfl
abbrev stk(K:Sky):List (List Int):=pk (λl=>!lnd K l) (slots K.G.length) []
abbrev snt(K:Sky):List (List Int):=pk (λl=>lnd K (cw K.G.length l)) (slots K.G.length) []
def yq{c:List Int->Bool}{l:List Int}:∀ (L b:List (List Int)),pk c (L++[l]) b=if (!bn l (pk c L b) && c l)=aN then pk c L b++[l] else pk c L b
 |[],b=>rfl
 |x::L,b=>by
  show pk c (L++[l]) _=_;rw[yq L];rfl
def D1{c:List Int->Bool}:∀ (l b:List (List Int)),(pk c l b).length<=b.length+l.length
 |[],b=>Zj _
 |x::l,b=>by
  have:=D1 (c:=c) l (if (!bn x b && c x)=aN then b++[x] else b);unfold pk;rw[Zo];split at this <;> rename_i h
  ·rw[if_pos h];rw[Zf,Zq] at this;lia
  ·rw[if_neg h];lia
structure Lk(K:Sky)(c:List Int->Bool)(i f:Nat)(S:Sto):Prop where
 at_:S[f]?=aw (.lst ((pk c ((slots K.G.length).take i) []).map ag))
variable {c:List Int->Bool} {i f:Nat}
def Iv(b:K.G.length<=7){l:List Int}(h:l ∈ slots K.G.length):l.length<=7:=ZX (uu ((eO b).mp h)).len b
def mZ(b:K.G.length<=7):(slots K.G.length).length<=128:=by rw[pf b];exact XU (n:=2) (by decide) b
def yr(b:K.G.length<=7):(pk c ((slots K.G.length).take i) []).length<=128/\∀o ∈ pk c ((slots K.G.length).take i) [],o.length<=7:=by
 refine⟨?_,λo d=>?_⟩
 ·have:=D1 (c:=c) ((slots K.G.length).take i) [];have:=mZ b;rw[Yo,Z3] at *
  lia
 ·rcases rb _ _ d with h |⟨h,_⟩
  ·cases h
  ·exact Iv b (Xk h)
def Lk.step{l:List Int}(hl:(slots K.G.length)[i]?=aw l):(pk c ((slots K.G.length).take (i+1)) [])=if (!bn l (pk c ((slots K.G.length).take i) []) && c l)=aN then pk c ((slots K.G.length).take i) []++[l] else pk c ((slots K.G.length).take i) []:=by
 rw[List.take_add_one,hl];exact yq _ _
def D2(b:K.G.length<=7)(h:Lk K c i f S)(q:∀S',Sm S S'->Q (.bl (bn lot (pk c ((slots K.G.length).take i) []))) S'):Ok (evC ae (k+1) 52 [ag lot,.ref f] S) Q:=
 D0 h.at_ (by have:=(yr (c:=c) (i:=i) b).1;lia) (λo d=>by have:=(yr (c:=c) (i:=i) b).2 o d;lia) q
def Lk.keep(h:Lk K c i f S)(s:Sm S S'):Lk K c i f S':=⟨s _ _ h.at_⟩
def Lk.put{l:List Int}(b:K.G.length<=7)(h:Lk K c i f S)(hl:(slots K.G.length)[i]?=aw l)(hc:(!bn l (pk c ((slots K.G.length).take i) []) && c l)=aN)(q:∀S',Ev.Kp f S S'->Lk K c (i+1) f S'->Q .non S'):fP (.ref f) S=aN/\Ok (sL (.ref f) [ag l] S) Q:=by
 refine⟨by show(aQ S f).isSome=aN;rw[aP h.at_];rfl,?_⟩;rw[mN h.at_ (by rw[Za];have:=(yr (c:=c) (i:=i) b).1;lia)];have d:f < S.length:=(Zb.mp h.at_).1;refine q _ (λj o n e=>by rw[Zx (λz=>n z.symm)];exact e) ⟨?_⟩;rw[ZU d,Lk.step hl,if_pos hc,ZQ];rfl
def Lk.pass{l:List Int}(h:Lk K c i f S)(hl:(slots K.G.length)[i]?=aw l)(hc:(!bn l (pk c ((slots K.G.length).take i) []) && c l)=aS):Lk K c (i+1) f S:=⟨by rw[Lk.step hl,if_neg (by rw[hc];decide)];exact h.at_⟩
def Lk.all(h:Lk K c (slots K.G.length).length f S):S[f]?=aw (.lst ((pk c (slots K.G.length) []).map ag)):=by have:=h.at_;rwa [YB] at this
def uw{m j:Nat}(d:K.G.length<=7)(b:S[m]?=aw (.lst ((slots K.G.length).map ag)))(l:S[j]?=aw (.lst [])):m ≠ j:=λe=>by
 rw[e,l] at b;have:=congrArg Zw (Ob.lst.inj (Option.some.inj b));rw[Za,pf d] at this;have:=Nat.pow_pos (n:=K.G.length) (show 0 < 2 by decide);simp at *
 lia
def D3(h:Sm S S'):S.length<=S'.length:=by
 cases d:S.length with
 |zero=>exact Z5 _
 |succ n=>
  have b:n < S.length:=by lia
  exact(Zb.mp (h n _ (gEG b))).1
def D4(sk:aW K)(v:K.G.length<=7)(hT:Iu S)(q:∀m S',Sm S S'->S.length<=m->S'[m]?=aw (.lst ((stk K).map ag))->Q (.ref m) S'):Ok (evC ae (k+25) 43 [skE K] S) Q:=by
 refine ax (d:=dU) (ρ:=[aw (skE K),aD,aD]) rfl rfl ?_;dsimp only[dU,gY];k_is;refine⟨rfl,gr (k:=k+16) sk λb T=>?_⟩;k_is;have s2:Sm b (b++[.lst []]):=Sm.app _ _;refine⟨rfl,mY (k:=k+20) sk.vd v (s2 _ _ (T _ _ hT)) λm X s3 Z=>?_⟩;k_is;have Y:=uw v Z (s3 _ _ (ZO (l:=b)));refine⟨by rw[aP Z];rfl,?_⟩;refine yf (by rw[Za];have:=mZ v;lia) (λi U C=>Ev.Kp b.length X C/\Lk K (λl=>!lnd K l) i b.length C/\∃u,U=[aw (skE K),aw (.ref b.length),u]) (λi U C h=>h.1 _ _ Y Z) (λi d U C hd ⟨kp,B,u,e⟩=>?_) (λU C ⟨kp,B,u,e⟩=>?_) ⟨λ_ _ _ e=>e,⟨by rw[Y5];exact s3 _ _ ZO⟩,aD,rfl⟩
 ·subst e;rw[Zl] at hd;obtain⟨l,O,rfl⟩:=ZD.mp hd;have y:=uu ((eO v).mp (Zc O));refine⟨_,rfl,?_⟩;k_is;refine⟨rfl,D2 (k:=k+23) v B λS4 s4=>?_⟩;k_is;have L:=B.keep s4;have I:Ev.Kp b.length X S4:=λj o n e=>s4 _ _ (kp j o n e);cases hh:bn l (pk (λl=>!lnd K l) ((slots K.G.length).take i) []) with
  |true=>
   k_is;exact⟨I,L.pass O (by rw[hh];rfl),_,rfl⟩
  |false=>
   k_is;refine⟨rfl,pq (k:=k+23) sk y λS5 s5=>?_⟩;k_is;refine⟨rfl,uv (k:=k+3) (ra sk y) λS6 s6=>?_⟩;k_is;have J:=(L.keep s5).keep s6;have z:Ev.Kp b.length X S6:=λj o n e=>s6 _ _ (s5 _ _ (I j o n e));cases hb:(aR (nar K l) .la).isSome with
   |true=>
    k_is;exact⟨z,J.pass O (by rw[hh];show(!aS && !(aR (nar K l) .la).isSome)=aS;rw[hb];rfl),_,rfl⟩
   |false=>
    k_is;refine J.put v O (by rw[hh];show(!aS && !(aR (nar K l) .la).isSome)=aN;rw[hb];rfl) λS7 k7 lk7=>?_;k_is;exact⟨λj o n e=>k7 _ _ n (z j o n e),lk7,_,rfl⟩
 ·subst e;rw[Za] at B;k_is;refine q _ _ (λj o e=>kp j o ?_ (s3 _ _ (s2 _ _ (T _ _ e)))) ?_ B.all
  ·have:=(Zb.mp (T _ _ e)).1
   lia
  ·exact D3 T
def D5(b:K.G.length<=7):(pk c (slots K.G.length) []).length<=128/\∀o ∈ pk c (slots K.G.length) [],o.length<=7:=by
 have:=yr (c:=c) (i:=(slots K.G.length).length) b
 rwa [YB] at this
def OX(sk:aW K)(d:K.G.length<=7):snt K=pk (λl=>!bn (cw K.G.length l) (stk K)) (slots K.G.length) []:=
 ut _ _ λl _=>(zZ (P:=lnd K) (λa j b hb h=>DW sk (uu ((eO d).mp j)) (uu ((eO d).mp hb)) h) ((eO d).mpr mW)).symm
def Iw(sk:aW K)(v:K.G.length<=7)(hT:Iu S)(q:∀m S',Sm S S'->S.length<=m->S'[m]?=aw (.lst ((snt K).map ag))->Q (.ref m) S'):Ok (evC ae (k+26) 44 [skE K] S) Q:=by
 refine ax (d:=cF) (ρ:=[aw (skE K),aD,aD,aD]) rfl rfl ?_;dsimp only[cF,eL];k_is;refine⟨rfl,D4 (k:=k) sk v hT λfs b J hfs h1=>?_⟩;k_is;have s2:Sm b (b++[.lst []]):=Sm.app _ _;refine⟨rfl,mY (k:=k+21) sk.vd v (s2 _ _ (J _ _ hT)) λm U O Z=>?_⟩;k_is;have X:=uw v Z (O _ _ (ZO (l:=b)));have hlt:fs ≠ b.length:=ZH (Zb.mp h1).1;have h2:=O _ _ (s2 _ _ h1);refine⟨by rw[aP Z];rfl,?_⟩;refine yf (by rw[Za];have:=mZ v;lia) (λi T C=>Ev.Kp b.length U C/\Lk K (λl=>!bn (cw K.G.length l) (stk K)) i b.length C/\∃u,T=[aw (skE K),aw (.ref fs),aw (.ref b.length),u]) (λi T C h=>h.1 _ _ X Z) (λi d T C hd ⟨kp,B,u,e⟩=>?_) (λT C ⟨kp,B,u,e⟩=>?_) ⟨λ_ _ _ e=>e,⟨by rw[Y5];exact O _ _ ZO⟩,aD,rfl⟩
 ·subst e;rw[Zl] at hd;obtain⟨l,Y,rfl⟩:=ZD.mp hd;refine⟨_,rfl,?_⟩;k_is;refine⟨rfl,D2 (k:=k+24) v B λS4 s4=>?_⟩;k_is;have L:=B.keep s4;have y:Ev.Kp b.length U S4:=λj o n e=>s4 _ _ (kp j o n e);cases hh:bn l (pk (λl=>!bn (cw K.G.length l) (stk K)) ((slots K.G.length).take i) []) with
  |true=>
   k_is;exact⟨y,L.pass Y (by rw[hh];rfl),_,rfl⟩
  |false=>
   k_is;refine⟨rfl,z4 (k:=k+24) sk.vd λS5 s5=>?_⟩;k_is;refine⟨rfl,D0 (k:=k+24) (ls:=stk K) (s5 _ _ (y _ _ hlt h2)) (by have:=(D5 (c:=λl=>!lnd K l) v).1;unfold stk;lia) (λo ho=>by have:=(D5 (c:=λl=>!lnd K l) v).2 o ho;lia) λS6 s6=>?_⟩;k_is;have I:=(L.keep s5).keep s6;have z:Ev.Kp b.length U S6:=λj o n e=>s6 _ _ (s5 _ _ (y j o n e));cases hb:bn (cw K.G.length l) (stk K) with
   |true=>
    k_is;exact⟨z,I.pass Y (by rw[hh];show(!aS && !bn (cw K.G.length l) (stk K))=aS;rw[hb];rfl),_,rfl⟩
   |false=>
    k_is;refine I.put v Y (by rw[hh];show(!aS && !bn (cw K.G.length l) (stk K))=aN;rw[hb];rfl) λS7 k7 lk7=>?_;k_is;exact⟨λj o n e=>k7 _ _ n (z j o n e),lk7,_,rfl⟩
 ·subst e;rw[Za] at B;k_is;refine q _ _ (λj o e=>kp j o ?_ (O _ _ (s2 _ _ (J _ _ e)))) (D3 J) (by rw[OX sk v];exact B.all);have:=(Zb.mp (J _ _ e)).1
  lia
end Lw
namespace Lw
open PySem Ev Sn L2
variable {p:Nat} {S S':Sto} {k:Nat} {Q:D->Sto->Prop} {K:Sky} {lot:List Int}
def m6:∀ (n:Nat) (l:List Int),l ∈ aU n->l.Pairwise (·<=·)
 |0,l,h=>by rw[ZE.mp h];exact .nil
 |n+1,l,h=>by
  rcases ZP.mp h with h |h
  ·exact m6 n l h
  ·obtain⟨k,b,rfl⟩:=Zy.mp h;refine List.pairwise_append.mpr ⟨m6 n k b,List.pairwise_singleton _ _,λx d y c=>?_⟩;have:=(dm n k b).2 x d;have:=ZE.mp c
   lia
def ux:∀ (a b:List Int),eqL eqT (a.map D.int) (b.map D.int)=aw (decide (a=b))
 |[],[]=>rfl
 |[],_::_=>rfl
 |_::_,[]=>rfl
 |x::a,y::b=>by
  have c:eqT (.int x) (.int y)=aw (x == y):=rfl;rw[Zz,Zz,eqL,c,ux a b];show aw ((x == y) && decide (a=b))=_
  congr 1
  rw[Yh];simp
def D6:∀ (A B:List (List Int)),eqL eqT (A.map ag) (B.map ag)=aw (decide (A=B))
 |[],[]=>rfl
 |[],_::_=>rfl
 |_::_,[]=>rfl
 |x::A,y::B=>by
  have c:eqT (ag x) (ag y)=aw (decide (x=y)):=by
   show(match bK (x.map D.int),bK (y.map D.int) with
    |some a,aw b=>aw (decide (a=b))
    | _,_=>aD)=_
   rw[cK,cK]
  rw[Zz,Zz,eqL,c,D6 A B];show aw (decide (x=y) && decide (A=B))=_
  congr 1
  rw[Yh];simp
def Ix{a b:Nat}{xs y:List D}{r:Bool}(c:S[a]?=aw (.lst xs))(hb:S[b]?=aw (.lst y))(e:eqL eqT xs y=aw r)(h:xs=y->r=aN)(d:r=aN->xs.length=y.length):eqD 60 S (.ref a) (.ref b)=aw r:=by
 show(match aQ S a,aQ S b with
  |some xs,aw y=>if a=b then aw aN else if xs.length=y.length then eqL eqT xs y else aw aS
  | _,_=>aD)=aw r
 rw[aP c,aP hb];dsimp only;split
 ·rename_i z;subst z;rw[c] at hb;cases hb;rw[h rfl]
 ·split
  ·exact e
  ·rename_i z;cases r with
   |false=>rfl
   |true=>exact absurd (d rfl) z
def qE{a b:Nat}{xs:List Int}(c:S[a]?=aw (.lst (xs.map D.int)))(hb:S[b]?=aw (.lst (xs.map D.int))):ak .eq (.ref a) (.ref b) S=aw (.bl aN,S):=by
 show(eqD 60 S (.ref a) (.ref b)).map _=_;rw[Ix (r:=true) c hb (by rw[ux xs xs,decide_eq_true rfl]) (λ_=>rfl) λ_=>rfl];rfl
def z5(u:K.G.length<=7)(hl:lot ∈ aU K.G.length)(q:∀S',Sm S S'->Q (.bl aN) S'):Ok (evC ae (k+4) 5 [ag lot,.int K.G.length] S) Q:=by
 refine ax (d:=fe) (ρ:=[aw (ag lot),aw (.int K.G.length)]) rfl rfl ?_;dsimp only[fe,iT];have l:=uu hl;have L:=l.len;k_is;refine⟨rfl,ub (k:=k) l.nd l.bd u λb j=>?_⟩;k_is;refine aa (show Wq (λr=>(r.snd,b)) (ao (ag lot) b)=aw (lot.map D.int,b) from rfl) ?_;refine⟨_,_,rfl,show cW aN (lot.map D.int)=aw ((cN lot).map D.int) from ?_,?_⟩
 ·show Fs _=_;unfold Fs;rw[cK];dsimp only;rw[if_pos (by lia)]
 have c:cN lot=lot:=eX (bu lot) (bv lot) (m6 _ _ hl);rw[c];refine aa (qE (xs:=lot) (Sm.app _ _ _ _ ZO) ZO) ?_;exact q _ ((j.trans (Sm.app _ _)).trans (Sm.app _ _))
def z6(sk:aW K)(hl:lot ∈ aU K.G.length)(q:∀S',Sm S S'->Q .non S'):Ok (evC ae (k+9) 47 [skE K,ag lot] S) Q:=by
 refine ax (d:=ga) (ρ:=[aw (skE K),aw (ag lot)]) rfl rfl ?_;dsimp only[ga,kq];k_is;refine⟨rfl,gr (k:=k) sk λl j=>?_⟩;k_is;refine aa sk2 (aa bG ?_);refine⟨rfl,z5 (k:=k+4) sk.g7 hl λb c=>?_⟩;k_is;exact q b (j.trans c)
def m7(sk:aW K)(hl:lot ∈ aU K.G.length)(q:∀S',Sm S S'->Q (.bl (lnd K lot)) S'):Ok (evC ae (k+22) 42 [skE K,ag lot] S) Q:=by
 refine ax (d:=il) (ρ:=[aw (skE K),aw (ag lot)]) rfl rfl ?_;dsimp only[il,mE];k_is;refine⟨rfl,z6 (k:=k+12) sk hl λu l=>?_⟩;k_is;refine⟨rfl,pq (k:=k+20) sk (uu hl) λv j=>?_⟩;k_is;exact⟨rfl,uv (k:=k) (ra sk (uu hl)) λb c=>q b ((l.trans j).trans c)⟩
def z7{n:Nat}{l:List Int}{x:Int}:x ∈ cw n l ↔ (0<=x/\x < n)/\x ∉ l:=by
 unfold cw;rw[Zy];refine⟨λ⟨j,b,e⟩=>?_,λ⟨⟨c,d⟩,h⟩=>⟨x.toNat,?_,by lia⟩⟩
 ·rw[ZI,ZJ] at b;subst e;exact⟨⟨by lia,by lia⟩,by simpa using b.2⟩
 ·rw[ZI,ZJ];have:((x.toNat:Nat):Int)=x:=by lia
  exact⟨by lia,by rw[this];simpa using h⟩
def RV{c:List Int->Bool}{l:List (List Int)}{o:List Int}(h:o ∈ pk c l []):o ∈ l/\c o=aN:=by
 rcases rb l [] h with h |h
 ·cases h
 ·exact h
end Lw
namespace Sn
open Ev PySem Lw
abbrev nt(r:List Int):List Int:=[r.getD 0 0,r.getD 1 0,r.getD 2 0,10692,r.getD 3 0,1,r.getD 6 0]
abbrev ntl(K:Sky):Sky:=⟨K.r,K.s,K.M,K.H,K.ah,K.G.map nt,K.F⟩
abbrev lt3(d:Int)(g:List Int):List Int:=g.set 3 (g.getD 3 0+d)
abbrev ltr(K:Sky)(d:Int):Sky:=⟨K.r,K.s,K.M,K.H,K.ah,K.G.map (lt3 d),K.F⟩
abbrev wid(K:Sky):Sky:={ K with r:=if K.r+1 < 8 then K.r+1 else 8 }
structure Sml(K:Sky):Prop where
 sk:aW K
 gb:∀g ∈ K.G,GX 600 K.M.length K.r K.s g
variable {K K':Sky} {d:Int}
structure Alk(K K':Sky):Prop where
 len:K'.G.length=K.G.length
 g:∀g i,i=0\/i=1\/i=2\/i=6->gi K'.G g i=gi K.G g i
 s:K'.s=K.s
 m:K'.M=K.M
 a:K'.ah=K.ah
 o:K'.H=K.H
 f:K'.F=K.F
 js:js K'=js K
 r0:0<=K.r
 r:K.r<=K'.r
def Alk.jn(h:Alk K K'):jn K'=jn K:=funext λg=>h.g g 1 (.inr (.inl rfl))
def Alk.high(h:Alk K K'){L:List (Int × Int)}{g m:Int}:bP K' L g m=bP K L g m:=by
 have w:aA K'=aA K:=by
  funext t q
  unfold aA;rw[h.jn,h.s]
 unfold bP ip dF wts;rw[h.g g 6 (.inr (.inr (.inr rfl))),h.jn,w,h.s]
def Alk.gp(h:Alk K K')(a b:Int):gp K' a b=gp K a b:=by unfold Sn.gp;rw[h.m]
def Alk.front(h:Alk K K')(a:Option (Int × Int))(g:Int):front K' a g=front K a g:=by
 unfold Sn.front;cases a with
 |none=>exact h.g g 2 (.inr (.inr (.inl rfl)))
 |some p=>
  dsimp only;rw[h.gp,h.g g 2 (.inr (.inr (.inl rfl))),h.g g 0 (.inl rfl)]
def Alk.late(h:Alk K K'){b:Nat}{m:Int}(l:late K b m=aS):late K' b m=aS:=by
 unfold Sn.late at *;rw[h.js,h.s];cases k:(Sn.js K)[(K'.r+b).toNat]? with
 |none=>rfl
 |some j'=>
  have c:=Zb.mp k;have:=h.r;have:=h.r0;have le:(K.r+b).toNat<=(K'.r+b).toNat:=by lia
  have q:(K.r+b).toNat < (Sn.js K).length:=by have:=c.1;lia
  rw[gEG q] at l;dsimp only at l ⊢;have l:=of_decide_eq_false l;have u:(Sn.js K).Pairwise (·<=·):=bv _
  have:(Sn.js K)[(K.r+b).toNat]<=j':=by
   by_cases e:(K.r+b).toNat=(K'.r+b).toNat
   ·rw[<-c.2];have:∀ (i j:Nat) (hi:i < (Sn.js K).length) (v:j < (Sn.js K).length),i=j->(Sn.js K)[i]<=(Sn.js K)[j]:=λi j _ _ e=>by subst e;exact ZF _
    exact this _ _ _ _ e
   ·rw[<-c.2];exact List.pairwise_iff_getElem.mp u _ _ _ _ (by lia)
  exact decide_eq_false (by lia)
def wD{a:Option (Int × Int)}{g m:Int}{b:Nat}(h:step K a g b=aw m):m=opm K.H (front K a g)/\m<=gi K.G g 3/\late K b m=aS:=by
 unfold step at h;split at h
 ·cases h
 ·rename_i c;cases h;rw[YH,not_or] at c;exact⟨rfl,by have:=c.1;rw[decide_eq_true_eq] at this;lia,by simpa using c.2⟩
def Alk.step(h:Alk K K'){a:Option (Int × Int)}{g m:Int}{b:Nat}(e:step K a g b=aw m)(k:m<=gi K'.G g 3):step K' a g b=aw m:=by
 obtain⟨c,_,j⟩:=wD e;unfold Sn.step;rw[h.o,h.front,<-c,h.late j,decide_eq_false (by lia)];rfl
def D7:∀ (os:List Int) (a:Option (Int × Int)) (L R:List (Int × Int)),rn K os a L = .inr R->∃T,R=L++T
 |[],a,L,R,h=>by cases h;exact⟨[],(Z0 _).symm⟩
 |g::os,a,L,R,h=>by
  rw[rn] at h;split at h
  ·cases h
  ·split at h
   ·cases h
   ·obtain⟨T,e⟩:=D7 os _ _ R h;exact⟨_::T,by rw[e,Yu];rfl⟩
def rc:∀ (os:List Int) (a:Option (Int × Int)) (L R:List (Int × Int)),rn K os a L = .inr R->∀z ∈ R,z ∈ L\/(z.1 ∈ os/\z.2<=gi K.G z.1 3)
 |[],a,L,R,h,z,hz=>by cases h;exact .inl hz
 |g::os,a,L,R,h,z,hz=>by
  rw[rn] at h;split at h
  ·cases h
  ·rename_i m hs;split at h
   ·cases h
   ·rcases rc os _ _ R h z hz with y |y
    ·rcases ZP.mp y with y |y
     ·exact .inl y
     ·rw[ZE.mp y];exact .inr ⟨Zi,(wD hs).2.1⟩
    ·exact .inr ⟨Ze _ y.1,y.2⟩
def rd(h:Alk K K'):∀ (os:List Int) (a:Option (Int × Int)) (L R:List (Int × Int)),rn K os a L = .inr R->(∀z ∈ R,z.2<=gi K'.G z.1 3)->rn K' os a L = .inr R
 |[],a,L,R,e,_=>by cases e;rfl
 |g::os,a,L,R,e,hb=>by
  rw[rn] at e ⊢;cases hs:step K a g L.length with
  |none=>rw[hs] at e;cases e
  |some m=>
   rw[hs] at e;dsimp only at e;by_cases c:bP K L g m=aN
   ·rw[if_pos c] at e;cases e
   ·rw[if_neg c] at e;obtain⟨T,b⟩:=D7 os _ _ R e;have j:(g,m) ∈ R:=by rw[b];exact ZV _ (ZA _ (ZE.mpr rfl))
    rw[h.step hs (hb _ j)];dsimp only;rw[h.high,if_neg c,h.g g 0 (.inl rfl)];exact rd h os _ _ R e hb
def Alk.ord(h:Alk K K'){os:List Int}(o:Ord K os):Ord K' os:=⟨o.nd,λg b=>by rw[h.len];exact o.bd g b,by rw[h.len];exact o.ln,by rw[h.f];exact o.fx,by rw[h.len];exact o.pm⟩
def D8:∀ (H:List (Int × Int)) (m:Int),(∀q ∈ H,q.2<=999)->opm H m<=m\/opm H m<=999
 |[],m,_=>.inl (ZF _)
 |q::H,m,h=>by
  have j:=h q Zi;rw[opm];have ih:=D8 H (if q.1<=m/\m < q.2 then q.2 else m) λx b=>h x (Ze _ b);by_cases c:q.1<=m/\m < q.2
  ·rw[if_pos c] at ih ⊢;right;rcases ih with ih |ih <;> lia
  ·rw[if_neg c] at ih ⊢;exact ih
def RX(sk:aW K)(a b:Int):gp K a b<=99:=by
 unfold gp Dw.mg2;cases j:K.M[a.toNat]? with
 |none=>simp
 |some r=>
  cases c:r[b.toNat]? with
  |none=>simp[c]
  |some x=>
   have:=sk.me.mat.ent r (Zc j) x (Zc c);simp[c]
   lia
abbrev Bd7(a:Option (Int × Int))(i:Nat):Prop:=∀q,a=aw q->q.2<=999+99 * i
def RY(sm:Sml K){a:Option (Int × Int)}{g:Int}{i:Nat}(b:Bd7 a i)(l:0<=g)(k:g < K.G.length):opm K.H (front K a g)<=999+99 * ((i+1:Nat):Int):=by
 have hi:g.toNat < K.G.length:=by lia
 obtain⟨y,J,fi,la,v,u,z,j,hb⟩:=sm.gb K.G[g.toNat] (ZM hi);have c:gi K.G g 2=fi:=by unfold gi;rw[gEG hi,j];rfl
 have B:front K a g<=999+99 * ((i+1:Nat):Int):=by
  unfold front;rw[c];split
  ·lia
  ·rename_i q;have:=b q rfl;have:=RX sm.sk q.1 (gi K.G g 0);split <;> lia
 rcases D8 K.H (front K a g) sm.sk.me.hb with h |h <;> lia
def JT(sm:Sml K)(h:Alk K K'):∀ (os:List Int) (a:Option (Int × Int)) (L R:List (Int × Int)),Bd7 a L.length->L.length+os.length<=7->(∀g ∈ os,0<=g/\g < K.G.length)->(∀z ∈ L,z.2<=1692)->rn K' os a L = .inr R->∀z ∈ R,z.2<=1692
 |[],a,L,R,_,_,_,hL,e=>by cases e;exact hL
 |g::os,a,L,R,ha,h7,hg,hL,e=>by
  rw[Zo] at h7;rw[rn] at e;cases hs:step K' a g L.length with
  |none=>rw[hs] at e;cases e
  |some m=>
   rw[hs] at e;dsimp only at e;split at e
   ·cases e
   ·have b:=hg g Zi;have c:=(wD hs).1;rw[h.o,h.front] at c;have le:=RY sm ha b.1 b.2;rw[<-c] at le;refine JT sm h os _ _ R (λq e=>?_) (by rw[Zf,Zq];lia) (λx j=>hg x (Ze _ j)) (λz hz=>?_) e
    ·cases e;rw[Zf,Zq];exact le
    ·rcases ZP.mp hz with hz |hz
     ·exact hL z hz
     ·rw[ZE.mp hz];show m<=1692
      lia
def re(sm:Sml K)(h:Alk K K'){os:List Int}(o:Ord K os){R:List (Int × Int)}(e:rn K' os K'.ah [] = .inr R):∀z ∈ R,z.2<=1692/\z.1 ∈ os:=λz b=>by
 refine⟨JT sm h os _ [] R (λq c=>?_) (by rw[o.ln];have:=sm.sk.g7;simp;lia) o.bd (λz b=>by cases b) e z b,?_⟩
 ·rw[h.a] at c;have:=sm.sk.ah q c
  lia
 ·rcases rc os _ [] R e z b with y |y
  ·cases y
  ·exact y.1
end Sn
namespace Sn
open Ev PySem Lw
variable {K K':Sky} {d:Int}
def rf:(ntl K).G.length=K.G.length:=Za ..
def D9{f:List Int->List Int}{G:List (List Int)}{g:Int}{i j:Nat}(h:∀r,(f r).getD i 0=r.getD j 0)(c:j=j:=by rfl):gi (G.map f) g i=gi G g j:=by
 unfold gi;rw[Zl];cases b:G[g.toNat]? with
 |none=>
  show([]:List Int).getD i 0=([]:List Int).getD j 0;simp
 |some r=>exact h r
def iw(sk:aW K):SkX 10692 (ntl K):=by
 refine⟨sk.me,by rw[rf];exact sk.g7,λg b=>?_,sk.nd,λx u=>?_,λj g b=>?_,sk.ah⟩
 ·obtain⟨r,c,rfl⟩:=Zy.mp b;obtain⟨l,J,k,la,y,v,q,rfl,hb⟩:=sk.gb r c;exact⟨l,J,k,10692,la,1,q,rfl,by show 0<=l/\l < (K.M.length:Int)/\0<=J/\J+K.s<=k/\k<=10692/\(10692:Int)<=10692/\0<=la/\la<=10692/\(0:Int)<=1/\(1:Int)<=99/\0<=q/\q<=K.r;have:=sk.me.s0;omega⟩
 ·rw[rf];exact sk.bd x u
 ·have b:(K.G.map nt)[j]?=aw g:=b;rw[Zl] at b;obtain⟨r,c,rfl⟩:=ZD.mp b;exact sk.rg j r c
def m8(sm:Sml K)(C:0<=d)(B:d<=2000):aW (ltr K d):=by
 have sk:=sm.sk;refine⟨sk.me,by show(K.G.map (lt3 d)).length<=7;rw[Za];exact sk.g7,λg b=>?_,sk.nd,λx y=>?_,λj g b=>?_,sk.ah⟩
 ·obtain⟨r,c,rfl⟩:=Zy.mp b;obtain⟨u,J,q,la,l,k,v,rfl,hb⟩:=sm.gb r c;exact⟨u,J,q,la+d,l,k,v,rfl,by show 0<=u/\u < (K.M.length:Int)/\0<=J/\J+K.s<=q/\q<=la+d/\la+d<=9999/\0<=l/\l<=9999/\0<=k/\k<=99/\0<=v/\v<=K.r;omega⟩
 ·show _/\x < ((K.G.map (lt3 d)).length:Int);rw[Za];exact sk.bd x y
 ·have b:(K.G.map (lt3 d))[j]?=aw g:=b;rw[Zl] at b;obtain⟨r,c,rfl⟩:=ZD.mp b;have:=sk.rg j r c;obtain⟨u,J,q,la,l,k,v,z,hb⟩:=sk.gb r (Zc c);subst z;exact this
def RZ(sk:aW K):ltr K 0=K:=by
 have:K.G.map (lt3 0)=K.G:=by
  conv=>rhs;rw[<-Wl K.G]
  refine ZZ λg b=>?_;obtain⟨q,j,l,la,k,c,u,rfl,hb⟩:=sk.gb g b;show[q,j,l,la+0,k,c,u]=_;rw[Int.add_zero];rfl
 unfold ltr;rw[this]
def Ea{i:Nat}(h:i ≠ 3)(r:List Int):(lt3 d r).getD i 0=r.getD i 0:=by
 unfold lt3;rw[Zm,Zx (Ne.symm h),<-Zm]
def JU(sk:aW K){g:Int}(k:0<=g)(c:g < K.G.length):gi (ltr K d).G g 3=gi K.G g 3+d:=by
 have hi:g.toNat < K.G.length:=by lia
 obtain⟨v,j,u,la,q,l,y,b,_⟩:=sk.gb K.G[g.toNat] (ZM hi);unfold gi ltr;dsimp only;rw[Zl,gEG hi,b];rfl
def rh{g:Int}(b:0<=g)(c:g < K.G.length):gi (ntl K).G g 3=10692/\gi (ntl K).G g 5=1/\gi (ntl K).G g 4=gi K.G g 3:=by
 have hi:g.toNat < K.G.length:=by lia
 unfold gi ntl;dsimp only;rw[Zl,gEG hi];exact⟨rfl,rfl,rfl⟩
def dG(sk:aW K):Alk K (ntl K):=⟨rf,λg i hi=>D9 λr=>by rcases hi with rfl |rfl |rfl |rfl <;> rfl,rfl,rfl,rfl,rfl,rfl,by unfold js ntl;dsimp only;rw[ZS];rfl,sk.me.r0,ZF _⟩
def pA(sk:aW K):Alk K (ltr K d):=⟨Za ..,λg i hi=>D9 λr=>Ea (by lia) r,rfl,rfl,rfl,rfl,rfl,by
 unfold js ltr;dsimp only;rw[ZS]
 congr 1
 exact ZZ λg _=>Ea (by decide) g,sk.me.r0,ZF _⟩
def JV(sk:aW K):Alk K (wid K):=⟨rfl,λ_ _ _=>rfl,rfl,rfl,rfl,rfl,rfl,rfl,sk.me.r0,by have:=sk.me.r8;unfold wid;dsimp only;split <;> lia⟩
def Alk.symm(h:Alk K K')(e:K'.r=K.r):Alk K' K:=⟨h.len.symm,λg i hi=>(h.g g i hi).symm,h.s.symm,h.m.symm,h.a.symm,h.o.symm,h.f.symm,h.js.symm,by rw[e];exact h.r0,by rw[e];exact ZF _⟩
def Alk.trans{K2:Sky}(h:Alk K K')(h':Alk K' K2):Alk K K2:=⟨h'.len.trans h.len,λg i hi=>(h'.g g i hi).trans (h.g g i hi),h'.s.trans h.s,h'.m.trans h.m,h'.a.trans h.a,h'.o.trans h.o,h'.f.trans h.f,h'.js.trans h.js,h.r0,YT h.r h'.r⟩
def wG(sk:aW K):aW (wid K):=by
 have e:(wid K).r=if K.r+1 < 8 then K.r+1 else 8:=rfl
 have me:=sk.me;have r8:=me.r8;have r0:=me.r0;have le:K.r<=(wid K).r:=(JV sk).r;refine⟨⟨by rw[e];split <;> lia,by rw[e];split <;> lia,me.s0,me.s60,me.mat,me.m1,me.m4,me.tri,me.ris,me.h4,me.hb⟩,sk.g7,λg u=>?_,sk.nd,sk.bd,sk.rg,sk.ah⟩;obtain⟨l,j,k,la,c,b,q,v,hb⟩:=sk.gb g u;exact⟨l,j,k,la,c,b,q,v,by show 0<=l/\l < (K.M.length:Int)/\0<=j/\j+K.s<=k/\k<=la/\la<=9999/\0<=c/\c<=9999/\0<=b/\b<=99/\0<=q/\q<=(wid K).r;omega⟩
def R5(hd:0<=d):∀ (R:List (Int × Int)),W K .mo R 0<=d ↔ ∀z ∈ R,cst K z.1 z.2<=d
 |[]=>⟨λ_ z b=>(by cases b),λ_=>hd⟩
 |z::R=>by
  have I:=R5 hd R;have e:W K .mo (z::R) 0=if W K .mo R 0 > cst K z.1 z.2 then W K .mo R 0 else cst K z.1 z.2:=rfl
  rw[e];constructor
  ·intro h y hy;rcases Zn.mp hy with rfl |hy
   ·split at h <;> lia
   ·exact I.mp (by split at h <;> lia) y hy
  ·intro h;have j:=h z Zi;have c:=I.mpr λy hy=>h y (Ze _ hy);split <;> lia
def JW{g m:Int}(c:0<=g)(j:g < K.G.length)(hd:0<=d):cst (ntl K) g m<=d ↔ m<=gi K.G g 3+d:=by
 obtain⟨_,b,h4⟩:=rh (K:=K) c j;unfold cst;rw[h4,b,WF];constructor
 ·intro h;split at h <;> lia
 ·intro h;split <;> lia
def Eb(sk:aW K)(hd:0<=d){R:List (Int × Int)}(hb:∀z ∈ R,0<=z.1/\z.1 < K.G.length):W (ntl K) .mo R 0<=d ↔ ∀z ∈ R,z.2<=gi K.G z.1 3+d:=by
 rw[R5 hd];exact⟨λh z b=>(JW (hb z b).1 (hb z b).2 hd).mp (h z b),λh z b=>(JW (hb z b).1 (hb z b).2 hd).mpr (h z b)⟩
def R6(sm:Sml K)(h:Alk K K')(e:K'.r=K.r){os:List Int}(o:Ord K' os){R:List (Int × Int)}(j:rn K' os K'.ah [] = .inr R):Ord (ntl K) os/\rn (ntl K) os (ntl K).ah [] = .inr R/\∀z ∈ R,(0<=z.1/\z.1 < K.G.length)/\z.2<=gi K'.G z.1 3:=by
 have hs:=h.symm e;have O:=hs.ord o;have bd:=re sm h O j;have al:=hs.trans (dG sm.sk);refine⟨(dG sm.sk).ord O,?_,λz c=>⟨O.bd _ (bd z c).2,?_⟩⟩
 ·have:=rd al os K'.ah [] R j λz c=>by
   have b:=O.bd _ (bd z c).2;rw[(rh b.1 b.2).1];have:=(bd z c).1
   lia
  rwa [h.a] at this
 ·rcases rc os _ [] R j z c with y |y
  ·cases y
  ·exact y.2
def jR(sm:Sml K)(v:0<=d)(C:d<=2000):(aR (ltr K d) .la).isSome=aN ↔ ∃z,aR (ntl K) .mo=aw z/\z.1<=d:=by
 have sl:=m8 sm v C;have B:=iw sm.sk;constructor
 ·intro h;obtain⟨os,R,o,j⟩:=qY sl h;obtain⟨O,q,b⟩:=R6 sm (pA sm.sk) rfl o j;obtain⟨z,e,le⟩:=qX (l:=.mo) B O q;refine⟨z,e,YT le ((Eb sm.sk v λz c=>(b z c).1).mpr λz c=>?_)⟩;have:=(b z c).2
  rwa [JU sm.sk (b z c).1.1 (b z c).1.2] at this
 ·rintro⟨z,e,le⟩;obtain⟨o,R,j,I⟩:=fu B e;rw[I] at le;have O:=((dG sm.sk).symm rfl).ord o;have bd:=re sm (dG sm.sk) O j;have b:∀z ∈ R,0<=z.1/\z.1 < K.G.length:=λz c=>O.bd _ (bd z c).2;have:=(Eb sm.sk v b).mp le
  have u:=rd (((dG sm.sk).symm rfl).trans (pA (d:=d) sm.sk)) z.2 _ [] R j λy k=>by
   rw[JU sm.sk (b y k).1 (b y k).2];exact this y k
  exact qZ sl ((pA sm.sk).ord O) u
def yt(sm:Sml K)(h:Alk K K')(e:K'.r=K.r){X:Int}(b:SkX X K'){l:Am}(k:aR (ntl K) .mo=aD):aR K' l=aD:=by
 cases hb:aR K' l with
 |none=>rfl
 |some z=>
  obtain⟨os,R,o,j⟩:=qY (l:=l) b (by rw[hb];rfl);obtain⟨O,c,_⟩:=R6 sm h e o j;have:=qZ (l:=.mo) (iw sm.sk) O c;rw[k] at this;cases this
def OY(sm:Sml K){z:Int × List Int}(e:aR (ntl K) .mo=aw z):∃y,aR (ntl (wid K)) .mo=aw y/\y.1<=z.1:=by
 obtain⟨o,R,j,q⟩:=fu (iw sm.sk) e;have O:=((dG sm.sk).symm rfl).ord o;have bd:=re sm (dG sm.sk) O j;have al:=(((dG sm.sk).symm rfl).trans (JV sm.sk)).trans (dG (wG sm.sk))
 have c:=rd al z.2 _ [] R j λy k=>by
  have b:=O.bd _ (bd y k).2;have:=(rh (K:=wid K) b.1 b.2).1;rw[this];have:=(bd y k).1
  lia
 obtain⟨y,u,le⟩:=qX (l:=.mo) (iw (wG sm.sk)) (al.ord o) c;refine⟨y,u,?_⟩;rw[q];exact le
def R7(sm:Sml K){z:Int × List Int}(e:aR (ntl K) .mo=aw z):0<=z.1/\z.1<=1692:=by
 obtain⟨o,R,u,l⟩:=fu (iw sm.sk) e;have O:=((dG sm.sk).symm rfl).ord o;have bd:=re sm (dG sm.sk) O u;rw[l];refine⟨?_,(Eb sm.sk (by decide) λy c=>O.bd _ (bd y c).2).mpr λy c=>?_⟩
 ·have:∀ (R:List (Int × Int)),(∀y ∈ R,0<=cst (ntl K) y.1 y.2)->0<=W (ntl K) .mo R 0:=λR=>by
   induction R with
   |nil=>intro _;exact ZF _
   |cons y R I=>
    intro h;have e:W (ntl K) .mo (y::R) 0=if W (ntl K) .mo R 0 > cst (ntl K) y.1 y.2 then W (ntl K) .mo R 0 else cst (ntl K) y.1 y.2:=rfl
    rw[e];have Q:=h y Zi;have U:=I λx q=>h x (Ze _ q);split <;> lia
  refine this R λy c=>?_;have b:=O.bd _ (bd y c).2;obtain⟨_,v,h4⟩:=rh (K:=K) b.1 b.2;unfold cst;rw[h4,v,WF];split <;> lia
 ·have b:=O.bd _ (bd y c).2;have hi:y.1.toNat < K.G.length:=by lia
  obtain⟨J,X,T,la,C,B,L,j,hb⟩:=sm.gb K.G[y.1.toNat] (ZM hi);have k:gi K.G y.1 3=la:=by unfold gi;rw[gEG hi,j];rfl
  have s0:=sm.sk.me.s0;have:=(bd y c).1;rw[k]
  lia
end Sn
namespace Lw
open PySem Ev Sn L2
variable {p:Nat} {S S':Sto} {k:Nat} {Q:D->Sto->Prop} {K:Sky}
def Ec(sk:aW K)(q:∀S',Sm S S'->Q (skE (ntl K)) S'):Ok (evC ae (k+1) 46 [skE K] S) Q:=by
 refine ax (d:=cG) (ρ:=[aw (skE K),aD,aD,aD,aD,aD,aD]) rfl rfl ?_;dsimp only[cG,eM];have g7:=sk.g7;rw[show skE K = .tup [meE K,ahE K.ah,.tup (K.G.map ag),.tup (K.F.map D.int)] from rfl];k_is;refine⟨by decide,?_⟩;refine bI K.G ag (λg=>[ag (nt g)]) (by lia) (λ_ _=>Zj _) cu (λi g S' j sm=>?_) λb u=>?_
 ·obtain⟨B,J,z,la,y,v,C,rfl,hb⟩:=sk.gb g (Zc j);refine⟨_,rfl,?_⟩;k_is;exact⟨rfl,Sm.refl _⟩
 ·rw[bQ];have l:Sm S (b++[Ob.lst (K.G.map λg=>ag (nt g))]):=u.trans (Sm.app _ _);have c:(b++[Ob.lst (K.G.map λg=>ag (nt g))])[b.length]?=aw (.lst (K.G.map λg=>ag (nt g))):=bh;generalize b++[Ob.lst (K.G.map λg=>ag (nt g))]=S2 at *;generalize b.length=N at *;k_is;refine aa (show aq cM (.ref N) S2=aw (.tup (K.G.map λg=>ag (nt g)),S2) by simp only[aq,ao,aP c,ZK,cM]) ?_;k_is;have:=q S2 l;unfold skE ntl at this;dsimp only at this;rw[ZS] at this;exact this
abbrev Ed(o:Option (Int × List Int)):Option Int:=o.map (·.1)
def jS(sk:aW K)(q:∀S',Sm S S'->Q (mR (Ed (aR (ntl K) .mo))) S'):Ok (evC ae (k+21) 45 [skE K] S) Q:=by
 refine ax (d:=mI) (ρ:=[aw (skE K),aD]) rfl rfl ?_;dsimp only[mI,tJ];k_is;refine⟨rfl,gr (k:=k+12) sk λv u=>?_⟩;k_is;refine⟨rfl,Ec (k:=k+19) sk λy j=>?_⟩;refine⟨rfl,jf (k:=k) (l:=.mo) (iw sk) λb c=>?_⟩;k_is;have:=q b ((u.trans j).trans c);cases hb:aR (ntl K) .mo with
 |none=>
  rw[hb] at this;refine aa (show ak .is (bC aD) .non b=aw (.bl aN,b) from rfl) ?_;k_is;exact this
 |some z=>
  rw[hb] at this;rw[show bC (aw z) = .tup [.int z.1,.tup (z.2.map D.int)] from rfl];refine aa (show ak .is (.tup [.int z.1,.tup (z.2.map D.int)]) .non b=aw (.bl aS,b) from rfl) ?_;k_is;exact aa (show ixS (.tup [.int z.1,.tup (z.2.map D.int)]) (.int 0) b=aw (.int z.1,b) from rfl) this
def m9(sk:aW K){d:Int}(q:∀S',Sm S S'->Q (skE (ltr K d)) S'):Ok (evC ae (k+1) 59 [skE K,.int d] S) Q:=by
 refine ax (d:=gg) (ρ:=[aw (skE K),aw (.int d),aD]) rfl rfl ?_;dsimp only[gg,ku];have g7:=sk.g7;k_is;refine aa sk2 ?_;k_is;refine bI K.G ag (λg=>[ag (lt3 d g)]) (by lia) (λ_ _=>Zj _) cu (λi g S' c sm=>?_) λb u=>?_
 ·obtain⟨z,j,y,la,v,l,B,rfl,hb⟩:=sk.gb g (Zc c);refine⟨_,rfl,?_⟩;k_is;refine aa (show ixS (.tup [.int z,.int j,.int y,.int la,.int v,.int l,.int B]) (.int 3) S'=aw (.int la,S') from rfl) ?_;k_is;exact⟨show 3+1<=1000 by decide,show 4+3<=1000 by decide,rfl,Sm.refl _⟩
 ·rw[bQ];refine aa (show cM aS (K.G.map λg=>ag (lt3 d g)) b=aw (.tup (K.G.map λg=>ag (lt3 d g)),b) from rfl) ?_;k_is;refine aa (show ixS (skE K) (.int 0) b=aw (meE K,b) from rfl) ?_;k_is;refine aa sk1 ?_;k_is;refine aa (show ixS (skE K) (.int 3) b=aw (.tup (K.F.map D.int),b) from rfl) ?_;k_is;have:=q b u;unfold skE ltr at this;dsimp only at this;rw[ZS] at this;exact this
abbrev evr(K:Sky):List Int:=(Zg K.G.length).map λ(j:Nat)=>(j:Int)
def rj:cw K.G.length []=evr K:=by
 unfold cw evr;rw[YV.mpr λa _=>by simp]
def rl:evr K ∈ aU K.G.length:=by rw[<-rj];exact mW
def Se{x:Int}:x ∈ evr K ↔ 0<=x/\x < K.G.length:=by
 rw[<-rj,z7];simp
def Iy(sk:aW K):nar K (evr K)=K:=by
 have d:(evr K).map (gl K)=K.G:=by
  unfold evr;rw[ZS];refine Ys λi=>?_;rw[Zl];by_cases hi:i < K.G.length
  ·rw[Z6 hi,gEG hi];show aw ((K.G[((i:Nat):Int).toNat]?).getD [])=_;rw[ZG,gEG hi];rfl
  ·rw[Zr (by simpa using hi),Zr (by simpa using hi)];rfl
 have j:(fxd K (evr K)).map (ixI (evr K))=K.F:=by
  unfold fxd;rw[YV.mpr λx c=>decide_eq_true (Se.mpr (sk.bd x c))]
  conv=>rhs;rw[<-Wl K.F]
  refine ZZ λx c=>?_;have b:=sk.bd x c
  have h:(evr K)[x.toNat]?=aw x:=by
   unfold evr;rw[Zl,Z6 (by lia)];show aw ((x.toNat:Nat):Int)=_
   congr 1
   lia
  rw[Sn.ix_at (uu rl).nd h];show((x.toNat:Nat):Int)=x
  lia
 unfold nar;rw[d,j]
def rm(sk:aW K):lnd K (evr K)=(aR K .la).isSome:=by unfold lnd;rw[Iy sk]
def Iz:D.tup ((Zg K.G.length).map λj=>.int (Int.ofNat j))=ag (evr K):=by unfold ag evr;rw[ZS];rfl
def Ee(sk:aW K)(h:aR K .la=aD):[] ∉ snt K:=λz=>by
 have:=(RV z).2;rw[rj,rm sk,h] at this;cases this
end Lw
namespace Lw
open PySem Ev Sn L2
variable {p:Nat} {S S':Sto} {k:Nat} {Q:D->Sto->Prop} {K:Sky} {W:Int}
abbrev meL(r s:Int)(M:List (List Int))(H:List (Int × Int)):D:=.tup [.int r,.int s,.tup (M.map ag),.tup (H.map au)]
def IA{r s:Int}{N v hi:Nat}(h:Pot p S)(gs:Gs p N hi S I G)(hf:S[v]?=aw (.lst (F.map D.int)))(U:v ≠ p)(me:MeOk r s M H)(g7:G.length<=7)
  (q:∀a S',Dr p S S'->(∀z:Int × Int,a=aw z->0<=z.1/\z.1 < M.length/\0<=z.2/\z.2<=999)->Q (skE ⟨r,s,M,H,a,G,F⟩) S') :
  rW (wSs (evC ae (k+3)) (gM ae) 55 (gH.drop 5)) [aw (.ref p),aw (.int W),aw (meL r s M H),aw (.ref N),u4,u5,u6,u7,u8,u9,u10,u11,aw (.ref v),u13,aD] S (out Q):=by
 dsimp only[gH,Xs];have m1:=me.m1;have m4:=me.m4;k_is;refine aa (show ixS (meL r s M H) (.int 2) S=aw (.tup (M.map ag),S) from rfl) ?_;refine aa (show aq c9 (.tup (M.map ag)) S=aw (.int M.length,S) by simp only[aq,ao,c9,Za]) ?_;refine⟨rfl,aF h (by lia) (by lia) λx S1 x1 x2 J=>?_⟩;refine⟨rfl,aF J.pot (by decide) (by decide) λy S2 Z y2 L=>?_⟩;refine⟨rfl,aF L.pot (by decide) (by decide) λz S3 z1 z2 d3=>?_⟩;k_is;have d:=(J.trans L).trans d3
 obtain⟨a,ea,T⟩:∃a:Option (Int × Int),atI [D.non,D.tup [D.int x,D.int y]] z=aw (ahE a)/\∀q,a=aw q->0<=q.1/\q.1 < M.length/\0<=q.2/\q.2<=999:=by
  have:z=0\/z=1:=by lia
  rcases this with rfl |rfl
  ·exact⟨aD,rfl,λq e=>by cases e⟩
  ·exact⟨aw (x,y),rfl,λq e=>by cases e;exact⟨x1,x2,Z,by lia⟩⟩
 refine⟨_,ea,?_⟩;k_is;have j:=gs.keep d.kp;have B:=d.kp _ _ U hf;refine⟨by rw[aP j.at_];rfl,?_⟩;have le:=j.len;refine mM I.length (λi=>(I[i]?).getD .non) (λi u S'=>S'=S3/\u=(G.take i).map ag) (λi u S' hi ⟨e,_⟩=>by subst e;exact CO j.at_ _ JN) (by lia) (λi u l hi ⟨C,c⟩=>?_) (λX l ⟨C,c⟩=>⟨by rw[c,Za,Yo];lia,?_⟩) ⟨rfl,rfl⟩
 ·subst C;have O:i < G.length:=by lia
  obtain⟨b,Y,_,_,zb⟩:=j.row i G[i] (gEG O);simp only[Y,ZT];refine⟨_,rfl,?_⟩;k_is;refine aa (show aq cM (.ref b) l=aw (.tup (G[i].map D.int),l) by simp only[aq,ao,aP zb,ZK,cM]) ?_;refine⟨rfl,?_⟩;rw[c,Z8 O,ZQ];rfl
 ·subst C;rw[YF (by lia)] at c;subst c;refine aa (show cM aS (G.map ag) l=aw (.tup (G.map ag),l) from rfl) ?_;refine aa (show aq cM (.ref v) l=aw (.tup (F.map D.int),l) by simp only[aq,ao,aP B,ZK,cM]) ?_;k_is;exact q a l d T
def wH{j:Nat}(h:j < l.length):(l[j]::l.eraseIdx j).Perm l:=by
 induction l generalizing j with
 |nil=>simp at h
 |cons a l I=>
  cases j with
  |zero=>exact List.Perm.refl _
  |succ j=>
   rw[Zo] at h;have:=I (j:=j) (by lia);rw[List.getElem_cons_succ,Y3];exact(List.Perm.swap _ _ _).trans (this.cons a)
def pB:∀ (l:List Int) (j:Nat),(l.map D.int).eraseIdx j=(l.eraseIdx j).map D.int
 |[],_=>rfl
 |a::l,0=>rfl
 |a::l,j+1=>by rw[Zz,Y3,Y3,Zz,pB l j]
def Ef{n:Nat}{l:List Int}{j:Nat}(u:S[n]?=aw (.lst (l.map D.int)))(d:j < l.length):ia (.ref n) [.int (j:Int)] S=aw (.int l[j],S.set n (.lst ((l.eraseIdx j).map D.int))):=by
 have b:ixN (l.map D.int).length (j:Int)=aw j:=by
  unfold ixN;rw[if_pos (by lia),if_pos (by rw[Za];lia),ZG]
 have c:(l.map D.int)[j]?=aw (.int l[j]):=by rw[Zl,gEG d];rfl
 have q:(l.map D.int).eraseIdx j=(l.eraseIdx j).map D.int:=pB l j;simp only[ia,chg,u,b,c,ZK,q]
def ng{n:Nat}{l:List Int}(h:l.Perm ((Zg n).map λi=>Int.ofNat i)):l.Nodup/\(∀x ∈ l,0<=x/\x < n)/\l.length=n:=by
 refine⟨h.nodup_iff.mpr (Xc.mpr (YR.imp λh z=>h (Int.ofNat.inj z))),λx b=>?_,by rw[h.length_eq,Za,ZB]⟩;obtain⟨i,hi,rfl⟩:=Zy.mp (h.mem_iff.mp b);have:=ZJ.mp hi;show 0<=(i:Int)/\(i:Int) < n
 lia
structure Fxs(p N Nl Nf:Nat)(S:Sto)(es:List D)(G:List (List Int))(l F:List Int):Prop where
 gs:Gs p N Nl S es G
 al:S[Nl]?=aw (.lst (l.map D.int))
 af:S[Nf]?=aw (.lst (F.map D.int))
 nn:Nl < Nf
 pm:(F++l).Perm ((Zg G.length).map λi=>Int.ofNat i)
 rg:∀ (j:Nat) g,G[j]?=aw g->g.getD 6 0=0\/(j:Int) ∈ F
def Fxs.keep{N b c:Nat}(h:Fxs p N b c S d G l F)(kp:Ev.Kp p S S')(hN:N < b):Fxs p N b c S' d G l F:=by
 have:=h.gs.pN;have:=h.nn;exact⟨h.gs.keep kp,kp _ _ (by lia) h.al,kp _ _ (by lia) h.af,h.nn,h.pm,h.rg⟩
def IB{r s:Int}{M G:List (List Int)}{H:List (Int × Int)}{T:List D}{N hi:Nat}{I:Sto}{u4 u5 u6 u7 u8 u9 O:Option D}(h:Dr p I S)(l0:I.length<=N)(gs:Gs p N S.length S T G)(me:MeOk r s M H)(g7:G.length<=7)(gb:∀g ∈ G,GB M.length r s g)(g0:∀g ∈ G,g.getD 6 0=0)
  (q:∀K S',Dr p I S'->aW K->(∀g ∈ K.G,GB K.M.length K.r K.s g)->K.G.length<=7->Q (skE K) S') :
  rW (wSs (evC ae (k+3)) (gM ae) 57 (gH.drop 3)) [aw (.ref p),aw (.int W),aw (meL r s M H),aw (.ref N),u4,u5,u6,u7,u8,u9,O,aD,aD,aD,aD] S (out Q):=by
 have tail:=λ(u11 U:Option D) (b:List (List Int)) (es':List D) (F:List Int) (C hi:Nat) (S1:Sto) (d:Dr p I S1) (gs':Gs p N hi S1 es' b) (hf:S1[C]?=aw (.lst (F.map D.int))) (nf:C ≠ p) (Z:b.length<=7) (u:∀g ∈ b,GB M.length r s g) (nd:F.Nodup) (bd:∀x ∈ F,0<=x/\x < b.length) (rg:∀ (j:Nat) g,b[j]?=aw g->g.getD 6 0=0\/(j:Int) ∈ F)=>
  IA (k:=k) (Q:=Q) (W:=W) (u4:=u4) (u5:=u5) (u6:=u6) (u7:=u7) (u8:=u8) (u9:=u9) (u10:=O) (u11:=u11) (u13:=U) d.pot gs' hf nf me (by lia) λa S2 d2 ha=>q _ S2 (d.trans d2) ⟨me,ZX Z (by decide),λg hg=>(u g hg).up (by decide),nd,bd,rg,ha⟩ u Z
 dsimp only[gH,Xs] at tail ⊢;have pN:=gs.pN;have le:=gs.len;have X:N < S.length:=(Zb.mp gs.at_).1;k_is;refine aa (jb gs.at_) ?_;refine⟨T.length,rfl,by lia,?_⟩;k_is;rw[le]
 have al:(S++[Ob.lst ((Zg G.length).map λj=>D.int (Int.ofNat j))]++[Ob.lst []])[S.length]?=aw (.lst (((Zg G.length).map λj=>Int.ofNat j).map D.int)):=by
  rw[Zv (by simp),bh,ZS];rfl
 have af:(S++[Ob.lst ((Zg G.length).map λj=>D.int (Int.ofNat j))]++[Ob.lst []])[Zw (S++[Ob.lst ((Zg G.length).map λj=>D.int (Int.ofNat j))])]?=aw (.lst (([]:List Int).map D.int)):=bh;have L:Sm S (S++[Ob.lst ((Zg G.length).map λj=>D.int (Int.ofNat j))]++[Ob.lst []]):=(Sm.app _ _).trans (Sm.app _ _);have nn:S.length < Zw (S++[Ob.lst ((Zg G.length).map λj=>D.int (Int.ofNat j))]):=by simp
 generalize Zw (S++[Ob.lst ((Zg G.length).map λj=>D.int (Int.ofNat j))])=C at *;generalize S++[Ob.lst ((Zg G.length).map λj=>D.int (Int.ofNat j))]++[Ob.lst []]=S1 at *;have d1:Dr p I S1:=h.thenSm L;have fx1:Fxs p N S.length C S1 T G ((Zg G.length).map λj=>Int.ofNat j) []:=⟨gs.keep L.kp,al,af,nn,List.Perm.refl _,λj g e=>.inl (g0 g (Zc e))⟩;have sl:I.length<=S.length:=by lia
 generalize S.length=Nl at *;refine aa (jb (L _ _ gs.at_)) ?_;k_is;rw[le];refine⟨rfl,aF d1.pot (by lia) (by lia) λt S2 t1 t2 d2=>?_⟩;refine⟨rfl,aF d2.pot (by decide) (by decide) λz S3 z1 z2 d3=>?_⟩;k_is
 obtain⟨c,ec,hc⟩:∃c:Nat,atI [D.int 0,D.int t] z=aw (D.int c)/\c<=G.length:=by
  have:z=0\/z=1:=by lia
  rcases this with rfl |rfl
  ·exact⟨0,rfl,Z5 _⟩
  ·obtain⟨m,rfl⟩:∃m:Nat,t=(m:Int):=⟨t.toNat,by lia⟩;exact⟨m,rfl,by lia⟩
 refine⟨_,ec,?_⟩;k_is;refine⟨gm (by lia) (by lia),?_⟩;rw[ZG];refine mL (by lia) (λi ρ S'=>Dr p I S'/\∃b l F U,ρ=[aw (.ref p),aw (.int W),aw (meL r s M H),aw (.ref N),u4,u5,u6,u7,u8,u9,O,aw (.ref Nl),aw (.ref C),U,aD]/\Fxs p N Nl C S' T b l F/\F.length=i/\b.length=G.length/\∀g ∈ b,GB M.length r s g) (λi ρ S4 hi ⟨d4,b,l,F,U,er,fx,lF,lG,u⟩=>?_) (λρ S4 ⟨d4,b,l,F,U,er,fx,lF,lG,u⟩=>?_) ⟨(d1.trans d2).trans d3,G,_,[],aD,rfl,fx1.keep (d2.trans d3).kp X,rfl,rfl,gb⟩
 ·subst er;refine⟨_,rfl,?_⟩;k_is;have pl:F.length+l.length=b.length:=by have:=fx.pm.length_eq;rw[Zf,Za,ZB] at this;exact this
  refine⟨gk fx.af,?_⟩;refine⟨gk fx.al,?_⟩;refine aa (jb fx.al) ?_;rw[Za];refine⟨rfl,aF d4.pot (by lia) (by lia) λj0 Y j1 j2 d5=>?_⟩;obtain⟨j,rfl⟩:∃j:Nat,j0=(j:Int):=⟨j0.toNat,by lia⟩;have hj:j < l.length:=by lia
  have B:=fx.keep d5.kp X;refine aa (Ef B.al hj) ?_;have J:=B.nn;have lt5:Nl < Y.length:=(Zb.mp B.al).1;have ltf:C < Y.length:=(Zb.mp B.af).1;have af6:(Y.set Nl (.lst ((l.eraseIdx j).map D.int)))[C]?=aw (.lst (F.map D.int)):=by rw[Zx (by lia)];exact B.af
  rw[mN af6 (by rw[Za];lia)];k_is;have ef:F.map D.int++[D.int l[j]]=(F++[l[j]]).map D.int:=by rw[ZQ];rfl
  rw[ef]
  have pm7:((F++[l[j]])++l.eraseIdx j).Perm ((Zg b.length).map λi=>Int.ofNat i):=by
   rw[Yu];exact((wH hj).append_left F).trans fx.pm
  have fx7:Fxs p N Nl C ((Y.set Nl (.lst ((l.eraseIdx j).map D.int))).set C (.lst ((F++[l[j]]).map D.int))) T b (l.eraseIdx j) (F++[l[j]]):=by
   refine⟨(B.gs.other (Zj _) X).other (by lia) X,?_,gj (by rw[Yc];exact ltf),J,pm7,λj' g e=>?_⟩
   ·rw[Zx (by lia),gj lt5]
   ·rcases fx.rg j' g e with z |z
    ·exact .inl z
    ·exact .inr (ZV _ z)
  have d7:Dr p I ((Y.set Nl (.lst ((l.eraseIdx j).map D.int))).set C (.lst ((F++[l[j]]).map D.int))):=⟨((d4.kp.trans d5.kp).setNew (by lia)).setNew (by lia),(d5.pot.setNe (by lia)).setNe (by lia)⟩;generalize (Y.set Nl (.lst ((l.eraseIdx j).map D.int))).set C (.lst ((F++[l[j]]).map D.int))=S7 at *;have xb:=(ng fx.pm).2.1 l[j] (ZA _ (ZM hj));generalize l[j]=x at *;refine aa (show ixS (meL r s M H) (.int 0) S7=aw (.int r,S7) from rfl) ?_;k_is;refine eN (λh1=>?_) λh1=>?_
  ·k_is;have r0:=of_decide_eq_true h1;have r8:=me.r8;refine⟨rfl,aF d7.pot (by decide) (by decide) λy S8 y1 y2 d8=>?_⟩;k_is;have fx8:=fx7.keep d8.kp X;refine eN (λh2=>?_) λh2=>?_
   ·k_is;refine aa (show ixS (meL r s M H) (.int 0) S8=aw (.int r,S8) from rfl) ?_;refine⟨rfl,aF d8.pot r0 (by lia) λw S9 w1 w2 d9=>?_⟩;k_is;have v:=fx8.keep d9.kp X;refine aa (qH (ds:=F.map D.int) (e:=.int x) (by rw[v.af,ZQ];rfl)) ?_;have hx:x.toNat < b.length:=by lia
    obtain⟨a,ea,n1,n2,za⟩:=v.gs.row x.toNat b[x.toNat] (gEG hx);refine aa (jM v.gs.at_ xb.1 ea) ?_;k_is;obtain⟨kd,jo,fi,la,du,we,ri,eg,hb⟩:=u b[x.toNat] (ZM hx);rw[eg] at za;refine⟨_,x9 (i:=6) za (by decide) (by show 6 < 7;decide),?_⟩;k_is;have es9:(([kd,jo,fi,la,du,we,ri]:List Int).map D.int).set (6:Int).toNat (.int (1+w))=([kd,jo,fi,la,du,we,1+w]:List Int).map D.int:=rfl;rw[es9];refine⟨⟨((d7.kp.trans d8.kp).trans d9.kp).setNew (by lia),d9.pot.setNe (by lia)⟩,b.set x.toNat [kd,jo,fi,la,du,we,1+w],_,_,_,rfl,⟨v.gs.setRow hx ea,?_,?_,J,by rw[Yc];exact v.pm,λj' g e=>?_⟩,by rw[Zf,Zq];lia,by rw[Yc];exact lG,λg hg=>?_⟩
    ·rw[Zx (by lia)];exact v.al
    ·rw[Zx (by lia)];exact v.af
    ·by_cases hjj:j'=x.toNat
     ·subst hjj;right;have:((x.toNat:Nat):Int)=x:=by lia
      rw[this];exact ZA _ (ZE.mpr rfl)
     ·rw[Zx (Ne.symm hjj)] at e;exact v.rg j' g e
    ·rcases List.mem_or_eq_of_mem_set hg with hg |rfl
     ·exact u g hg
     ·exact⟨kd,jo,fi,la,du,we,1+w,rfl,by omega⟩
   ·k_is;exact⟨d7.trans d8,b,_,_,_,rfl,fx8,by rw[Zf,Zq];lia,lG,u⟩
  ·k_is;exact⟨d7,b,_,_,_,rfl,fx7,by rw[Zf,Zq];lia,lG,u⟩
 ·subst er;k_is;have pr:=ng fx.pm;have J:=fx.nn;exact tail _ _ b T F C Nl S4 d4 fx.gs fx.af (by lia) (by lia) u (List.Nodup.sublist (List.sublist_append_left F l) pr.1) (λy hy=>pr.2.1 y (ZV _ hy)) fx.rg
def IC(w0:0<=W)(w7:W<=7)(h:Pot p S)(q:∀K S',Dr p S S'->aW K->(∀g ∈ K.G,GB K.M.length K.r K.s g)->K.G.length<=7->Q (skE K) S'):Ok (evC ae (k+4) 58 [.ref p,.int W] S) Q:=by
 refine ax (d:=jJ) (ρ:=[aw (.ref p),aw (.int W),aD,aD,aD,aD,aD,aD,aD,aD,aD,aD,aD,aD,aD]) rfl rfl ?_;have C:=@IB p;dsimp only[jJ];dsimp only[gH,Xs] at C ⊢;k_is;refine⟨rfl,wn h λr s M H y d1 me=>?_⟩;rw[show(D.tup [.int r,.int s,.tup (M.map ag),.tup (H.map au)])=meL r s M H from rfl];k_is;have L:=d1.pot.lt;have m1:=me.m1;have m4:=me.m4;have s0:=me.s0;have s60:=me.s60;have sl:S.length<=y.length:=Kp.len d1.kp L;have d2:Dr p S (y++[Ob.lst []]):=d1.thenSm (Sm.app _ _);have g2:Gs p y.length (Zw (y++[Ob.lst []])) (y++[Ob.lst []]) [] []:=⟨L,bh,rfl,λi g e=>by simp at e,λi j a e=>by simp at e⟩;generalize y++[Ob.lst []]=S2 at *;generalize y.length=N at *;refine⟨rfl,aF d2.pot (by decide) (by decide) λT S3 j3 k3 d3=>?_⟩;k_is
 obtain⟨wd,at3,h3⟩:∃e:Int,atI [D.int 5,D.int 20,D.int 60] T=aw (D.int e)/\0 < e/\e<=60:=by
  have:T=0\/T=1\/T=2:=by lia
  rcases this with rfl |rfl |rfl
  ·exact⟨5,rfl,by decide,by decide⟩
  ·exact⟨20,rfl,by decide,by decide⟩
  ·exact⟨60,rfl,by decide,by decide⟩
 refine⟨_,at3,?_⟩;refine⟨rfl,aF d3.pot (by decide) (by decide) λI S4 j4 k4 d4=>?_⟩;k_is
 obtain⟨lg,at4,h4⟩:∃e:Int,atI [D.int 4,D.int 30,D.int 90,D.int 400] I=aw (D.int e)/\0 < e/\e<=400:=by
  have:I=0\/I=1\/I=2\/I=3:=by lia
  rcases this with rfl |rfl |rfl |rfl
  ·exact⟨4,rfl,by decide,by decide⟩
  ·exact⟨30,rfl,by decide,by decide⟩
  ·exact⟨90,rfl,by decide,by decide⟩
  ·exact⟨400,rfl,by decide,by decide⟩
 refine⟨_,at4,?_⟩;k_is;refine⟨rfl,aF d4.pot (by lia) (by lia) λn0 S5 n1 n2 d5=>?_⟩;k_is;obtain⟨n,rfl⟩:∃n:Nat,n0=(n:Int):=⟨n0.toNat,by lia⟩;refine⟨gm (by lia) (by lia),?_⟩;rw[ZG];have u:=(d3.trans d4).trans d5;refine mL (by lia) (λi ρ S'=>Dr p S S'/\∃X G u6 u7 u8 u9 U,ρ=[aw (.ref p),aw (.int W),aw (meL r s M H),aw (.ref N),aw (.int wd),aw (.int lg),u6,u7,u8,u9,U,aD,aD,aD,aD]/\Gs p N S'.length S' X G/\G.length=i/\∀g ∈ G,GB M.length r s g/\g.getD 6 0=0) (λi ρ S6 hi ⟨d6,X,G,u6,u7,u8,u9,U,er,gs,lG,gb⟩=>?_) (λρ S6 ⟨d6,X,G,u6,u7,u8,u9,U,er,gs,lG,gb⟩=>?_) ⟨d2.trans u,[],[],aD,aD,aD,aD,aD,rfl,(g2.keep u.kp).up (Kp.len u.kp u.pot.lt),rfl,λg hg=>by simp at hg⟩
 ·subst er;refine⟨_,rfl,?_⟩;k_is;refine⟨rfl,aF d6.pot h3.1 (by lia) λJ S7 o1 o2 d7=>?_⟩;k_is;refine aa (show ixS (meL r s M H) (.int 1) S7=aw (.int s,S7) from rfl) ?_;k_is;refine⟨rfl,aF d7.pot (by decide) (by decide) λx S8 x1 x2 d8=>?_⟩;refine⟨rfl,aF d8.pot (by decide) (by decide) λz S9 z1 z2 d9=>?_⟩;k_is
  obtain⟨e,ate,he⟩:∃e:Int,atI [D.int 0,D.int x] z=aw (D.int e)/\0<=e/\e<=9:=by
   have:z=0\/z=1:=by lia
   rcases this with rfl |rfl
   ·exact⟨0,rfl,by decide,by decide⟩
   ·exact⟨x,rfl,by lia,by lia⟩
  refine⟨_,ate,?_⟩;k_is;refine⟨rfl,aF d9.pot h4.1 (by lia) λa Sa a1 a2 da=>?_⟩;k_is;refine⟨rfl,aF da.pot h4.1 (by lia) λb Y b1 b2 db=>?_⟩;k_is;have v:=(((d7.trans d8).trans d9).trans da).trans db;have gsb:=gs.keep v.kp;refine⟨gk gsb.at_,?_⟩;refine aa (show ixS (meL r s M H) (.int 2) Y=aw (.tup (M.map ag),Y) from rfl) ?_;refine aa (show aq c9 (.tup (M.map ag)) Y=aw (.int M.length,Y) by simp only[aq,ao,c9,Za]) ?_;refine⟨rfl,aF db.pot (by lia) (by lia) λZ Sc c1 c2 dc=>?_⟩;refine⟨rfl,aF dc.pot (by decide) (by decide) λw Sd w1 w2 dd=>?_⟩;k_is
  obtain⟨O,atw,hw⟩:∃e:Int,atI [D.int 0,D.int 1,D.int 7,D.int 99] w=aw (D.int e)/\0<=e/\e<=99:=by
   have:w=0\/w=1\/w=2\/w=3:=by lia
   rcases this with rfl |rfl |rfl |rfl
   ·exact⟨0,rfl,by decide,by decide⟩
   ·exact⟨1,rfl,by decide,by decide⟩
   ·exact⟨7,rfl,by decide,by decide⟩
   ·exact⟨99,rfl,by decide,by decide⟩
  refine⟨_,atw,?_⟩;k_is;have c:=v.trans (dc.trans dd);have l:=(gs.keep c.kp).up (Kp.len c.kp c.pot.lt);have atN:=Sm.app Sd [Ob.lst [D.int Z,D.int J,D.int (J+s+e),D.int (J+s+e+a),D.int (J+b),D.int O,D.int 0]] _ _ l.at_;rw[mN atN (by rw[l.len];lia)];k_is;have sn:=l.snoc (g:=[Z,J,J+s+e,J+s+e+a,J+b,O,0]);have B:=d6.trans c;refine⟨⟨(B.kp.trans (Sm.app _ _).kp).setNew (by lia),((Dr.sm B.pot (Sm.app _ _)).pot).setNe (by have:=l.pN;lia)⟩,X++[D.ref (Zw Sd)],G++[[Z,J,J+s+e,J+s+e+a,J+b,O,0]],_,_,_,_,_,rfl,?_,by rw[Zf,Zq];lia,λg hg=>?_⟩
  ·rw[Yc,Zf,Zq];exact sn
  ·rcases ZP.mp hg with hg |hg
   ·exact gb g hg
   ·rw[ZE.mp hg];exact⟨⟨Z,J,J+s+e,J+s+e+a,J+b,O,0,rfl,by have:=me.r0;omega⟩,rfl⟩
 ·subst er;exact C (hi:=0) d6 (by lia) gs me (by lia) (λg hg=>(gb g hg).1) (λg hg=>(gb g hg).2) q
end Lw
namespace Lw
open PySem Ev Sn L2
variable {p:Nat} {S S':Sto} {k:Nat} {Q:D->Sto->Prop} {K:Sky}
abbrev Nr(G b:List (List Int)):Prop:=b.length=G.length/\∀ (i:Nat) g,G[i]?=aw g->∃d,0<=d/\d<=40/\b[i]?=aw (g.set 3 (g.getD 2 0+d))
def Nr.nil:Nr [] []:=⟨rfl,λi g h=>by cases h⟩
def Nr.snoc{d:Int}(h:Nr G v)(y:0<=d)(u:d<=40):Nr (G++[g]) (v++[g.set 3 (g.getD 2 0+d)]):=by
 refine⟨by rw[Zf,Zf,h.1];rfl,λi x j=>?_⟩;by_cases hi:i < G.length
 ·rw[Zv hi] at j;obtain⟨q,a,b,c⟩:=h.2 i x j;exact⟨q,a,b,by rw[Zv (by rw[h.1];exact hi)];exact c⟩
 ·have l:i=G.length:=by
   have:=(Zb.mp j).1;rw[Zf,Zq] at this
   lia
  subst l;rw[Zp (Zj _),Yd] at j;cases j;exact⟨d,y,u,by rw[<-h.1,Zp (Zj _),Yd];rfl⟩
def Eg{q:List (List Int)}(sk:aW K)(gb:∀g ∈ K.G,GB K.M.length K.r K.s g)(h:Nr K.G q):Sml { K with G:=q }:=by
 have B:∀ (i:Nat) c,q[i]?=aw c->∃g d,K.G[i]?=aw g/\0<=d/\d<=40/\c=g.set 3 (g.getD 2 0+d):=λi c e=>by
  have hi:i < K.G.length:=by rw[<-h.1];exact(Zb.mp e).1
  obtain⟨d,L,v,O⟩:=h.2 i _ (gEG hi);rw[e] at O;cases O;exact⟨_,d,gEG hi,L,v,rfl⟩
 have T:∀g ∈ q,GX 600 K.M.length K.r K.s g:=λc b=>by
  obtain⟨i,hi⟩:=Z2 b;obtain⟨g,d,e,L,v,rfl⟩:=B i c hi;obtain⟨C,J,l,la,z,y,I,u,hb⟩:=gb g (Zc e);subst u;have s0:=sk.me.s0;exact⟨C,J,l,l+d,z,y,I,rfl,by omega⟩
 refine⟨⟨sk.me,by show q.length<=7;rw[h.1];exact sk.g7,λc b=>?_,sk.nd,λx U=>by show _/\x < (q.length:Int);rw[h.1];exact sk.bd x U,λj c b=>?_,sk.ah⟩,T⟩
 ·obtain⟨i,hi⟩:=Z2 b;obtain⟨g,d,e,L,v,rfl⟩:=B i c hi;obtain⟨C,J,l,la,z,y,I,u,hb⟩:=gb g (Zc e);subst u;have s0:=sk.me.s0;exact⟨C,J,l,l+d,z,y,I,rfl,by dsimp only;omega⟩
 ·obtain⟨g,d,e,L,v,rfl⟩:=B j c b;obtain⟨C,J,l,la,z,y,I,u,hb⟩:=gb g (Zc e);have:=sk.rg j g e;subst u;exact this
abbrev uy(ns:List Int)(S:Sto):Prop:=S[0]?=aw (.frz (ns.map D.int))/\Iu S
def uy.keep{ns:List Int}(h:uy ns S)(s:Sm S S'):uy ns S':=⟨s _ _ h.1,s _ _ h.2⟩
def xX{o:COp}{y:D}{P:D->Sto->Prop}(h:Ok (ak o .non y S) P):wCx o (mR (Ed aD)) y S P:=h
def tR{o:COp}{b:Bool}{y:D}{P:D->Sto->Prop}(h:Ok (ak o (.bl b) y S) P):wCx o (.bl b) y S P:=h
def xW{o:COp}{y:D}{P:D->Sto->Prop}(h:Ok (ak o .non y S) P):wCx o (DH aD) y S P:=h
def IE{m:Nat}{A:List (List Int)}(c:S[m]?=aw (.lst (A.map ag))):ak .isin (.tup []) (.ref m) S=aw (.bl (decide ([] ∈ A)),S):=by
 have e:∀a:List Int,eqT (ag a) (.tup [])=aw (decide (a=[])):=λa=>by
  show(match bK (a.map D.int),bK [] with
   |some a,aw b=>aw (decide (a=b))
   | _,_=>aD)=_
  rw[cK];rfl
 have j:((A.map ag).all λy=>(eqT y (.tup [])).isSome)=aN:=by
  rw[YQ];exact ZW.mpr λa _=>by show(eqT (ag a) (.tup [])).isSome=aN;rw[e];rfl
 have l:((A.map ag).any λy=>eqT y (.tup []) == aw aN)=decide ([] ∈ A):=by
  rw[XF,Yh,Yz,decide_eq_true_eq];constructor
  ·rintro⟨a,d,h⟩;have h:(eqT (ag a) (.tup []) == aw aN)=aN:=h;rw[e] at h;have:a=[]:=by simpa using h
   exact this ▸ d
  ·intro h;exact⟨[],h,by show(eqT (ag []) (.tup []) == aw aN)=aN;rw[e];rfl⟩
 show inS aS (.tup []) (.ref m) S=_;unfold inS;have hi:ao (.ref m) S=aw (aS,A.map ag):=by simp only[ao,aQ,c,ZK]
 rw[hi];dsimp only;rw[if_neg λh=>absurd h.1 (by decide)];unfold inD;rw[if_pos rfl,if_pos j,l];rfl
def R8(sk:aW K):Alk K K:=(dG sk).trans ((dG sk).symm rfl)
abbrev bT:List CS:=match xN with
 |.for_ _ _ b::_=>b.drop 5
 |_=>[]
def tail{ns:List Int}(sm:Sml K)(h:uy ns S){u1 u2 u5 u7 u U j:Option D}{Qf:Fl->Rho->Sto->Prop}(q:∀S' u U j,uy ns S'->Qf .nx [aw (.ref 0),u1,u2,aw (meE K),aw (ahE K.ah),u5,aw (.tup (K.F.map D.int)),u7,aw (.tup (K.G.map ag)),aw (skE K),aw (ag (evr K)),u,U,j] S') :
  rW (wSs (evC ae 39) (gM ae) 53 bT) [aw (.ref 0),u1,u2,aw (meE K),aw (ahE K.ah),u5,aw (.tup (K.F.map D.int)),u7,aw (.tup (K.G.map ag)),aw (skE K),aw (ag (evr K)),u,U,j] S Qf:=by
 have sk:=sm.sk;dsimp only[bT,xN,Xs];k_is;refine⟨rfl,jS (k:=18) sk λS1 s1=>?_⟩;k_is;refine⟨rfl,m7 (k:=17) sk rl λb s2=>?_⟩;rw[rm sk];have L0:=jR sm (d:=0) (by decide) (by decide);rw[RZ sk] at L0;have h2:=(h.keep s1).keep s2;cases hb:aR (ntl K) .mo with
 |none=>
  have B:∀l,aR K l=aD:=λl=>yt sm (R8 sk) rfl sk hb;rw[B];refine xX ?_;refine aa (show ak .eq .non (.int 0) b=aw (.bl aS,b) from rfl) ?_;refine aa (show ak .ne (.bl aS) (.bl aS) b=aw (.bl aS,b) from rfl) ?_;k_is;refine aa (show ixS (meE K) (.int 0) b=aw (.int K.r,b) from rfl) ?_;k_is;show qJ (aw 1) aD (.tup [.int K.r,.int K.s,.tup (K.M.map ag),.tup (K.H.map au)]) b _;k_is;refine⟨show 1+3<=1000 by decide,?_⟩;rw[show D.tup [D.tup ([D.int (if K.r+1 < 8 then K.r+1 else 8)]++jm [D.int K.r,D.int K.s,D.tup (K.M.map ag),D.tup (K.H.map au)] (aw 1) aD),ahE K.ah,D.tup (K.G.map ag),D.tup (K.F.map D.int)]=skE (wid K) from rfl];k_is;refine aa (show ak .is (mR (Ed aD)) .non b=aw (.bl aN,b) from rfl) ?_;k_is;refine⟨rfl,m9 (k:=38) sk (d:=900) λZ Y=>?_⟩;refine⟨rfl,jS (k:=18) (m8 sm (by decide) (by decide)) λS4 T=>?_⟩;have sl:=m8 (d:=900) sm (by decide) (by decide);have e9:aR (ntl (ltr K 900)) .mo=aD:=yt sm ((pA sk).trans (dG sl)) rfl (iw sl) hb;rw[e9];refine xX ?_;refine aa (show ak .isnot .non .non S4=aw (.bl aS,S4) from rfl) ?_;k_is;refine⟨rfl,zR (k:=18) sk λv J=>?_⟩;rw[B];refine xW ?_;refine aa (show ak .isnot .non .non v=aw (.bl aS,v) from rfl) ?_;k_is;refine⟨rfl,zS (k:=18) sk λC X=>?_⟩;rw[B];refine xW ?_;refine aa (show ak .isnot .non .non C=aw (.bl aS,C) from rfl) ?_;k_is;have h6:=(((h2.keep Y).keep T).keep J).keep X;refine⟨rfl,Iw (k:=13) sk sk.g7 h6.2 λm I O l7 e7=>?_⟩;refine aa (IE e7) ?_;rw[decide_eq_false (Ee sk (B .la))];k_is;exact q _ _ _ _ (h6.keep O)
 |some z=>
  obtain⟨z0,z1⟩:=R7 sm hb;rw[show mR (Ed (aw z))=D.int z.1 from rfl];k_is
  have t0:(aR K .la).isSome=decide (z.1=0):=by
   rw[Yh,L0,hb,decide_eq_true_eq];exact⟨λ⟨y,e,le⟩=>by cases e;lia,λe=>⟨z,rfl,by lia⟩⟩
  rw[t0];refine tR ?_;refine aa (show ak .ne (.bl (decide (z.1=0))) (.bl (decide (z.1=0))) b=aw (.bl aS,b) from by cases decide (z.1=0) <;> rfl) ?_;k_is;refine aa (show ixS (meE K) (.int 0) b=aw (.int K.r,b) from rfl) ?_;k_is;show qJ (aw 1) aD (.tup [.int K.r,.int K.s,.tup (K.M.map ag),.tup (K.H.map au)]) b _;k_is;refine⟨show 1+3<=1000 by decide,?_⟩;rw[show D.tup [D.tup ([D.int (if K.r+1 < 8 then K.r+1 else 8)]++jm [D.int K.r,D.int K.s,D.tup (K.M.map ag),D.tup (K.H.map au)] (aw 1) aD),ahE K.ah,D.tup (K.G.map ag),D.tup (K.F.map D.int)]=skE (wid K) from rfl];k_is;refine aa (show ak .is (.int z.1) .non b=aw (.bl aS,b) from rfl) ?_;k_is;obtain⟨y,ey,le⟩:=OY sm hb;refine⟨rfl,jS (k:=18) (wG sk) λZ Y=>?_⟩;rw[ey,show mR (Ed (aw y))=D.int y.1 from rfl];k_is;refine aa (show ak .is (.int y.1) .non Z=aw (.bl aS,Z) from rfl) ?_;k_is;rw[decide_eq_false (by lia)];k_is
  have L:=λ(d:Int) (d0:0<=d) (d1:d<=2000) (S:Sto) (Q:D->Sto->Prop) (q:∀S',Sm S S'->Q (.bl (aR (ltr K d) .la).isSome) S')=>m7 (k:=17) (Q:=Q) (lot:=evr K) (m8 sm d0 d1) (by rw[(pA sk).len];exact rl) λS' s'=>by
   have e:evr K=evr (ltr K d):=by unfold evr;rw[(pA sk).len]
   rw[e,rm (m8 sm d0 d1)];exact q S' s'
  refine⟨rfl,m9 (k:=38) sk (d:=z.1) λS4 T=>?_⟩;refine⟨rfl,L z.1 z0 (by lia) _ _ λv J=>?_⟩;rw[(jR sm z0 (by lia)).mpr ⟨z,hb,ZF _⟩];refine tR ?_;refine aa (show ak .isnot (.bl aN) (.bl aN) v=aw (.bl aS,v) from rfl) ?_;k_is;have h5:=((h2.keep Y).keep T).keep J;cases c:decide (z.1 > 0) with
  |false=>
   k_is;exact q _ _ _ _ h5
  |true=>
   have c:=of_decide_eq_true c;k_is;refine⟨rfl,m9 (k:=38) sk (d:=z.1 - 1) λC X=>?_⟩;refine⟨rfl,L (z.1 - 1) (by lia) (by lia) _ _ λI O=>?_⟩
   have ef:(aR (ltr K (z.1 - 1)) .la).isSome=aS:=by
    cases hh:(aR (ltr K (z.1 - 1)) .la).isSome with
    |false=>rfl
    |true=>
     obtain⟨y,e,le⟩:=(jR sm (by lia) (by lia)).mp hh;rw[hb] at e;cases e
     lia
   rw[ef];refine tR ?_;refine aa (show ak .isnot (.bl aS) (.bl aS) I=aw (.bl aS,I) from rfl) ?_;k_is;exact q _ _ _ _ ((h5.keep X).keep O)
def main(ns:List Int)(hl:ns.length<=63):∃S',evC ae 40 60 [.ref 0] [.frz (ns.map D.int),.tbl "all_lots" kz.2.1 kz.2.2]=aw (.bl aN,S'):=by
 have O:Ok (evC ae 40 60 [.ref 0] [.frz (ns.map D.int),.tbl "all_lots" kz.2.1 kz.2.2]) λd _=>d = .bl aN:=by
  refine ax (d:=xO) (ρ:=[aw (.ref 0),aD,aD,aD,aD,aD,aD,aD,aD,aD,aD,aD,aD,aD]) rfl rfl ?_;have b0:uy ns [.frz (ns.map D.int),.tbl "all_lots" kz.2.1 kz.2.2]:=⟨rfl,rfl⟩;generalize [Ob.frz (ns.map D.int),Ob.tbl "all_lots" kz.2.1 kz.2.2]=S0 at *;dsimp only[xO,xN];k_is;have ln:aq c9 (.ref 0) S0=aw (.int ns.length,S0):=by simp only[aq,ao,aQ,b0.1,ZK,c9,Za]
  refine aa ln ?_;k_is
  obtain⟨n,en,hn⟩:∃n:Nat,(if (if (4:Int) < ns.length then (4:Int) else ns.length) > 1 then (if (4:Int) < ns.length then (4:Int) else ns.length) else 1)=(n:Int)/\n<=4:=by
   refine⟨(if (if (4:Int) < ns.length then (4:Int) else ns.length) > 1 then (if (4:Int) < ns.length then (4:Int) else ns.length) else 1).toNat,?_,?_⟩
   ·split <;> split <;> omega
   ·split <;> split <;> omega
  rw[en];refine⟨gm (by lia) (by lia),?_⟩;rw[ZG];refine mL (by lia) (λi Z S'=>uy ns S'/\∃a b c d e f g h i j k l m,Z=[aw (.ref 0),a,b,c,d,e,f,g,h,i,j,k,l,m]) (λi Z u hi X=>?_) (λZ u X=>?_) ⟨b0,_,_,_,_,_,_,_,_,_,_,_,_,_,rfl⟩
  ·obtain⟨B,a,b,c,d,e,f,g,h,i1,j,k,l,m,rfl⟩:=X;refine⟨_,rfl,?_⟩;rw[Wa];k_is;refine⟨rfl,HN (k:=38) B.1 λx=>?_⟩;refine⟨rfl,Oz (k:=38) λm0=>?_⟩;have n0:1 < u.length:=(Zb.mp B.2).1;have Y:uy ns (u++[Ob.lst [D.int m0]]):=⟨Sm.app _ _ _ _ B.1,Sm.app _ _ _ _ B.2⟩;have pt:Pot u.length (u++[Ob.lst [D.int m0]]):=⟨m0,bh⟩;generalize u++[Ob.lst [D.int m0]]=S2 at *;generalize u.length=p at *;k_is;refine⟨rfl,IC (k:=35) (W:=7) (by decide) (by decide) pt λK S3 I sk gb g7=>?_⟩;k_is;show wTp _ (.tup [meE K,ahE K.ah,.tup (K.G.map ag),.tup (K.F.map D.int)]) _ _;k_is;refine⟨rfl,aF I.pot (by decide) (by decide) λw S4 w0 w1 C=>?_⟩;k_is
   obtain⟨fr,J,hf⟩:∃e:Int,atI [D.int 1,D.int 5,D.int 40] w=aw (D.int e)/\0 < e/\e<=40:=by
    have:w=0\/w=1\/w=2:=by lia
    rcases this with rfl |rfl |rfl
    ·exact⟨1,rfl,by decide,by decide⟩
    ·exact⟨5,rfl,by decide,by decide⟩
    ·exact⟨40,rfl,by decide,by decide⟩
   refine⟨_,J,?_⟩;k_is;refine mM K.G.length (λi=>((K.G.map ag)[i]?).getD .non) (λi v S'=>Dr p S4 S'/\∃q:List (List Int),v=q.map ag/\Nr (K.G.take i) q) (λi v S' hi _=>?_) (by lia) (λi v S5 hi L=>?_) (λes S5 T=>?_) ⟨Dr.refl C.pot,[],rfl,Nr.nil⟩
   ·show aw ((K.G.map ag)[i]?)=_;by_cases c:i < K.G.length
    ·rw[if_pos c,gEG (by rw[Za];exact c)];rfl
    ·rw[if_neg c,Zr (by rw[Za];lia)]
   ·obtain⟨y,q,ea,z⟩:=L;have hg:K.G[i]?=aw K.G[i]:=gEG hi;obtain⟨kd,jo,U,la,du,we,ri,eg,_⟩:=gb K.G[i] (ZM hi);have ez:((K.G.map ag)[i]?).getD .non = .tup [.int kd,.int jo,.int U,.int la,.int du,.int we,.int ri]:=by rw[Zl,hg,eg];rfl
    rw[ez];refine⟨_,rfl,?_⟩;k_is;refine aa (show ixS (.tup [.int kd,.int jo,.int U,.int la,.int du,.int we,.int ri]) (.int 2) S5=aw (.int U,S5) from rfl) ⟨rfl,aF y.pot hf.1 (by lia) λx S6 x0 x1 d6=>?_⟩;k_is;refine⟨show 3+1<=1000 by decide,show 4+3<=1000 by decide,y.trans d6,q++[K.G[i].set 3 (K.G[i].getD 2 0+x)],?_,?_⟩
    ·rw[ea,ZQ,eg];rfl
    ·rw[Z8 hi];exact Nr.snoc z x0 (by lia)
   ·obtain⟨y,q,ea,z⟩:=T;rw[YB] at z;subst ea;have lG:=z.1;refine⟨by rw[Za,z.1];lia,?_⟩;refine aa (show cM aS (q.map ag) S5=aw (.tup (q.map ag),S5) from rfl) ?_;have sm:=Eg sk gb z;have h5:uy ns S5:=⟨(I.trans (C.trans y)).kp _ _ (by lia) Y.1,(I.trans (C.trans y)).kp _ _ (by lia) Y.2⟩;clear I C y pt Y gb;k_is;refine aa bG ?_;k_is;refine⟨⟨by lia,by lia⟩,?_⟩;rw[ZG];rw[Iz (K:={ K with G:=q })];exact tail (K:={ K with G:=q }) sm h5 λS' u11 u12 u13 hb=>⟨hb,_,_,_,_,_,_,_,_,_,_,_,_,_,rfl⟩
  ·obtain⟨B,a,b,c,d,e,f,g,h,i1,j,k,l,m,rfl⟩:=X;k_is
 obtain⟨d,S',e,rfl⟩:=O;exact⟨S',e⟩
end Lw
theorem PySem.Challenge.cw_downrings_k56_whole_just_so_much_longer_holds : PySem.Challenge.rw_downrings_k56_whole_just_so_much_longer.Holds :=
 Lw.head Lw.main
